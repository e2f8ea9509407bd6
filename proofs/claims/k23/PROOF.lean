import PyProof.Rows.All
import Wide.All
import OpenK.AllK
import Wide.FinOn
import HandS.ForMost
import HandS.IsInst
import HandS.SortInts
import HandS.Walk
import HandS.Property
import HandS.Style
import HandS.DictTup
import KE.SortData
import KE.KDictWalk
import HandS.OwnEq
import PyProof.InstNe
import KE.GoesMore
import KE.GoesEnum
import HandS.Iter
import KE.DataMinMax
import PyProof.Rows.StrStep
import HandS.More
import HandS.Deep
import HandS.DictComp
import PySem.Challenge.RW_suretexts_k23_whole_parts
set_option Elab.async false
set_option maxRecDepth 100000
set_option linter.all false
namespace My
/-! ### reading round and round -/
def rd (l : List Nat) (p n : Nat) : List Nat := (List.range n).map fun k => l.getD ((p + k) % l.length) 0
theorem rd_len (l : List Nat) (p n : Nat) : (rd l p n).length = n := by simp [rd]
theorem rd_zero (l : List Nat) (p : Nat) : rd l p 0 = [] := rfl
theorem rd_succ (l : List Nat) (p n : Nat) : rd l p (n + 1) = rd l p n ++ [l.getD ((p + n) % l.length) 0] := by
  simp [rd, List.range_succ]
theorem rd_get (l : List Nat) (p n k : Nat) (h : k < n) : (rd l p n)[k]? = some (l.getD ((p + k) % l.length) 0) := by
  simp [rd, h]
theorem rd_drop (l : List Nat) (p n k : Nat) : (rd l p n).drop k = rd l (p + k) (n - k) := by
  apply List.ext_getElem?
  intro i
  rw [List.getElem?_drop]
  by_cases h : k + i < n
  · rw [rd_get _ _ _ _ h, rd_get _ _ _ _ (by omega), Nat.add_assoc]
  · rw [List.getElem?_eq_none (by rw [rd_len]; omega), List.getElem?_eq_none (by rw [rd_len]; omega)]
theorem rd_mod (l : List Nat) (p n : Nat) : rd l (p % l.length) n = rd l p n := by
  unfold rd
  apply List.map_congr_left
  intro k _
  rw [Nat.mod_add_mod]
theorem rd_self (l : List Nat) : rd l 0 l.length = l := by
  apply List.ext_getElem?
  intro i
  by_cases h : i < l.length
  · rw [rd_get _ _ _ _ h, Nat.zero_add, Nat.mod_eq_of_lt h, List.getElem?_eq_getElem h, List.getD_eq_getElem?_getD, List.getElem?_eq_getElem h]
    rfl
  · rw [List.getElem?_eq_none (by rw [rd_len]; omega), List.getElem?_eq_none (by omega)]
/-- turned -/
theorem rd_turn (l : List Nat) (p : Nat) (h : p < l.length) : rd l p l.length = l.drop p ++ l.take p := by
  apply List.ext_getElem?
  intro i
  by_cases hi : i < l.length
  · rw [rd_get _ _ _ _ hi]
    by_cases h2 : i < l.length - p
    · rw [List.getElem?_append_left (by rw [List.length_drop]; exact h2), List.getElem?_drop, Nat.mod_eq_of_lt (by omega), List.getElem?_eq_getElem (by omega), List.getD_eq_getElem?_getD, List.getElem?_eq_getElem (by omega)]
      rfl
    · rw [List.getElem?_append_right (by rw [List.length_drop]; omega), List.length_drop, List.getElem?_take_of_lt (by omega)]
      have e : (p + i) % l.length = i - (l.length - p) := by
        rw [Nat.mod_eq_sub_mod (by omega), Nat.mod_eq_of_lt (by omega)]
        omega
      rw [e, List.getElem?_eq_getElem (by omega), List.getD_eq_getElem?_getD, List.getElem?_eq_getElem (by omega)]
      rfl
  · rw [List.getElem?_eq_none (by rw [rd_len]; omega), List.getElem?_eq_none (by rw [List.length_append, List.length_drop, List.length_take]; omega)]
/-- reading from a turned ring -/
theorem rd_turned (l : List Nat) (b p n : Nat) (hl : 0 < l.length) : rd (rd l b l.length) p n = rd l (b + p) n := by
  unfold rd
  apply List.map_congr_left
  intro k _
  have e : ((List.range l.length).map fun k => l.getD ((b + k) % l.length) 0).length = l.length := by simp
  rw [e]
  have h2 : (p + k) % l.length < l.length := Nat.mod_lt _ hl
  rw [List.getD_eq_getElem?_getD, List.getElem?_map, List.getElem?_range h2]
  show l.getD ((b + (p + k) % l.length) % l.length) 0 = _
  rw [Nat.add_mod_mod, Nat.add_assoc]

/-! ### beginnings that are endings -/
def Pre (w t : List Nat) (k : Nat) : Prop := k ≤ w.length ∧ w.take k <:+ t
def Longest (w t : List Nat) (k : Nat) : Prop := Pre w t k ∧ ∀ k', Pre w t k' → k' ≤ k
def IsLB (p : List Nat) (b : Nat) : Prop := b < p.length ∧ p.take b <:+ p ∧ ∀ b', b' < p.length → p.take b' <:+ p → b' ≤ b
def At (w t : List Nat) (c k : Nat) : Prop := Pre w t k ∧ ∀ k', Pre w t k' → w[k']? = some c → k' ≤ k
theorem suff_one {a t : List Nat} {x c : Nat} : a ++ [x] <:+ t ++ [c] ↔ a <:+ t ∧ x = c := by
  constructor
  · rintro ⟨u, hu⟩
    rw [← List.append_assoc] at hu
    have h := List.append_inj' hu rfl
    exact ⟨⟨u, h.1⟩, by simpa using h.2⟩
  · rintro ⟨⟨u, hu⟩, rfl⟩
    exact ⟨u, by rw [← hu, List.append_assoc]⟩
theorem pre_succ {w t : List Nat} {c k : Nat} : Pre w (t ++ [c]) (k + 1) ↔ Pre w t k ∧ w[k]? = some c := by
  unfold Pre
  constructor
  · rintro ⟨h1, h2⟩
    have hk : k < w.length := by omega
    rw [List.take_succ_eq_append_getElem hk, suff_one] at h2
    exact ⟨⟨by omega, h2.1⟩, by rw [List.getElem?_eq_getElem hk, h2.2]⟩
  · rintro ⟨⟨h1, h2⟩, h3⟩
    have hk : k < w.length := by
      rw [List.getElem?_eq_some_iff] at h3
      exact h3.1
    rw [List.take_succ_eq_append_getElem hk, suff_one]
    rw [List.getElem?_eq_getElem hk] at h3
    exact ⟨by omega, h2, Option.some.inj h3⟩
theorem pre_zero (w t : List Nat) : Pre w t 0 := ⟨Nat.zero_le _, by simp⟩
theorem at_start {w t : List Nat} {c k : Nat} (h : Longest w t k) : At w t c k := ⟨h.1, fun k' h' _ => h.2 k' h'⟩
theorem at_fall {w t : List Nat} {c k b : Nat} (h : At w t c k) (hne : w[k]? ≠ some c) (hb : IsLB (w.take k) b) : At w t c b := by
  obtain ⟨h1, h2⟩ := h
  obtain ⟨b1, b2, b3⟩ := hb
  have lk : (w.take k).length = k := by rw [List.length_take]; have := h1.1; omega
  rw [lk] at b1 b3
  have tk : ∀ j, j ≤ k → (w.take k).take j = w.take j := fun j hj => by rw [List.take_take, Nat.min_eq_left hj]
  refine ⟨⟨by have := h1.1; omega, ?_⟩, fun k' p' e' => ?_⟩
  · rw [← tk b (by omega)]
    exact b2.trans h1.2
  · have l1 := h2 k' p' e'
    have l2 : k' ≠ k := by rintro rfl; exact hne e'
    have l3 : k' < k := by omega
    refine b3 k' l3 ?_
    rw [tk k' (by omega)]
    refine List.suffix_of_suffix_length_le p'.2 h1.2 ?_
    rw [List.length_take, List.length_take]
    have := h1.1
    omega
theorem at_hit {w t : List Nat} {c k : Nat} (h : At w t c k) (he : w[k]? = some c) : Longest w (t ++ [c]) (k + 1) := by
  refine ⟨pre_succ.mpr ⟨h.1, he⟩, fun k' p' => ?_⟩
  cases k' with
  | zero => omega
  | succ j =>
    have q := pre_succ.mp p'
    have := h.2 j q.1 q.2
    omega
theorem at_miss {w t : List Nat} {c : Nat} (h : At w t c 0) (he : w[0]? ≠ some c) : Longest w (t ++ [c]) 0 := by
  refine ⟨pre_zero _ _, fun k' p' => ?_⟩
  cases k' with
  | zero => omega
  | succ j =>
    have q := pre_succ.mp p'
    have l := h.2 j q.1 q.2
    have e : j = 0 := by omega
    subst e
    exact absurd q.2 he
theorem longest_nil (w : List Nat) : Longest w [] 0 := by
  refine ⟨pre_zero _ _, fun k' p' => ?_⟩
  have h := List.suffix_nil.mp p'.2
  have h2 : (w.take k').length = 0 := by rw [h]; rfl
  rw [List.length_take] at h2
  have := p'.1
  omega
theorem longest_le {w t : List Nat} {k : Nat} (h : Longest w t k) : k ≤ t.length := by
  have h1 := h.1.2.length_le
  rw [List.length_take] at h1
  have := h.1.1
  omega
/-- the longest beginning that ends the letters behind the first one is the longest border -/
theorem lb_of_longest {w : List Nat} {i k : Nat} (hi : i < w.length) (h : Longest w ((w.drop 1).take i) k) : IsLB (w.take (i + 1)) k := by
  have hk := longest_le h
  have ht : ((w.drop 1).take i).length = i := by rw [List.length_take, List.length_drop]; omega
  rw [ht] at hk
  have hl : (w.take (i + 1)).length = i + 1 := by rw [List.length_take]; omega
  have tk : ∀ j, j ≤ i + 1 → (w.take (i + 1)).take j = w.take j := fun j hj => by rw [List.take_take, Nat.min_eq_left hj]
  obtain ⟨a, r, rfl⟩ : ∃ a r, w = a :: r := by
    cases w with
    | nil => simp at hi
    | cons a r => exact ⟨a, r, rfl⟩
  have e : (a :: r).take (i + 1) = a :: ((a :: r).drop 1).take i := by simp
  refine ⟨by omega, ?_, fun b' hb' hs => ?_⟩
  · rw [tk k (by omega), e]
    exact h.1.2.trans (List.suffix_cons _ _)
  · rw [hl] at hb'
    refine h.2 b' ⟨by omega, ?_⟩
    rw [tk b' (by omega), e, List.suffix_cons_iff] at hs
    rcases hs with hs | hs
    · have hq := congrArg List.length hs
      rw [List.length_take, ← e, hl] at hq
      omega
    · exact hs
theorem lb_one {w : List Nat} (h : 0 < w.length) : IsLB (w.take 1) 0 := lb_of_longest h (by simpa using longest_nil w)
theorem lb_unique {p : List Nat} {a b : Nat} (h1 : IsLB p a) (h2 : IsLB p b) : a = b := by
  have := h1.2.2 b h2.1 h2.2.1
  have := h2.2.2 a h1.1 h1.2.1
  omega
/-- the list of the longest borders -/
def Bords (w : List Nat) (L : List Nat) : Prop := L.length = w.length ∧ ∀ j, j < w.length → ∃ b, L[j]? = some b ∧ IsLB (w.take (j + 1)) b
theorem bords_unique {w A B : List Nat} (h1 : Bords w A) (h2 : Bords w B) : A = B := by
  apply List.ext_getElem?
  intro i
  by_cases h : i < w.length
  · obtain ⟨a, ea, la⟩ := h1.2 i h
    obtain ⟨b, eb, lb⟩ := h2.2 i h
    rw [ea, eb, lb_unique la lb]
  · rw [List.getElem?_eq_none (by rw [h1.1]; omega), List.getElem?_eq_none (by rw [h2.1]; omega)]
/-- some first ones of them -/
def BordsTo (w : List Nat) (n : Nat) (L : List Nat) : Prop := L.length = n ∧ ∀ j, j < n → ∃ b, L[j]? = some b ∧ IsLB (w.take (j + 1)) b
theorem bordsTo_one {w : List Nat} (h : 0 < w.length) : BordsTo w 1 [0] := by
  refine ⟨rfl, fun j hj => ?_⟩
  have e : j = 0 := by omega
  subst e
  exact ⟨0, rfl, lb_one h⟩
theorem bordsTo_succ {w L : List Nat} {i k : Nat} (hi : i < w.length) (hB : BordsTo w i L) (h : Longest w ((w.drop 1).take i) k) : BordsTo w (i + 1) (L ++ [k]) := by
  refine ⟨by rw [List.length_append, hB.1]; rfl, fun j hj => ?_⟩
  by_cases hji : j < i
  · obtain ⟨b, e, l⟩ := hB.2 j hji
    exact ⟨b, by rw [List.getElem?_append_left (by rw [hB.1]; exact hji)]; exact e, l⟩
  · have e : j = i := by omega
    subst e
    refine ⟨k, ?_, lb_of_longest hi h⟩
    rw [List.getElem?_append_right (by rw [hB.1]; omega), hB.1, Nat.sub_self]
    rfl
theorem bordsTo_at {w L : List Nat} {n k : Nat} (hB : BordsTo w n L) (h0 : 0 < k) (hk : k ≤ n) : ∃ b, L[k - 1]? = some b ∧ IsLB (w.take k) b ∧ b < k := by
  obtain ⟨b, e, l⟩ := hB.2 (k - 1) (by omega)
  rw [show k - 1 + 1 = k by omega] at l
  refine ⟨b, e, l, ?_⟩
  have := l.1
  rw [List.length_take] at this
  omega
theorem bords_of {w L : List Nat} : BordsTo w w.length L ↔ Bords w L := Iff.rfl

/-! ### a word begins at a place -/
def due (l w : List Nat) : List Nat := (List.range l.length).filter fun p => rd l p w.length == w
theorem mem_due {l w : List Nat} {p : Nat} : p ∈ due l w ↔ p < l.length ∧ rd l p w.length = w := by
  simp [due]
/-- of the first n letters read -/
def dueTo (l w : List Nat) (n : Nat) : List Nat := (List.range n).filter fun p => rd l p w.length == w
theorem dueTo_all (l w : List Nat) : dueTo l w l.length = due l w := rfl
theorem dueTo_succ_yes {l w : List Nat} {n : Nat} (h : rd l n w.length = w) : dueTo l w (n + 1) = dueTo l w n ++ [n] := by
  simp [dueTo, List.range_succ, List.filter_append, h]
theorem dueTo_succ_no {l w : List Nat} {n : Nat} (h : ¬ rd l n w.length = w) : dueTo l w (n + 1) = dueTo l w n := by
  simp [dueTo, List.range_succ, List.filter_append, h]
/-- the whole word was just read -/
theorem longest_full {l w : List Nat} {n k : Nat} (h : Longest w (rd l 0 n) k) : k = w.length ↔ w.length ≤ n ∧ rd l (n - w.length) w.length = w := by
  have key : w <:+ rd l 0 n ↔ w.length ≤ n ∧ rd l (n - w.length) w.length = w := by
    constructor
    · intro hs
      have hl := hs.length_le
      rw [rd_len] at hl
      refine ⟨hl, ?_⟩
      have e := List.suffix_iff_eq_drop.mp hs
      rw [rd_len, rd_drop, Nat.zero_add, show n - (n - w.length) = w.length by omega] at e
      exact e.symm
    · rintro ⟨hl, e⟩
      rw [List.suffix_iff_eq_drop, rd_len, rd_drop, Nat.zero_add, show n - (n - w.length) = w.length by omega]
      exact e.symm
  rw [← key]
  constructor
  · rintro rfl
    have := h.1.2
    rw [List.take_length] at this
    exact this
  · intro hs
    have h1 := h.1.1
    have h2 := h.2 w.length ⟨Nat.le_refl _, by rw [List.take_length]; exact hs⟩
    omega

/-! ### the period -/
theorem getD_lt {l : List Nat} {i : Nat} (h : i < l.length) : l[i]? = some (l.getD i 0) := by
  rw [List.getD_eq_getElem?_getD, List.getElem?_eq_getElem h]
  rfl
theorem line_period {l : List Nat} {b : Nat} (h : IsLB l b) (i : Nat) (hi : i + (l.length - b) < l.length) : l.getD (i + (l.length - b)) 0 = l.getD i 0 := by
  have hb := h.1
  have e := List.suffix_iff_eq_drop.mp h.2.1
  have hl : (l.take b).length = b := by rw [List.length_take]; omega
  rw [hl] at e
  have e2 := congrArg (fun z : List Nat => z[i]?) e
  simp only [List.getElem?_take, List.getElem?_drop] at e2
  rw [if_pos (by omega)] at e2
  rw [List.getD_eq_getElem?_getD, List.getD_eq_getElem?_getD, e2, Nat.add_comm]
theorem line_mult {l : List Nat} {s : Nat} (h : ∀ i, i + s < l.length → l.getD (i + s) 0 = l.getD i 0) : ∀ (m i : Nat), i + m * s < l.length → l.getD (i + m * s) 0 = l.getD i 0
  | 0, i, _ => by simp
  | m + 1, i, hi => by
    have e : i + (m + 1) * s = (i + m * s) + s := by rw [Nat.succ_mul]; omega
    rw [e] at hi ⊢
    rw [h _ hi]
    exact line_mult h m i (by omega)
theorem round_period {l : List Nat} {s : Nat} (_hs : 0 < s) (hsl : s ≤ l.length) (hd : l.length % s = 0) (h : ∀ i, i + s < l.length → l.getD (i + s) 0 = l.getD i 0) (i : Nat) (hi : i < l.length) : l.getD ((i + s) % l.length) 0 = l.getD i 0 := by
  by_cases hlt : i + s < l.length
  · rw [Nat.mod_eq_of_lt hlt]
    exact h i hlt
  · have e1 : (i + s) % l.length = i + s - l.length := by
      rw [Nat.mod_eq_sub_mod (by omega), Nat.mod_eq_of_lt (by omega)]
    rw [e1]
    obtain ⟨q, hq⟩ : ∃ q, l.length = s * q := ⟨l.length / s, by rw [Nat.mul_div_cancel' (Nat.dvd_of_mod_eq_zero hd)]⟩
    have hq0 : 0 < q := by
      rcases Nat.eq_zero_or_pos q with z | z
      · subst z; omega
      · exact z
    obtain ⟨r, rfl⟩ : ∃ r, q = r + 1 := ⟨q - 1, by omega⟩
    have e2 : l.length = r * s + s := by rw [hq, Nat.mul_succ, Nat.mul_comm]
    have e3 : i = (i + s - l.length) + r * s := by omega
    have := line_mult h r (i + s - l.length) (by omega)
    rw [← e3] at this
    exact this.symm
/-- the told period -/
def per (l : List Nat) (b : Nat) : Nat := if l.length % (l.length - b) = 0 then l.length - b else l.length
theorem per_turns {l : List Nat} {b : Nat} (h : IsLB l b) (i : Nat) (hi : i < l.length) : l.getD ((i + per l b) % l.length) 0 = l.getD i 0 := by
  have hb := h.1
  unfold per
  split
  · exact round_period (by omega) (by omega) (by assumption) (fun j hj => line_period h j hj) i hi
  · rw [Nat.add_mod_right, Nat.mod_eq_of_lt hi]
theorem rd_per {l : List Nat} {b : Nat} (h : IsLB l b) (p n : Nat) : rd l (p + per l b) n = rd l p n := by
  have hb := h.1
  unfold rd
  apply List.map_congr_left
  intro k _
  rw [show p + per l b + k = (p + k) + per l b by omega, ← Nat.mod_add_mod]
  rw [per_turns h ((p + k) % l.length) (Nat.mod_lt _ (by omega))]
theorem per_pos {l : List Nat} {b : Nat} (h : IsLB l b) : 0 < per l b ∧ per l b ≤ l.length := by
  have hb := h.1
  unfold per
  split <;> omega

/-! ### rising lists of the same numbers are one list -/
theorem rising_ext : ∀ {a b : List Int}, a.Pairwise (· < ·) → b.Pairwise (· < ·) → (∀ x, x ∈ a ↔ x ∈ b) → a = b
  | [], [], _, _, _ => rfl
  | [], y :: ys, _, _, h => by have := (h y).mpr (by simp); simp at this
  | x :: xs, [], _, _, h => by have := (h x).mp (by simp); simp at this
  | x :: xs, y :: ys, ha, hb, h => by
    rw [List.pairwise_cons] at ha hb
    have e : x = y := by
      have h1 := (h x).mp (by simp)
      have h2 := (h y).mpr (by simp)
      rw [List.mem_cons] at h1 h2
      rcases h1 with h1 | h1
      · exact h1
      · rcases h2 with h2 | h2
        · exact h2.symm
        · have := ha.1 y h2
          have := hb.1 x h1
          omega
    subst e
    congr 1
    refine rising_ext ha.2 hb.2 fun z => ?_
    constructor
    · intro hz
      have := (h z).mp (List.mem_cons_of_mem _ hz)
      rw [List.mem_cons] at this
      rcases this with rfl | this
      · have := ha.1 _ hz; omega
      · exact this
    · intro hz
      have := (h z).mpr (List.mem_cons_of_mem _ hz)
      rw [List.mem_cons] at this
      rcases this with rfl | this
      · have := hb.1 _ hz; omega
      · exact this
theorem rising_of {s : List Int} (h : s.Pairwise (· ≤ ·)) (n : s.Nodup) : s.Pairwise (· < ·) := by
  have := h.and n
  exact this.imp fun ⟨h1, h2⟩ => by omega
/-- sorted, and the same numbers, none twice: that is it -/
theorem sorted_is {s m d : List Int} (hp : List.Perm s m) (hs : s.Pairwise (· ≤ ·)) (hn : m.Nodup) (hd : d.Pairwise (· < ·)) (h : ∀ x, x ∈ m ↔ x ∈ d) : s = d := by
  refine rising_ext (rising_of hs (hp.nodup_iff.mpr hn)) hd fun x => ?_
  rw [hp.mem_iff]
  exact h x
theorem due_rising (l w : List Nat) : ((due l w).map fun n : Nat => (n : Int)).Pairwise (· < ·) := by
  rw [List.pairwise_map]
  refine List.Pairwise.imp (fun {a b} (h : a < b) => by omega) ?_
  exact List.Pairwise.filter _ List.pairwise_lt_range
end My
namespace My
open PySem L2 PyProof.Rows
/-- a text by its letters -/
abbrev T (l : List Nat) : V := .str ⟨l.toArray⟩
section
variable {X : Cx}
theorem mul_flat (l : List Nat) (n : Nat) : ((List.replicate n l.toArray).foldl (· ++ ·) (#[] : Array Nat)) = (List.replicate n l).flatten.toArray := by
  have h : ∀ (m : Nat) (acc : List Nat), (List.replicate m l.toArray).foldl (· ++ ·) acc.toArray = (acc ++ (List.replicate m l).flatten).toArray := by
    intro m
    induction m with
    | zero => intro acc; simp
    | succ m ih =>
      intro acc
      rw [List.replicate_succ, List.foldl_cons]
      have e : acc.toArray ++ l.toArray = (acc ++ l).toArray := by simp
      rw [e, ih, List.replicate_succ, List.flatten_cons, List.append_assoc]
  have := h n []
  simpa using this
theorem op_mul_str : OpR X (binaryOp .Mult) (fun x y H Q => ∃ l n, x = T l ∧ y = .int (n : Nat) ∧ 1 ≤ n ∧ n ≤ 1000 ∧ l.length ≤ 1000 ∧ Q (T (List.replicate n l).flatten) H) := by
  intro pins s σ H x y v u Q I rx ry h
  obtain ⟨l, n, rfl, rfl, h1, h2, h3, q⟩ := h
  obtain ⟨t, rfl⟩ := rx
  obtain ⟨t', rfl⟩ := ry
  have hlen : (⟨l.toArray⟩ : Str).length = l.length := by simp [Str.length]
  have ok : MulOk ⟨l.toArray⟩ (n : Int) := by
    refine ⟨?_, fun _ _ => ?_, fun _ _ => ?_⟩
    · have a1 : decide ((n : Int) < -(2 ^ 63 : Int)) = false := decide_eq_false (by omega)
      have a2 : decide ((n : Int) ≥ 2 ^ 63) = false := decide_eq_false (by omega)
      rw [a1, a2]
      rfl
    · rw [hlen]
      have : (1000000 : Int) ≤ (2 ^ 63 - 1) / (n : Int) := by
        rw [Int.le_ediv_iff_mul_le (by omega)]
        omega
      omega
    · rw [hlen]
      have e : (n : Int).toNat = n := by omega
      rw [e]
      have : l.length * n ≤ 1000 * 1000 := Nat.mul_le_mul h3 h2
      have z : (1000000 : Nat) ≤ sizeLine := by decide
      simp [Builtin.Str.tooLong]
      omega
  refine SB.mul ok fun t'' k => ?_
  have em : Txt.mul ⟨l.toArray⟩ (n : Int) = ⟨(List.replicate n l).flatten.toArray⟩ := by
    unfold Txt.mul
    rw [if_neg (by omega)]
    split
    · rename_i c
      rw [hlen] at c
      simp at c
      rcases c with c | c
      · have : n = 1 := by omega
        subst this
        simp
      · subst c
        simp
    · have e : (n : Int).toNat = n := by omega
      rw [e]
      exact congrArg Str.mk (mul_flat l n)
  rw [em]
  exact ⟨.str _, H, I.tok _, ⟨_, rfl⟩, q⟩
theorem call_repr_bl : CallR X (.builtin "repr") (fun xs H Q => ∃ b, xs = [.bl b] ∧ Q (.str (if b then "True" else "False")) H) := by
  intro pins s σ H xs us Q I r h
  obtain ⟨b, rfl, q⟩ := h
  obtain ⟨u, rfl, e⟩ := vals1 r
  cases e
  exact PySem.P.repr_of_bool ⟨.str _, H, I.tok _, ⟨_, rfl⟩, q⟩
/-- a module's constant that is an int -/
theorem pe_globI {x : Str} {n : Int} {pos : Pos} (h : ∃ t, X.mg x = some (.int n t)) (hg : Gl X x := by rfl) (hd : (x == ("__debug__" : Str)) = false := by decide) : PE X (.Name x pos) (tC (.int n)) := by
  obtain ⟨t, e⟩ := h
  exact pe_glob (v := .int n) hg e ⟨t, rfl⟩ hd
variable {CX : CXT} {k : Nat} {f : Addr} {fd : FuncData} {ps ks : List Str} {sp : Sp} {E : XK} {x : Str} {p pos : Pos} {kws : List Keyword} {tk : TA} {g : List Value → List Value → List Value} {gV : List V → List V → List V}
/-- f(a=.., b=..) -/
theorem pe_callKK (F : FnOk X.prog X.w X.K X.mg X.base CX k f fd ps sp) (hr : Room k X.A) (hg : Gl X x) (hm : X.mg x = some (.ref f)) (hk : PySem.W.keepIn X.K (.ref f) = true) (hb : KBinds X.K fd ps ks g gV) (hx : Passes CX X E)
    (hkw : PK X kws tk) (hall : (backToKw pos (keywordEach kws X.env)).all (·.1.isSome) = true := by rfl) (hks : (backToKw pos (keywordEach kws X.env)).filterMap (·.1) = ks := by rfl)
    (hdb : (x == ("__debug__" : Str)) = false := by decide)
    (hpl : ((backTo pos (starEach [] X.env)).any (·.1) || (backToKw pos (keywordEach kws X.env)).any (·.1.isNone)) = false := by rfl) :
    PE X (.Call (.Name x p) [] kws pos) (tCallK sp gV E tNil tk) := by
  refine ⟨fun pins s σ H Q I h => ?_⟩
  refine wpAny_Call_Name_kw (ld_glob I hg hm ?_ hdb)
  refine PySem.W.callWith_KW0 (h₀ := X.base) I.ok.mod.kin hk hall (thn (hkw.run pos pins s σ H _ I h) fun ws s2 ⟨zs, H2, I2, rz, q2⟩ => ⟨I2.kIn, ?_⟩) hpl
  rw [hks]
  exact run_fnk F hr hb hx I2 .nil rz q2
end
/-! ### a def that stands, and one that keeps a promise -/
def Def (K : PySem.W.Frag) (mg : Str → Option Value) (x : Str) (st : Stmt) (ps : List Str) : Prop := ∃ (f : Addr) (fd : FuncData), Fun K x x st f fd ∧ mg x = some (.ref f) ∧ Binds K fd ps []
section
variable {P : Program} {w : World} {K : PySem.W.Frag} {mg : Str → Option Value} {base : Heap}
def Good (P : Program) (w : World) (K : PySem.W.Frag) (mg : Str → Option Value) (base : Heap) (x : Str) (st : Stmt) (ps : List Str) (k : Nat) (sp : Sp) : Prop := ∃ (f : Addr) (fd : FuncData), FnOk P w K mg base CX0 k f fd ps sp ∧ mg x = some (.ref f) ∧ PySem.W.keepIn K (.ref f) = true ∧ Binds K fd ps [] ∧ Fun K x x st f fd
theorem Def.good {x : Str} {st : Stmt} {ps : List Str} {k : Nat} {sp : Sp} (D : Def K mg x st ps) (h : ∀ f fd, Fun K x x st f fd → FnOk P w K mg base CX0 k f fd ps sp) : Good P w K mg base x st ps k sp := by
  obtain ⟨f, fd, F, m, b⟩ := D
  exact ⟨f, fd, h f fd F, m, F.kp, b, F⟩
theorem def_mk {h : Heap} (X : K.In h) (G : h.Ns mainGlobals mg) {x : Str} {st : Stmt} {ps : List Str} {f : Addr} {oc : Value} {od an : Option Addr} {osl : Array (Option Value)} {kV doc pm cdv ct : Value} (a : PySem.W.nsIn K mainGlobals x = some (some (.ref f)))
    (l : K.lookup f = some ⟨oc, od, .func (PySem.W.fnOf x x (defArgs st) (defBody st) (defScope st) .none kV doc pm an cdv ct), osl⟩) (c : PySem.W.codeIn K cdv x = true) (k : PySem.W.keepIn K (.ref f) = true)
    (hb : ∀ (kV doc pm : Value) (an : Option Addr) (cdv ct : Value) (us : List Value), us.length = ps.length → bindArgs (PySem.W.fnOf x x (defArgs st) (defBody st) (defScope st) .none kV doc pm an cdv ct) ⟨us, []⟩ = pure (ps.zip us)) : Def K mg x st ps :=
  ⟨f, _, fun_mk l c k, PySem.W.mg_of X G a, (fun_mk l c k).binds hb⟩
theorem fun_kbinds {x qual : Str} {st : Stmt} {f : Addr} {fd : FuncData} {ps ks : List Str} (F : Fun K x qual st f fd) (g : List Value → List Value → List Value) (gV : List V → List V → List V)
    (hrel : ∀ {vs : List V} {us : List Value} {zs : List V} {ws : List Value}, Vals vs us → Vals zs ws → Vals (gV vs zs) (g us ws))
    (h : ∀ (kV doc pm : Value) (an : Option Addr) (cdv ct : Value) (us ws : List Value), (g us ws).length = ps.length → bindArgs (PySem.W.fnOf x qual (defArgs st) (defBody st) (defScope st) .none kV doc pm an cdv ct) ⟨us, ks.zip ws⟩ = pure (ps.zip (g us ws))) : KBinds K fd ps ks g gV := by
  obtain ⟨oc, od, kV, doc, pm, an, cdv, ct, osl, rfl, lk, hcd⟩ := F.ex
  exact ⟨fun s us ws X hl => .of_eq (h kV doc pm an cdv ct us ws hl), hrel⟩
/-- two keywords, in the parameters' order, or turned; one -/
def g12 {α : Type} : List α → List α → List α | [], [a, b] => [a, b] | _, _ => []
def g21 {α : Type} : List α → List α → List α | [], [a, b] => [b, a] | _, _ => []
def g1 {α : Type} : List α → List α → List α | [], [a] => [a] | _, _ => []
theorem g12_inv {α : Type} {us ws : List α} (h : (g12 us ws).length = 2) : us = [] ∧ ∃ a b, ws = [a, b] := by
  match us, ws, h with
  | [], [a, b], _ => exact ⟨rfl, a, b, rfl⟩
  | [], [], h => exact absurd h (by simp [g12, g21, g1])
  | [], [_], h => exact absurd h (by simp [g12])
  | [], _ :: _ :: _ :: _, h => exact absurd h (by simp [g12])
  | _ :: _, _, h => exact absurd h (by simp [g12])
theorem g21_inv {α : Type} {us ws : List α} (h : (g21 us ws).length = 2) : us = [] ∧ ∃ a b, ws = [a, b] := by
  match us, ws, h with
  | [], [a, b], _ => exact ⟨rfl, a, b, rfl⟩
  | [], [], h => exact absurd h (by simp [g12, g21, g1])
  | [], [_], h => exact absurd h (by simp [g21])
  | [], _ :: _ :: _ :: _, h => exact absurd h (by simp [g21])
  | _ :: _, _, h => exact absurd h (by simp [g21])
theorem g1_inv {α : Type} {us ws : List α} (h : (g1 us ws).length = 1) : us = [] ∧ ∃ a, ws = [a] := by
  match us, ws, h with
  | [], [a], _ => exact ⟨rfl, a, rfl⟩
  | [], [], h => exact absurd h (by simp [g12, g21, g1])
  | [], _ :: _ :: _, h => exact absurd h (by simp [g1])
  | _ :: _, _, h => exact absurd h (by simp [g1])
theorem rel12 {vs : List V} {us : List Value} {zs : List V} {ws : List Value} (a : Vals vs us) (b : Vals zs ws) : Vals (g12 vs zs) (g12 us ws) := by
  cases a with
  | nil =>
    cases b with
    | nil => exact .nil
    | cons r b =>
      cases b with
      | nil => exact .nil
      | cons r2 b =>
        cases b with
        | nil => exact .cons r (.cons r2 .nil)
        | cons r3 b => exact .nil
  | cons r a => exact .nil
theorem rel21 {vs : List V} {us : List Value} {zs : List V} {ws : List Value} (a : Vals vs us) (b : Vals zs ws) : Vals (g21 vs zs) (g21 us ws) := by
  cases a with
  | nil =>
    cases b with
    | nil => exact .nil
    | cons r b =>
      cases b with
      | nil => exact .nil
      | cons r2 b =>
        cases b with
        | nil => exact .cons r2 (.cons r .nil)
        | cons r3 b => exact .nil
  | cons r a => exact .nil
theorem rel1 {vs : List V} {us : List Value} {zs : List V} {ws : List Value} (a : Vals vs us) (b : Vals zs ws) : Vals (g1 vs zs) (g1 us ws) := by
  cases a with
  | nil =>
    cases b with
    | nil => exact .nil
    | cons r b =>
      cases b with
      | nil => exact .cons r .nil
      | cons r3 b => exact .nil
  | cons r a => exact .nil
end
end My
namespace My
open PySem L2 PyProof.Rows
/-! ### methods, properties, __init__ of a class at C -/
section
variable {P : Program} {w : World} {K : PySem.W.Frag} {mg : Str → Option Value} {base : Heap} {C : Addr}
def DefM (K : PySem.W.Frag) (C : Addr) (x qual : Str) (st : Stmt) (ps : List Str) : Prop := ∃ (f : Addr) (fd : FuncData), Fun K x qual st f fd ∧ Meth K C x f ∧ Binds K fd ps []
def DefP (K : PySem.W.Frag) (C : Addr) (x qual : Str) (st : Stmt) (ps : List Str) : Prop := ∃ (p f : Addr) (fd : FuncData), Fun K x qual st f fd ∧ PropOf K C x p f ∧ Binds K fd ps []
def DefI (K : PySem.W.Frag) (C : Addr) (x qual : Str) (st : Stmt) (ps : List Str) : Prop := ∃ (f : Addr) (fd : FuncData), Fun K x qual st f fd ∧ Mk K C f ∧ Binds K fd ps []
def GoodM (P : Program) (w : World) (K : PySem.W.Frag) (mg : Str → Option Value) (base : Heap) (C : Addr) (x qual : Str) (st : Stmt) (ps : List Str) (k : Nat) (sp : Sp) : Prop := ∃ (f : Addr) (fd : FuncData), FnOk P w K mg base CX0 k f fd ps sp ∧ Meth K C x f ∧ Binds K fd ps [] ∧ Fun K x qual st f fd
def GoodP (P : Program) (w : World) (K : PySem.W.Frag) (mg : Str → Option Value) (base : Heap) (C : Addr) (x _qual : Str) (_st : Stmt) (ps : List Str) (k : Nat) (sp : Sp) : Prop := ∃ (p f : Addr) (fd : FuncData), FnOk P w K mg base CX0 k f fd ps sp ∧ PropOf K C x p f ∧ Binds K fd ps []
def GoodI (P : Program) (w : World) (K : PySem.W.Frag) (mg : Str → Option Value) (base : Heap) (C : Addr) (x _qual : Str) (_st : Stmt) (ps : List Str) (k : Nat) (sp : Sp) : Prop := ∃ (f : Addr) (fd : FuncData), FnOk P w K mg base CX0 k f fd ps sp ∧ Mk K C f ∧ Binds K fd ps []
theorem DefM.good {x qual : Str} {st : Stmt} {ps : List Str} {k : Nat} {sp : Sp} (D : DefM K C x qual st ps) (h : ∀ f fd, Fun K x qual st f fd → FnOk P w K mg base CX0 k f fd ps sp) : GoodM P w K mg base C x qual st ps k sp := by
  obtain ⟨f, fd, F, m, b⟩ := D
  exact ⟨f, fd, h f fd F, m, b, F⟩
theorem DefP.good {x qual : Str} {st : Stmt} {ps : List Str} {k : Nat} {sp : Sp} (D : DefP K C x qual st ps) (h : ∀ f fd, Fun K x qual st f fd → FnOk P w K mg base CX0 k f fd ps sp) : GoodP P w K mg base C x qual st ps k sp := by
  obtain ⟨p, f, fd, F, m, b⟩ := D
  exact ⟨p, f, fd, h f fd F, m, b⟩
theorem DefI.good {x qual : Str} {st : Stmt} {ps : List Str} {k : Nat} {sp : Sp} (D : DefI K C x qual st ps) (h : ∀ f fd, Fun K x qual st f fd → FnOk P w K mg base CX0 k f fd ps sp) : GoodI P w K mg base C x qual st ps k sp := by
  obtain ⟨f, fd, F, m, b⟩ := D
  exact ⟨f, fd, h f fd F, m, b⟩
end
def g123 {α : Type} : List α → List α → List α | [], [a, b, c] => [a, b, c] | _, _ => []
theorem g123_inv {α : Type} {us ws : List α} (h : (g123 us ws).length = 3) : us = [] ∧ ∃ a b c, ws = [a, b, c] := by
  unfold g123 at h
  split at h
  · exact ⟨rfl, _, _, _, rfl⟩
  · simp at h
theorem rel123 {vs : List V} {us : List Value} {zs : List V} {ws : List Value} (a : Vals vs us) (b : Vals zs ws) : Vals (g123 vs zs) (g123 us ws) := by
  cases a with
  | cons h t => exact .nil
  | nil => cases b with
    | nil => exact .nil
    | cons h1 t => cases t with
      | nil => exact .nil
      | cons h2 t => cases t with
        | nil => exact .nil
        | cons h3 t => cases t with
          | nil => exact .cons h1 (.cons h2 (.cons h3 .nil))
          | cons h4 t => exact .nil
/-- self, then one keyword -/
def gm1 {α : Type} : List α → List α → List α | [a], [b] => [a, b] | _, _ => []
theorem gm1_inv {α : Type} {us ws : List α} (h : (gm1 us ws).length = 2) : ∃ a b, us = [a] ∧ ws = [b] := by
  unfold gm1 at h
  split at h
  · exact ⟨_, _, rfl, rfl⟩
  · simp at h
theorem relm1 {vs : List V} {us : List Value} {zs : List V} {ws : List Value} (a : Vals vs us) (b : Vals zs ws) : Vals (gm1 vs zs) (gm1 us ws) := by
  cases a with
  | nil => exact .nil
  | cons h t => cases t with
    | cons h2 t => exact .nil
    | nil => cases b with
      | nil => exact .nil
      | cons h1 t => cases t with
        | nil => exact .cons h (.cons h1 .nil)
        | cons h2 t => exact .nil
/-! ### a list or a tuple, gone through -/
section
variable {X : Cx}
theorem pi_or {tg e : Expr} {w1 w2 : TI} (h1 : PI X tg e w1) (h2 : PI X tg e w2) : PI X tg e (fun σ H R => w1 σ H R ∨ w2 σ H R) := by
  constructor
  intro pins s σ H R I h
  rcases h with h | h
  · exact h1.run pins s σ H R I h
  · exact h2.run pins s σ H R I h
end
end My
namespace My
open PySem PySem.W L2 L2.DX PyProof.Rows
/-! ### d.items() of a dict by texts, sorted -/
section
variable {X : Cx}
def rItemsK : V → List V → Hp → VK → Prop := fun x xs H Q => ∃ (a : Addr) (kvs : List (Key × V)), x = .ref a ∧ xs = [] ∧ H a = some (.dK kvs) ∧ ∀ p, H p = none → Q (.ref p) (upd H p (itemsO p a))
theorem mt_itemsK : MtR X "dict.items" rItemsK := by
  intro pins s σ H x xs v us Q I rx rxs h
  obtain ⟨d, kvs, rfl, rfl, hd0, q⟩ := h
  cases rx
  cases rxs
  obtain ⟨_, hd, vs, rel, dof⟩ := dk_of I.hok hd0
  obtain ⟨es, ep, raw, _, _⟩ := PySem.Heap.DictOf.raw dof
  exact DT.callItems (es := es) (ep := ep) hd raw ⟨.ref s.heap.objs.size, upd H s.heap.objs.size (itemsO s.heap.objs.size d), I.laid (t' := s.toks) (fun b u e => Heap.get?_push_of_some _ e) (Nat.le_refl _) (itemsO_ok (Heap.get?_push_size _ rfl)), rfl, q _ (I.hok.fresh (Nat.le_refl _))⟩
/-- an entry: a text and a number -/
abbrev entSI (e : Str × Int) : Key × V := (Sum.inr e.1, .int e.2)
abbrev encSI (e : Str × Int) : PyData := .tuple [.str e.1, .int e.2]
theorem kv_at : ∀ {kvs : List (Key × V)} {vs : List (Key × Value)}, KV kvs vs → ∀ {j : Nat} {p : Key × V}, kvs[j]? = some p → ∃ q, vs[j]? = some q ∧ p.1 = q.1 ∧ RelV p.2 q.2
  | _, _, .nil, _, _, h => by simp at h
  | _, _, .cons r _, 0, _, h => by
    cases h
    exact ⟨_, rfl, r⟩
  | _, _, .cons _ t, j + 1, p, h => by
    obtain ⟨q, h1, h2⟩ := kv_at t (j := j) (by simpa using h)
    exact ⟨q, by simpa using h1, h2⟩
theorem eachIs_of {α β : Type} {R : α → β → Prop} : ∀ {as : List α} {bs : List β}, as.length = bs.length → (∀ (j : Nat) (a : α) (b : β), as[j]? = some a → bs[j]? = some b → R a b) → PySem.W.EachIs R as bs
  | [], [], _, _ => .nil
  | [], _ :: _, h, _ => by simp at h
  | _ :: _, [], h, _ => by simp at h
  | a :: as, b :: bs, h, k => .cons (k 0 a b rfl rfl) (eachIs_of (by simpa using h) fun j x y hx hy => k (j + 1) x y (by simpa using hx) (by simpa using hy))
theorem encSI_alike (kvs : List (Str × Int)) : AllAlike (kvs.map encSI) := by
  intro d hd d' hd'
  obtain ⟨e, _, rfl⟩ := List.mem_map.mp hd
  obtain ⟨e', _, rfl⟩ := List.mem_map.mp hd'
  rfl
theorem encSI_sortable (kvs : List (Str × Int)) : Sortable (kvs.map encSI) := .tuples fun b => ⟨_, _, rfl⟩
theorem eachIs_refs {β : Type} {as : List Addr} {bs : List β} : ∀ {out : List Value} {cs : List β}, PySem.W.EachIs (fun v b => ∃ (j : Nat) (x : Addr), v = Value.ref x ∧ as[j]? = some x ∧ bs[j]? = some b) out cs →
    ∃ ts : List Addr, out = ts.map Value.ref ∧ Paired (fun (x : Addr) (b : β) => ∃ j : Nat, as[j]? = some x ∧ bs[j]? = some b) ts cs
  | _, _, .nil => ⟨[], rfl, .nil⟩
  | _, _, .cons h t => by
    obtain ⟨j, x, rfl, h1, h2⟩ := h
    obtain ⟨ts, rfl, hp⟩ := eachIs_refs t
    exact ⟨x :: ts, rfl, .cons ⟨j, h1, h2⟩ hp⟩
theorem paired_imp {α β : Type} {F G : α → β → Prop} (h : ∀ a b, F a b → G a b) : ∀ {l1 : List α} {l2 : List β}, Paired F l1 l2 → Paired G l1 l2
  | _, _, .nil => .nil
  | _, _, .cons a r => .cons (h _ _ a) (paired_imp h r)
theorem vals_refs : ∀ ts : List Addr, Vals (ts.map V.ref) (ts.map Value.ref)
  | [] => .nil
  | _ :: r => .cons rfl (vals_refs r)
/-- the told list is new, its pairs too -/
def rSortItK : List V → Hp → VK → Prop := fun vs H Q => ∃ (p a : Addr) (kvs : List (Str × Int)), vs = [.ref p] ∧ H p = some (itemsO p a) ∧ H a = some (.dK (kvs.map entSI)) ∧ kvs.length ≤ 100000 ∧
  ∀ (H' : Hp) (l : Addr) (ts : List Addr), (∀ b o, H b = some o → H' b = some o) → H l = none → H' l = some (.lst (ts.map V.ref)) → Paired (fun t (e : Str × Int) => H' t = some (.tup [.str e.1, .int e.2])) ts (kvs.mergeSort (dataLe false encSI)) → Q (.ref l) H'
theorem cr_sortItK (hc : X.calm = true) (hu : X.A.units + 64 < cLine) : CallR X (.builtin "sorted") rSortItK := by
  intro pins s σ H xs us Q I r h
  obtain ⟨p, a, kvs, rfl, hp, ha, hlen, q⟩ := h
  obtain rfl := Vals.ref1 r
  have vw : s.heap.IsItemsView p a := by
    have z : ObjOk X.prog X.w H s.heap p (itemsO p a) := I.hok p _ hp
    exact z.1
  obtain ⟨_, hd, vs, rel, dof⟩ := dk_of I.hok ha
  obtain ⟨es, ep, raw, hsz, hent⟩ := PySem.Heap.DictOf.raw dof
  have l1 : vs.length = kvs.length := by
    have := Paired.length rel
    rw [List.length_map] at this
    exact this.symm
  have small : kvs.length ≤ sizeLine := Nat.le_trans hlen (by decide)
  refine DT.sortedI (es := es) (ep := ep) (I.ok.hd hc) vw raw (by rw [hsz, l1]; exact small) fun h' tk as kpt hlt hl mde => ?_
  have lak : as.length = kvs.length := by rw [hl, hsz, l1]
  have nod : as.Nodup := List.Pairwise.imp (fun h => Nat.ne_of_lt h) mde.rise
  have pr : ∀ (j : Nat) (b : Addr), as[j]? = some b → ∃ (e : Str × Int) (t t' : Tok), kvs[j]? = some e ∧ h'.get? b = some { cls := .type "tuple", data := .seq #[Value.str e.1 t, Value.int e.2 t'] } := fun j b ej => by
    obtain ⟨en, ee, gh⟩ := mde.pairs j b ej
    have hj2 : j < es.size := (Array.getElem?_eq_some_iff.mp ee).1
    have hj3 : j < kvs.length := by rw [← l1, ← hsz]; exact hj2
    obtain ⟨⟨k, v⟩, g1, g2, g3⟩ := kv_at rel (j := j) (p := entSI kvs[j]) (by rw [List.getElem?_map, List.getElem?_eq_getElem hj3]; rfl)
    obtain ⟨m1, m2⟩ := hent j hj2 k v g1
    have e1 : es[j] = en := (Array.getElem?_eq_some_iff.mp ee).2
    rw [e1] at m1 m2
    have g2' : k = Sum.inr kvs[j].1 := g2.symm
    subst g2'
    obtain ⟨t', ev⟩ : ∃ t', v = Value.int kvs[j].2 t' := g3
    rcases keyIs_shape (show keyIs (Sum.inr kvs[j].1) en.key = true from m1) with ⟨i, t, z, _⟩ | ⟨x, t, z, ek⟩
    · cases z
    · have ex : kvs[j].1 = x := Sum.inr.inj z
      refine ⟨kvs[j], t, t', List.getElem?_eq_getElem hj3, ?_⟩
      rw [gh, ek, m2, ev, ex]
  have gl : (h'.push { cls := .type "list", data := .seq (as.map Value.ref).toArray }).get? h'.objs.size = some (seqObj "list" (as.map Value.ref).toArray 0) := Heap.get?_push_size _ rfl
  have far : ∀ b o, h'.get? b = some o → b ≠ h'.objs.size := fun b o e => Nat.ne_of_lt (Heap.lt_size e)
  have kp : ∀ b o, h'.get? b = some o → (h'.push { cls := .type "list", data := .seq (as.map Value.ref).toArray }).get? b = some o := fun b o e => Heap.get?_push_of_some _ e
  generalize h'.push { cls := .type "list", data := .seq (as.map Value.ref).toArray } = h2 at gl kp ⊢
  have at_ : ∀ (j : Nat) (v : Value) (e : Str × Int), (as.map Value.ref)[j]? = some v → kvs[j]? = some e → ∃ b, v = .ref b ∧ as[j]? = some b := fun j v e hv _ => by
    rw [List.getElem?_map] at hv
    cases z : as[j]? with
    | none => rw [z] at hv; cases hv
    | some b => rw [z] at hv; exact ⟨b, (Option.some.inj hv).symm, rfl⟩
  refine list_sort_data (s := { s with heap := h2, toks := tk }) (R := fun v e => ∃ (j : Nat) (x : Addr), v = Value.ref x ∧ as[j]? = some x ∧ kvs[j]? = some e) (enc := encSI) (bs := kvs) gl (eachIs_of (by rw [List.length_map]; exact lak) fun j v e hv ee => ?_) (eachIs_of (by rw [List.length_map]; exact lak) fun j v e hv ee => ?_) (encSI_alike kvs) (encSI_sortable kvs) small (fun b _ => ?_) fun out ho1 ho2 => ?_
  · obtain ⟨b, e1, e2⟩ := at_ j v e hv ee
    exact ⟨j, b, e1, e2, ee⟩
  · obtain ⟨b, rfl, e2⟩ := at_ j v e hv ee
    obtain ⟨e', t, t', g1, g2⟩ := pr j b e2
    rw [ee] at g1
    cases g1
    exact ⟨[] ++ ([] ++ []), .tuple (kp _ _ g2) rfl rfl (.cons (.str _ _) (.cons (.int _ _) .nil)), by simp⟩
  · show X.A.units + 1 + 1 + 1 < cLine
    omega
  obtain ⟨ts, rfl, hts⟩ := eachIs_refs ho2
  show EP X pins σ Q (.ref h'.objs.size) { s with heap := sortedHeap h2 h'.objs.size (as.map Value.ref) (ts.map Value.ref).toArray, toks := tk }
  have kF : ∀ b o, b ≠ h'.objs.size → h2.get? b = some o → (sortedHeap h2 h'.objs.size (as.map Value.ref) (ts.map Value.ref).toArray).get? b = some o := fun b o hb e => (PyProof.Rows.sortedHeap_old hb (Heap.lt_size e)).trans e
  have kS : ∀ b o, s.heap.get? b = some o → (sortedHeap h2 h'.objs.size (as.map Value.ref) (ts.map Value.ref).toArray).get? b = some o := fun b o e => kF b o (far _ _ (kpt b o e)) (kp b o (kpt b o e))
  obtain ⟨eF, heF⟩ := PyProof.Rows.sortedHeap_at (vs := as.map Value.ref) (out := (ts.map Value.ref).toArray) gl
  generalize sortedHeap h2 h'.objs.size (as.map Value.ref) (ts.map Value.ref).toArray = hz at kF kS heF ⊢
  have free0 : H h'.objs.size = none := I.hok.fresh (Nat.le_of_lt hlt)
  have htl : (ts.map V.ref).length ≤ sizeLine := by
    rw [List.length_map] at ho1 ⊢
    rw [ho1]
    exact small
  have I2 : Inv X pins σ (upd H h'.objs.size (.lst (ts.map V.ref))) { s with heap := hz, toks := tk } :=
    (I.kept (t' := tk) kS).take (h' := hz) (t' := tk) (fun b ob _ e => e) (I.fpOk (Nat.le_of_lt hlt) free0) ⟨htl, ts.map Value.ref, eF, vals_refs ts, heF⟩
  obtain ⟨H2, I3, g, qt⟩ := takeT (P := fun b vs => ∃ (j : Nat) (e : Str × Int), as[j]? = some b ∧ kvs[j]? = some e ∧ vs = [.str e.1, .int e.2]) I as _ I2 nod fun b hb => by
    obtain ⟨j, ej⟩ := List.mem_iff_getElem?.mp hb
    obtain ⟨e, t, t', ee, gh⟩ := pr j b ej
    have big : s.heap.objs.size ≤ b := Nat.le_of_lt (mde.above b hb)
    refine ⟨big, by rw [upd_ne (far _ _ gh)]; exact I.hok.fresh big, [.str e.1, .int e.2], ⟨j, e, ej, ee, rfl⟩, fun H3 => ⟨(by show 2 ≤ sizeLine; decide), [Value.str e.1 t, Value.int e.2 t'], .cons ⟨t, rfl⟩ (.cons ⟨t', rfl⟩ .nil), ⟨_, kF _ _ (far _ _ gh) (kp _ _ gh), rfl, 0, rfl⟩⟩⟩
  refine ⟨.ref h'.objs.size, H2, I3, rfl, q H2 h'.objs.size ts (fun b o e => g b o (by rw [upd_ne (ne_of_none e free0)]; exact e)) free0 (g _ _ upd_same) (paired_imp (fun x e hx => ?_) hts)⟩
  obtain ⟨i, i1, i2⟩ := hx
  obtain ⟨vs', ⟨j, e', j1, j2, ev⟩, hH⟩ := qt x (List.mem_of_getElem? i1)
  have eqi : i = j := (List.getElem?_inj (List.getElem?_eq_some_iff.mp i1).1 nod).mp (i1.trans j1.symm)
  subst eqi
  rw [i2] at j2
  cases j2
  rw [ev] at hH
  exact hH
end
end My
namespace My
open PySem PySem.W L2 L2.DX PyProof.Rows
section
variable {X : Cx}
theorem dp_at {K : PySem.W.Frag} {H : Hp} : ∀ {ys : List V} {ds : List PyData}, DpAll K H ys ds → ∀ {j : Nat} {y : V} {d : PyData}, ys[j]? = some y → ds[j]? = some d → Dp K H y d
  | _, _, .nil, _, _, _, h, _ => by simp at h
  | _, _, .cons p _, 0, _, _, h, k => by
    cases h
    cases k
    exact p
  | _, _, .cons _ t, j + 1, _, _, h, k => dp_at t (j := j) (by simpa using h) (by simpa using k)
theorem dp_len {K : PySem.W.Frag} {H : Hp} : ∀ {ys : List V} {ds : List PyData}, DpAll K H ys ds → ys.length = ds.length
  | _, _, .nil => rfl
  | _, _, .cons _ t => congrArg Nat.succ (dp_len t)
theorem vals_at : ∀ {ys : List V} {us : List Value}, Vals ys us → ∀ {j : Nat} {u : Value}, us[j]? = some u → ∃ y, ys[j]? = some y ∧ RelV y u
  | _, _, .nil, _, _, h => by simp at h
  | _, _, .cons r _, 0, _, h => by
    cases h
    exact ⟨_, rfl, r⟩
  | _, _, .cons _ t, j + 1, _, h => by
    obtain ⟨y, h1, h2⟩ := vals_at t (j := j) (by simpa using h)
    exact ⟨y, by simpa using h1, h2⟩
theorem out_vals {ys : List V} {ds : List PyData} : ∀ {out : List Value} {cs : List PyData}, PySem.W.EachIs (fun v d => ∃ (j : Nat) (y : V), ys[j]? = some y ∧ ds[j]? = some d ∧ RelV y v) out cs →
    ∃ zs : List V, Vals zs out ∧ Paired (fun (z : V) (d : PyData) => ∃ j : Nat, ys[j]? = some z ∧ ds[j]? = some d) zs cs
  | _, _, .nil => ⟨[], .nil, .nil⟩
  | _, _, .cons h t => by
    obtain ⟨j, y, h1, h2, h3⟩ := h
    obtain ⟨zs, g1, g2⟩ := out_vals t
    exact ⟨y :: zs, .cons h3 g1, .cons ⟨j, h1, h2⟩ g2⟩
theorem vals_len : ∀ {ys : List V} {us : List Value}, Vals ys us → ys.length = us.length
  | _, _, .nil => rfl
  | _, _, .cons _ t => congrArg Nat.succ (vals_len t)
/-- sorted(xs), data of one shape: the items are set in sequence by what they are -/
def rSortD (K : PySem.W.Frag) : List V → Hp → VK → Prop := fun vs H Q => ∃ (a : Addr) (ys : List V) (ds : List PyData), vs = [.ref a] ∧ SqL K H a ys ∧ DpAll K H ys ds ∧ AllAlike ds ∧ Sortable ds ∧ (∀ d ∈ ds, d.depth ≤ 8) ∧ ys.length ≤ 100000 ∧
  ∀ (zs : List V) (p : Addr), Paired (fun (z : V) (d : PyData) => ∃ j : Nat, ys[j]? = some z ∧ ds[j]? = some d) zs (ds.mergeSort (dataLe false id)) → H p = none → Q (.ref p) (upd H p (.lst zs))
theorem cr_sortD (hu : X.A.units + 64 < cLine) : CallR X (.builtin "sorted") (rSortD X.K) := by
  intro pins s σ H xs us Q I r h
  obtain ⟨a, ys, ds, rfl, hs, hd, hal, hk, hdp, hlen, q⟩ := h
  obtain rfl := Vals.ref1 r
  obtain ⟨its, rv, pl, _⟩ := I.list hs
  have li : its.length = ds.length := by rw [← vals_len rv]; exact dp_len hd
  have small : ds.length ≤ sizeLine := by rw [← dp_len hd]; exact Nat.le_trans hlen (by decide)
  refine sorted_data (R := fun v d => ∃ (j : Nat) (y : V), ys[j]? = some y ∧ ds[j]? = some d ∧ RelV y v) (enc := id) (bs := ds) pl.isList (eachIs_of li fun j v d hv he => ?_) (eachIs_of li fun j v d hv he => ?_) (by rw [List.map_id]; exact hal) (by rw [List.map_id]; exact hk) small (fun d hdm => ?_) fun out ho1 ho2 => ?_
  · obtain ⟨y, g1, g2⟩ := vals_at rv hv
    exact ⟨j, y, g1, he, g2⟩
  · obtain ⟨y, g1, g2⟩ := vals_at rv hv
    exact Dp.reads I d y v (dp_at hd g1 he) g2
  · have := hdp d hdm
    show X.A.units + 2 + d.depth < cLine
    omega
  obtain ⟨zs, hz, hp⟩ := out_vals ho2
  obtain ⟨eF, heF⟩ := PyProof.Rows.sortedAll_at s.heap its out.toArray
  have hzl : zs.length ≤ sizeLine := by rw [vals_len hz, ho1]; exact small
  exact ⟨.ref (s.heap.objs.size + 1), upd H (s.heap.objs.size + 1) (.lst zs), I.laid (t' := s.toks) (fun _ _ => PyProof.Rows.sortedAll_old) (Nat.le_succ _) ⟨hzl, out, eF, hz, heF⟩, rfl, q zs _ hp (I.hok.fresh (Nat.le_succ _))⟩
end
end My
namespace My
open PySem L2 PyProof.Rows
/-! ### == by an own __eq__, whatever it answers -/
section
variable {X : Cx}
theorem op_eqOwn {CX : CXT} {k : Nat} {C f : Addr} {fd : FuncData} {ps : List Str} {sp : Sp} {E : XK} (F : FnOk X.prog X.w X.K X.mg X.base CX k f fd ps sp) (hr : Room k X.A)
    (hs : PySem.W.findIn X.K (.ref C) "__eq__" = some (some (.ref f))) (hf : PySem.W.isFn X.K (.ref f) = true) (hb : Binds X.K fd ps []) (hx : Passes CX X E) :
    OpR X (compareOp .Eq) (fun x y H Q => ∃ a b dx dy fs gs, x = .ref a ∧ y = .ref b ∧ H a = some (.ins C dx fs) ∧ H b = some (.ins C dy gs) ∧ sp [x, y] H (fun v H' => ∃ c, v = .bl c ∧ Q (.bl c) H') E) := by
  intro pins s σ H x y v u Q I rx ry h
  obtain ⟨a, b, dx, dy, fs, gs, rfl, rfl, ha, hb', hsp⟩ := h
  cases rx
  cases ry
  show wpAny (model X.prog X.w) X.A (richCompare .Eq (.ref a) (.ref b)) (EP X pins σ Q) X.xe s
  obtain ⟨_, J, _⟩ := ins_get I.hok ha
  obtain ⟨_, J', _⟩ := ins_get I.hok hb'
  obtain ⟨_, J, _⟩ := J.look
  obtain ⟨_, J', _⟩ := J'.look
  obtain ⟨m, hF⟩ := I.fr
  refine PySem.W.cmp_K (op := .Eq) (tb := .ref C) hr.units0 hF I.ok.mod.kin J J'.type (by simp [PySem.W.notFirst]) hs hf ?_
  have vals : Vals [V.ref a, V.ref b] [Value.ref a, Value.ref b] := .cons rfl (.cons rfl .nil)
  have e0 : Env0 X.prog X.w X.K X.mg X.base X.A X.stack s H := I.env0
  have hl := F.len _ _ _ _ hsp
  refine wpAny_call (codeAny_mono (F.run X.A X.stack s H ⟨[.ref a, .ref b], []⟩ [.ref a, .ref b] [.ref a, .ref b] _ E hr e0 (by
    have bd := hb s [.ref a, .ref b] I.kIn (by simpa using hl)
    simpa using bd) vals hsp) fun r s' hq => ?_)
  cases r with
  | error e => exact hx pins σ H s e s' I hq
  | ok fl =>
    cases fl with
    | ret w =>
      obtain ⟨z, H', I', rz, c, ez, qz⟩ := I.after hq
      subst ez
      cases rz
      exact ⟨.bl c, H', I', rfl, qz⟩
    | next => exact False.elim hq
    | brk => exact False.elim hq
    | cont => exact False.elim hq
end
end My
namespace My
open PySem L2 PyProof.Rows PySem.W
/-! ### != of instances with an own __eq__ and the object's __ne__ -/
section
variable {prog : Program} {w : World} {A : Around} {E : Value → Shared → Prop} {s : Shared} {K : PySem.W.Frag} {x y C L f : Addr} {h₀ : Heap} {m : Str → Option Value} {ox : Obj} {od : Option Obj}
theorem check_ne {Q : Unit → Shared → Prop} (X : K.In s.heap) (I : PySem.W.InstAt s.heap x ox C od) (hm : PySem.W.mroIn K C (.type "object") = some true) (hq : Q () s) :
    wpAny (model prog w) A (checkBuiltinCall "object.__ne__" ⟨[.ref x, .ref y], []⟩) Q E s := by
  have L1 := PySem.W.looks_mroIn (M := model prog w) X hm
  simp only [checkBuiltinCall, F.cmpKind_ne, F.cmpSplit_ne]
  refine wpAny_bind ?_
  unfold isInstance
  refine wpAny_bind (I.type.here (L1.here ?_))
  simp only [Bool.not_true, Bool.false_eq_true, if_false]
  exact wpAny_pure hq
theorem entry_ne {Q : Fin → Shared → Prop} (hu : A.units < cLine) (X : K.In s.heap) (I : PySem.W.InstAt s.heap x ox C od) (hs : PySem.W.findIn K (.ref C) "__eq__" = some (some (.ref f))) (hf : PySem.W.isFn K (.ref f) = true)
    (hcall : wpAny (model prog w) A (call (.ref f) [.ref x, .ref y]) (fun v s' => ∃ b, v = .bool b ∧ Q (.done (.ret (.bool (!b)))) s') E s) :
    wpAny (model prog w) A (Builtin.«object.__ne__» ⟨[.ref x, .ref y], []⟩) Q E s := by
  unfold Builtin.«object.__ne__»
  repeat (first
    | with_reducible refine wpAny_cRoomFor hu ?_
    | (refine wpAny_bind (m := callSpecialIfBound? (.ref x) (Str.ofString "__eq__") [.ref y])
        (PySem.W.ifBound_K X I hs hf (wpAny_mono hcall (fun r s' hr => by
          obtain ⟨b, rfl, hq⟩ := hr
          repeat (first | exact hq | exact wpAny_pure hq | exact wpAny_truthy_bool hq | (refine wpAny_bind (m := truthy (.bool _)) (wpAny_truthy_bool ?_)) | wp_step)) fun _ _ e => e)))
    | wp_step)
theorem try_ne {Q : Option Value → Shared → Prop} (hu : A.units + 1 < cLine) (X : K.In s.heap) (I : PySem.W.InstAt s.heap x ox C od) (hm : PySem.W.mroIn K C (.type "object") = some true) (hn : PySem.W.findIn K (.ref C) "__ne__" = some (some (.builtin "object.__ne__")))
    (hs : PySem.W.findIn K (.ref C) "__eq__" = some (some (.ref f))) (hf : PySem.W.isFn K (.ref f) = true)
    (hcall : wpAny (model prog w) A.in1 (call (.ref f) [.ref x, .ref y]) (fun v s' => ∃ b, v = .bool b ∧ Q (some (.bool (!b))) s') E s) :
    wpAny (model prog w) A (tryCompare (.ref x) "__ne__" (.ref y)) Q E s := by
  have S := F.cmp_object.ne
  have one : wpAny (model prog w) A (callSpecialIfBound? (.ref x) "__ne__" [.ref y]) (fun r s' => ∃ b, r = some (.bool b) ∧ Q (some (.bool b)) s') E s := by
    simp only [callSpecialIfBound?, bindSpecialIfBound?]
    refine wpAny_holding (wpAny_bind (wpAny_bind (wpAny_bind (I.type.here ((PySem.W.looks_findIn X hn).here ?_)))))
    simp only [S.bind]
    refine wpAny_bind (wpAny_askSetting (wpAny_ite ?_))
    have fin : wpAny (model prog w) A (call (.builtin "object.__ne__") ([.ref x] ++ [.ref y]) >>= fun v => pure (some v)) (fun r s' => ∃ b, r = some (.bool b) ∧ Q (some (.bool b)) s') E s := by
      refine wpAny_bind (wpAny_call (codeAny_call_builtin S.plain F.cmpEntry_ne (check_ne X I hm (entry_ne (A := A.in1) hu X I hs hf (wpAny_mono hcall (fun v s' hv => ?_) fun _ _ e => e)))))
      obtain ⟨b, rfl, hq⟩ := hv
      exact ⟨b, rfl, wpAny_pure ⟨_, rfl, hq⟩⟩
    split
    · exact wpAny_bind (wpAny_pure (wpAny_pure fin))
    · exact wpAny_tryCatch (wpAny_bind (wpAny_pure (wpAny_pure fin)))
  unfold tryCompare
  refine wpAny_bind (wpAny_mono one (fun v s' hv => ?_) fun _ _ e => e)
  obtain ⟨b, rfl, hq⟩ := hv
  exact wpAny_pure hq
theorem ne_own {Q : Value → Shared → Prop} {oy : Obj} {odY : Option Obj} (hu : A.units + 1 < cLine) (X : K.In s.heap) (I : PySem.W.InstAt s.heap x ox C od) (J : PySem.W.InstAt s.heap y oy C odY) (hm : PySem.W.mroIn K C (.type "object") = some true) (hn : PySem.W.findIn K (.ref C) "__ne__" = some (some (.builtin "object.__ne__")))
    (hs : PySem.W.findIn K (.ref C) "__eq__" = some (some (.ref f))) (hf : PySem.W.isFn K (.ref f) = true)
    (hcall : wpAny (model prog w) A.in1 (call (.ref f) [.ref x, .ref y]) (fun v s' => ∃ b, v = .bool b ∧ Q (.bool (!b)) s') E s) :
    wpAny (model prog w) A (richCompare .NotEq (.ref x) (.ref y)) Q E s := by
  unfold richCompare
  simp only [oneThing_ref]
  refine wpAny_holding ?_
  refine wpAny_bind (wpAny_cRoomFor (Nat.lt_of_succ_lt hu) ?_)
  rw [cmpInfo_NotEq]
  dsimp only
  refine wpAny_bind (I.type.here (wpAny_bind (J.type.here ?_)))
  rw [show (Value.ref C != Value.ref C) = false from by simp]
  simp only [Bool.false_eq_true, if_false]
  refine wpAny_bind (wpAny_pure ?_)
  simp only [Bool.false_eq_true, if_false]
  refine wpAny_bind (try_ne hu X I hm hn hs hf (wpAny_mono hcall (fun v s' hv => ?_) fun _ _ e => e))
  obtain ⟨b, rfl, hq⟩ := hv
  exact ⟨b, rfl, wpAny_pure hq⟩
end
section
variable {X : Cx}
theorem op_neOwn {CX : CXT} {k : Nat} {C f : Addr} {fd : FuncData} {ps : List Str} {sp : Sp} {E : XK} (F : FnOk X.prog X.w X.K X.mg X.base CX k f fd ps sp) (hr : Room (k + 1) X.A) (hm : PySem.W.mroIn X.K C (.type "object") = some true) (hn : PySem.W.findIn X.K (.ref C) "__ne__" = some (some (.builtin "object.__ne__")))
    (hs : PySem.W.findIn X.K (.ref C) "__eq__" = some (some (.ref f))) (hf : PySem.W.isFn X.K (.ref f) = true) (hb : Binds X.K fd ps []) (hx : Passes CX X E) :
    OpR X (compareOp .NotEq) (fun x y H Q => ∃ a b dx dy fs gs, x = .ref a ∧ y = .ref b ∧ H a = some (.ins C dx fs) ∧ H b = some (.ins C dy gs) ∧ sp [x, y] H (fun v H' => ∃ c, v = .bl c ∧ Q (.bl (!c)) H') E) := by
  intro pins s σ H x y v u Q I rx ry h
  obtain ⟨a, b, dx, dy, fs, gs, rfl, rfl, ha, hb', hsp⟩ := h
  cases rx
  cases ry
  show wpAny (model X.prog X.w) X.A (richCompare .NotEq (.ref a) (.ref b)) (EP X pins σ Q) X.xe s
  obtain ⟨_, J, _⟩ := ins_get I.hok ha
  obtain ⟨_, J', _⟩ := ins_get I.hok hb'
  obtain ⟨_, J, _⟩ := J.look
  obtain ⟨_, J', _⟩ := J'.look
  have hu : X.A.units + 1 < cLine := hu_of hr
  refine ne_own hu I.kIn J J' hm hn hs hf ?_
  have vals : Vals [V.ref a, V.ref b] [Value.ref a, Value.ref b] := .cons rfl (.cons rfl .nil)
  have e0 : Env0 X.prog X.w X.K X.mg X.base X.A.in1 X.stack s H := I.env0.in1
  have hl := F.len _ _ _ _ hsp
  refine wpAny_call (codeAny_mono (F.run X.A.in1 X.stack s H ⟨[.ref a, .ref b], []⟩ [.ref a, .ref b] [.ref a, .ref b] _ E hr.in1 e0 (by
    have bd := hb s [.ref a, .ref b] I.kIn (by simpa using hl)
    simpa using bd) vals hsp) fun r s' hq => ?_)
  cases r with
  | error e => exact hx pins σ H s e s' I hq
  | ok fl =>
    cases fl with
    | ret w =>
      obtain ⟨z, H', I', rz, c, ez, qz⟩ := I.after hq
      subst ez
      cases rz
      exact ⟨c, rfl, .bl (!c), H', I', rfl, qz⟩
    | next => exact False.elim hq
    | brk => exact False.elim hq
    | cont => exact False.elim hq
/-- == of an instance with an own __eq__ and a dict -/
theorem op_eqDict {CX : CXT} {k : Nat} {C f : Addr} {fd : FuncData} {ps : List Str} {sp : Sp} {E : XK} (F : FnOk X.prog X.w X.K X.mg X.base CX k f fd ps sp) (hr : Room k X.A)
    (hs : PySem.W.findIn X.K (.ref C) "__eq__" = some (some (.ref f))) (hf : PySem.W.isFn X.K (.ref f) = true) (hnf : PySem.W.notFirst X.K C (.type "dict") = true) (hb : Binds X.K fd ps []) (hx : Passes CX X E) :
    OpR X (compareOp .Eq) (fun x y H Q => ∃ a d dx fs kvs, x = .ref a ∧ y = .ref d ∧ H a = some (.ins C dx fs) ∧ H d = some (.dK kvs) ∧ sp [x, y] H (fun v H' => ∃ c, v = .bl c ∧ Q (.bl c) H') E) := by
  intro pins s σ H x y v u Q I rx ry h
  obtain ⟨a, b, dx, fs, kvs, rfl, rfl, ha, hb', hsp⟩ := h
  cases rx
  cases ry
  show wpAny (model X.prog X.w) X.A (richCompare .Eq (.ref a) (.ref b)) (EP X pins σ Q) X.xe s
  obtain ⟨_, J, _⟩ := ins_get I.hok ha
  obtain ⟨_, J, _⟩ := J.look
  obtain ⟨_, _, _, _, ob, es, ep, e, ⟨hcls, _⟩, _⟩ := (show ObjOk X.prog X.w H s.heap b (.dK kvs) from I.hok b _ hb')
  have hty : PySem.W.Looks (model X.prog X.w) s.heap (typeOf (.ref b)) (.type "dict") := hcls ▸ (PySem.W.Looks.ld e).andThen .now
  obtain ⟨m, hF⟩ := I.fr
  refine PySem.W.cmp_K (op := .Eq) (tb := .type "dict") hr.units0 hF I.ok.mod.kin J hty hnf hs hf ?_
  have vals : Vals [V.ref a, V.ref b] [Value.ref a, Value.ref b] := .cons rfl (.cons rfl .nil)
  have e0 : Env0 X.prog X.w X.K X.mg X.base X.A X.stack s H := I.env0
  have hl := F.len _ _ _ _ hsp
  refine wpAny_call (codeAny_mono (F.run X.A X.stack s H ⟨[.ref a, .ref b], []⟩ [.ref a, .ref b] [.ref a, .ref b] _ E hr e0 (by
    have bd := hb s [.ref a, .ref b] I.kIn (by simpa using hl)
    simpa using bd) vals hsp) fun r s' hq => ?_)
  cases r with
  | error e => exact hx pins σ H s e s' I hq
  | ok fl =>
    cases fl with
    | ret w =>
      obtain ⟨z, H', I', rz, c, ez, qz⟩ := I.after hq
      subst ez
      cases rz
      exact ⟨.bl c, H', I', rfl, qz⟩
    | next => exact False.elim hq
    | brk => exact False.elim hq
    | cont => exact False.elim hq
def tMethKK (C : Addr) (m : Str) (sp : Sp) (gV : List V → List V → List V) (E : XK) (ta : TE) (tk : TA) : TE := fun σ H Q => ta σ H fun x H1 => ∃ a dx fs, x = .ref a ∧ H1 a = some (.ins C dx fs) ∧ fs.lookup m = none ∧ tk σ H1 fun zs H2 => sp (gV [x] zs) H2 Q E
/-- o.m(a=.., b=..) -/
theorem pe_methKK {CX : CXT} {k : Nat} {f C : Addr} {fd : FuncData} {ps ks : List Str} {sp : Sp} {E : XK} {m : Str} {pos apos : Pos} {o : Expr} {kws : List Keyword} {ta : TE} {tk : TA} {g : List Value → List Value → List Value} {gV : List V → List V → List V} {pl : Sem Bool} (he : PE X o ta) (c : Cls X.K C) (hm : Meth X.K C m f) (F : FnOk X.prog X.w X.K X.mg X.base CX k f fd ps sp) (hr : Room k X.A) (hb : KBinds X.K fd ps ks g gV) (hx : Passes CX X E)
    (hkw : PK X kws tk) (hall : (backToKw pos (keywordEach kws X.env)).all (·.1.isSome) = true := by rfl) (hks : (backToKw pos (keywordEach kws X.env)).filterMap (·.1) = ks := by rfl)
    (hpl : ((backTo pos (starEach [] X.env)).any (·.1) || (backToKw pos (keywordEach kws X.env)).any (·.1.isNone)) = false := by rfl)
    (ht : eval (.Call (.Attribute o m apos) [] kws pos) X.env = (do
      let ov ← eval o X.env
      standAt apos.atName
      let (f, first) ← holding [ov] (getMethod ov m pl)
      callWith pos f first (backTo pos (starEach [] X.env)) (backToKw pos (keywordEach kws X.env))) := by rfl) :
    PE X (.Call (.Attribute o m apos) [] kws pos) (tMethKK C m sp gV E ta tk) := by
  refine ⟨fun pins s σ H Q I h => ?_⟩
  refine PySem.W.methodCall_KW (pl := pl) (thn (he.run pins s σ H _ I h) fun u s1 ⟨x, H1, I1, rx, a, dx, fs, ex, ea, l, q⟩ => ?_) ht
  subst ex
  obtain rfl : u = Value.ref a := rx
  refine getmeth_ok I1 ea c hm l ?_
  refine PySem.W.callWith_KW0 (first := [.ref a]) (h₀ := X.base) I.ok.mod.kin hm.kp hall (thn (hkw.run pos pins s1 σ H1 _ I1 q) fun ws s2 ⟨zs, H2, I2, rz, q2⟩ => ⟨I2.kIn, ?_⟩) hpl
  rw [hks]
  exact run_fnk (us := [.ref a]) (vs := [.ref a]) F hr hb hx I2 (.cons rfl .nil) rz q2
end
end My
namespace My
/-! ### webs: ties, walks by their lengths -/
def Edge (ts : List (Nat × Nat)) (W : List Nat) (u v : Nat) : Prop := ∃ i, ts[i]? = some (u, v) ∧ i ∉ W
inductive Wk (E : Nat → Nat → Prop) : Nat → Nat → Nat → Prop where
  | nil (u : Nat) : Wk E 0 u u
  | snoc {k u x v : Nat} : Wk E k u x → E x v → Wk E (k + 1) u v
theorem wk_zero {E : Nat → Nat → Prop} {u v : Nat} (h : Wk E 0 u v) : v = u := by cases h; rfl
theorem wk_succ {E : Nat → Nat → Prop} {k u v : Nat} (h : Wk E (k + 1) u v) : ∃ x, Wk E k u x ∧ E x v := by
  cases h with
  | snoc a b => exact ⟨_, a, b⟩
theorem wk_append {E : Nat → Nat → Prop} {j k u x v : Nat} (a : Wk E j u x) (b : Wk E k x v) : Wk E (j + k) u v := by
  induction b with
  | nil => exact a
  | snoc _ e ih => exact .snoc (ih a) e
theorem wk_split {E : Nat → Nat → Prop} {u v : Nat} : ∀ (k j : Nat), Wk E (j + k) u v → ∃ x, Wk E j u x ∧ Wk E k x v
  | 0, j, h => ⟨v, h, .nil v⟩
  | k + 1, j, h => by
    obtain ⟨y, h1, h2⟩ := wk_succ (show Wk E ((j + k) + 1) u v from h)
    obtain ⟨x, h3, h4⟩ := wk_split k j h1
    exact ⟨x, h3, .snoc h4 h2⟩
def Rch (E : Nat → Nat → Prop) (u v : Nat) : Prop := ∃ k, Wk E k u v
/-- few numbers below N -/
theorem few {N : Nat} : ∀ {L : List Nat}, L.Nodup → (∀ x ∈ L, x < N) → L.length ≤ N := by
  induction N with
  | zero =>
    intro L _ h
    cases L with
    | nil => simp
    | cons a r => exact absurd (h a List.mem_cons_self) (by omega)
  | succ N ih =>
    intro L hn h
    by_cases c : N ∈ L
    · have h1 := ih (L := L.erase N) (hn.erase N) fun x hx => by
        have h2 := (List.Nodup.mem_erase_iff hn).mp hx
        have := h x h2.2
        have := h2.1
        omega
      rw [List.length_erase_of_mem c] at h1
      omega
    · have h1 := ih hn fun x hx => by
        have := h x hx
        have : x ≠ N := fun z => c (by rw [← z]; exact hx)
        omega
      omega
/-! ### coming to -/
structure RInv (E : Nat → Nat → Prop) (s : Nat) (seen waiting : List Nat) : Prop where
  nd : seen.Nodup
  st : s ∈ seen
  sub : ∀ x ∈ waiting, x ∈ seen
  ok : ∀ x ∈ seen, Rch E s x
  cl : ∀ u ∈ seen, u ∉ waiting → ∀ v, E u v → v ∈ seen
/-- while the ties from one place are gone through; D: those that were -/
structure RMid (E : Nat → Nat → Prop) (s here : Nat) (D : Nat → Prop) (seen waiting : List Nat) : Prop where
  nd : seen.Nodup
  st : s ∈ seen
  hh : here ∈ seen
  sub : ∀ x ∈ waiting, x ∈ seen
  ok : ∀ x ∈ seen, Rch E s x
  cl : ∀ u ∈ seen, u ∉ waiting → u ≠ here → ∀ v, E u v → v ∈ seen
  dn : ∀ v, D v → v ∈ seen
theorem r_start {E : Nat → Nat → Prop} (s : Nat) : RInv E s [s] [s] := by
  refine ⟨by simp, by simp, fun x h => h, fun x h => ?_, fun u h hn => absurd h hn⟩
  rw [List.mem_singleton.mp h]
  exact ⟨0, .nil s⟩
theorem r_pop {E : Nat → Nat → Prop} {s : Nat} {seen w : List Nat} {here : Nat} (h : RInv E s seen (w ++ [here])) : RMid E s here (fun _ => False) seen w := by
  refine ⟨h.nd, h.st, h.sub here (by simp), fun x hx => h.sub x (by simp [hx]), h.ok, fun u hu hn hne v hv => ?_, fun v hv => hv.elim⟩
  refine h.cl u hu (fun hm => ?_) v hv
  rcases List.mem_append.mp hm with z | z
  · exact hn z
  · exact hne (List.mem_singleton.mp z)
theorem r_new {E : Nat → Nat → Prop} {s here v : Nat} {D D' : Nat → Prop} {seen w : List Nat} (h : RMid E s here D seen w) (e : E here v) (hv : v ∉ seen) (hD : ∀ x, D' x → D x ∨ x = v) : RMid E s here D' (seen ++ [v]) (w ++ [v]) := by
  refine ⟨?_, by simp [h.st], by simp [h.hh], fun x hx => ?_, fun x hx => ?_, fun u hu hn hne x hx => ?_, fun x hx => ?_⟩
  · rw [List.nodup_append]
    exact ⟨h.nd, by simp, fun a ha b hb => by rw [List.mem_singleton.mp hb]; rintro rfl; exact hv ha⟩
  · rcases List.mem_append.mp hx with z | z
    · exact List.mem_append_left _ (h.sub x z)
    · exact List.mem_append_right _ z
  · rcases List.mem_append.mp hx with z | z
    · exact h.ok x z
    · rw [List.mem_singleton.mp z]
      obtain ⟨k, hk⟩ := h.ok here h.hh
      exact ⟨k + 1, .snoc hk e⟩
  · rcases List.mem_append.mp hu with z | z
    · exact List.mem_append_left _ (h.cl u z (fun m => hn (List.mem_append_left _ m)) hne x hx)
    · exact absurd (List.mem_append_right _ z) hn
  · rcases hD x hx with z | z
    · exact List.mem_append_left _ (h.dn x z)
    · rw [z]; simp
theorem r_old {E : Nat → Nat → Prop} {s here : Nat} {D D' : Nat → Prop} {seen w : List Nat} (h : RMid E s here D seen w) (hD : ∀ x, D' x → D x ∨ x ∈ seen) : RMid E s here D' seen w :=
  ⟨h.nd, h.st, h.hh, h.sub, h.ok, h.cl, fun x hx => (hD x hx).elim (h.dn x) id⟩
theorem r_done {E : Nat → Nat → Prop} {s here : Nat} {D : Nat → Prop} {seen w : List Nat} (h : RMid E s here D seen w) (hD : ∀ v, E here v → D v) : RInv E s seen w := by
  refine ⟨h.nd, h.st, h.sub, h.ok, fun u hu hn v hv => ?_⟩
  by_cases c : u = here
  · subst c
    exact h.dn v (hD v hv)
  · exact h.cl u hu hn c v hv
theorem r_end {E : Nat → Nat → Prop} {s : Nat} {seen : List Nat} (h : RInv E s seen []) (x : Nat) : x ∈ seen ↔ Rch E s x := by
  refine ⟨h.ok x, ?_⟩
  rintro ⟨k, hk⟩
  induction k generalizing x with
  | zero => rw [wk_zero hk]; exact h.st
  | succ k ih =>
    obtain ⟨y, h1, h2⟩ := wk_succ hk
    exact h.cl y (ih y h1) (by simp) x h2
/-! ### the fewest ties, by levels -/
def Few (E : Nat → Nat → Prop) (a b D : Nat) : Prop := 1 ≤ D ∧ Wk E D a b ∧ ∀ k, 1 ≤ k → k < D → ¬ Wk E k a b
structure Lev (E : Nat → Nat → Prop) (a b m : Nat) (here met : List Nat) : Prop where
  mt : ∀ x, x ∈ met ↔ ∃ j, 1 ≤ j ∧ j ≤ m ∧ Wk E j a x
  hr : ∀ x, x ∈ here ↔ Wk E m a x ∧ ∀ j, 1 ≤ j → j < m → ¬ Wk E j a x
  no : b ∉ met
  nd : met.Nodup
theorem lev_start {E : Nat → Nat → Prop} (a b : Nat) : Lev E a b 0 [a] [] := by
  refine ⟨fun x => ⟨fun h => by simp at h, fun ⟨j, h1, h2, _⟩ => by omega⟩, fun x => ⟨fun h => ?_, fun h => ?_⟩, by simp, by simp⟩
  · rw [List.mem_singleton.mp h]
    exact ⟨.nil a, fun j h1 h2 => by omega⟩
  · rw [wk_zero h.1]
    simp
/-- the next level, by what it holds -/
theorem lev_next {E : Nat → Nat → Prop} {a b m : Nat} {here met met' later : List Nat} (h : Lev E a b m here met) (h1 : ∀ x, x ∈ met' ↔ x ∈ met ∨ ∃ u ∈ here, E u x) (h2 : ∀ x, x ∈ later ↔ x ∉ met ∧ ∃ u ∈ here, E u x) :
    (∀ x, x ∈ met' ↔ ∃ j, 1 ≤ j ∧ j ≤ m + 1 ∧ Wk E j a x) ∧ (∀ x, x ∈ later ↔ Wk E (m + 1) a x ∧ ∀ j, 1 ≤ j → j < m + 1 → ¬ Wk E j a x) := by
  have key : ∀ x, Wk E (m + 1) a x → x ∈ met ∨ ∃ u ∈ here, E u x := fun x hx => by
    obtain ⟨u, hu, e⟩ := wk_succ hx
    by_cases c : u ∈ here
    · exact .inr ⟨u, c, e⟩
    · left
      rw [h.hr] at c
      have c2 : ∃ j, 1 ≤ j ∧ j < m ∧ Wk E j a u := by
        by_cases c3 : ∃ j, 1 ≤ j ∧ j < m ∧ Wk E j a u
        · exact c3
        · exact absurd ⟨hu, fun j g1 g2 g3 => c3 ⟨j, g1, g2, g3⟩⟩ c
      obtain ⟨j, g1, g2, g3⟩ := c2
      exact (h.mt x).mpr ⟨j + 1, by omega, by omega, .snoc g3 e⟩
  have here_wk : ∀ x, (∃ u ∈ here, E u x) → Wk E (m + 1) a x := fun x ⟨u, hu, e⟩ => .snoc ((h.hr u).mp hu).1 e
  constructor
  · intro x
    rw [h1]
    constructor
    · rintro (hx | hx)
      · obtain ⟨j, g1, g2, g3⟩ := (h.mt x).mp hx
        exact ⟨j, g1, by omega, g3⟩
      · exact ⟨m + 1, by omega, by omega, here_wk x hx⟩
    · rintro ⟨j, g1, g2, g3⟩
      by_cases c : j ≤ m
      · exact .inl ((h.mt x).mpr ⟨j, g1, c, g3⟩)
      · have e : j = m + 1 := by omega
        subst e
        exact key x g3
  · intro x
    rw [h2]
    constructor
    · rintro ⟨hx, hu⟩
      exact ⟨here_wk x hu, fun j g1 g2 g3 => hx ((h.mt x).mpr ⟨j, g1, by omega, g3⟩)⟩
    · rintro ⟨g1, g2⟩
      have hx : x ∉ met := fun hm => by
        obtain ⟨j, k1, k2, k3⟩ := (h.mt x).mp hm
        exact g2 j k1 (by omega) k3
      exact ⟨hx, (key x g1).resolve_left hx⟩
theorem lev_few {E : Nat → Nat → Prop} {a b m : Nat} {here met met' : List Nat} (h : Lev E a b m here met) (h1 : ∀ x, x ∈ met' ↔ ∃ j, 1 ≤ j ∧ j ≤ m + 1 ∧ Wk E j a x) (hb : b ∈ met') : Few E a b (m + 1) := by
  obtain ⟨j, g1, g2, g3⟩ := (h1 b).mp hb
  have old : ∀ k, 1 ≤ k → k ≤ m → ¬ Wk E k a b := fun k k1 k2 k3 => h.no ((h.mt b).mpr ⟨k, k1, k2, k3⟩)
  have e : j = m + 1 := by
    rcases Nat.lt_or_ge m j with z | z
    · omega
    · exact absurd g3 (old j g1 z)
  subst e
  exact ⟨by omega, g3, fun k k1 k2 => old k k1 (by omega)⟩
theorem lev_none {E : Nat → Nat → Prop} {a b m : Nat} {met : List Nat} (h : Lev E a b m [] met) : ∀ k, 1 ≤ k → ¬ Wk E k a b := by
  intro k
  induction k using Nat.strongRecOn with
  | _ k ih =>
    intro k1 hk
    by_cases c : k ≤ m
    · exact h.no ((h.mt b).mpr ⟨k, k1, c, hk⟩)
    · obtain ⟨u, h1, h2⟩ := wk_split (k - m) m (by rw [show m + (k - m) = k by omega]; exact hk)
      have hu : u ∉ ([] : List Nat) := by simp
      rw [h.hr] at hu
      have c2 : ∃ j, 1 ≤ j ∧ j < m ∧ Wk E j a u := by
        by_cases c3 : ∃ j, 1 ≤ j ∧ j < m ∧ Wk E j a u
        · exact c3
        · exact absurd ⟨h1, fun j g1 g2 g3 => c3 ⟨j, g1, g2, g3⟩⟩ hu
      obtain ⟨j, g1, g2, g3⟩ := c2
      exact ih (j + (k - m)) (by omega) (by omega) (wk_append g3 h2)
theorem few_unique {E : Nat → Nat → Prop} {a b c d : Nat} (h1 : Few E a b c) (h2 : Few E a b d) : c = d := by
  rcases Nat.lt_trichotomy c d with z | z | z
  · exact absurd h1.2.1 (h2.2.2 c h1.1 z)
  · exact z
  · exact absurd h2.2.1 (h1.2.2 d h2.1 z)
/-! ### a shortest way, by a line of places -/
/-- L: the line, its first place near; T: the ties by which the others were come to; ds: how many ties -/
structure Bfs (ts : List (Nat × Nat)) (W : List Nat) (a : Nat) (L T ds : List Nat) : Prop where
  l1 : L.length = T.length + 1
  l2 : ds.length = L.length
  l0 : L[0]? = some a
  d0 : ds[0]? = some 0
  nd : (L.drop 1).Nodup
  mono : ∀ (i j x y : Nat), i < j → ds[i]? = some x → ds[j]? = some y → x ≤ y
  by_ : ∀ (j t : Nat), T[j]? = some t → ∃ (u v i x : Nat), ts[t]? = some (u, v) ∧ t ∉ W ∧ L[j + 1]? = some v ∧ i ≤ j ∧ L[i]? = some u ∧ ds[i]? = some x ∧ ds[j + 1]? = some (x + 1) ∧ (0 < i → u ≠ a)
  wk : ∀ (j v x : Nat), L[j]? = some v → ds[j]? = some x → Wk (Edge ts W) x a v
/-- the first n of the line are done -/
structure Done (ts : List (Nat × Nat)) (W : List Nat) (n : Nat) (L ds : List Nat) : Prop where
  cl : ∀ (i u x v : Nat), i < n → L[i]? = some u → ds[i]? = some x → Edge ts W u v → ∃ (j y : Nat), L[j + 1]? = some v ∧ ds[j + 1]? = some y ∧ y ≤ x + 1
  up : ∀ (j y x : Nat), 0 < n → ds[j]? = some y → ds[n - 1]? = some x → y ≤ x + 1
  one : n = 0 → L.length = 1
theorem bfs_start (ts : List (Nat × Nat)) (W : List Nat) (a : Nat) : Bfs ts W a [a] [] [0] ∧ Done ts W 0 [a] [0] := by
  refine ⟨⟨rfl, rfl, rfl, rfl, by simp, fun i j x y h h1 h2 => ?_, fun j t h => by simp at h, fun j v x h1 h2 => ?_⟩, ⟨fun i u x v h => by omega, fun j y x h => by omega, fun _ => rfl⟩⟩
  · have := (List.getElem?_eq_some_iff.mp h2).1
    simp at this
    omega
  · have hj := (List.getElem?_eq_some_iff.mp h1).1
    simp at hj
    subst hj
    cases h1
    cases h2
    exact .nil a
/-- whoever is come to by so many ties stands in the line -/
theorem bfs_all {ts : List (Nat × Nat)} {W : List Nat} {a n : Nat} {L T ds : List Nat} (h : Bfs ts W a L T ds) (hd : Done ts W n L ds) : ∀ k v, 1 ≤ k → Wk (Edge ts W) k a v → (∀ x, n < L.length → ds[n]? = some x → k ≤ x) → ∃ (j y : Nat), L[j + 1]? = some v ∧ ds[j + 1]? = some y ∧ y ≤ k := by
  intro k
  induction k with
  | zero => intro v h1; omega
  | succ k ih =>
    intro v _ hw hx
    obtain ⟨u, h1, e⟩ := wk_succ hw
    have small : ∀ (i y : Nat), L[i]? = some u → ds[i]? = some y → y ≤ k → ∃ (j y : Nat), L[j + 1]? = some v ∧ ds[j + 1]? = some y ∧ y ≤ k + 1 := fun i y g1 g2 g3 => by
      have hin : i < n := by
        rcases Nat.lt_or_ge i n with z | z
        · exact z
        · exfalso
          have hi := (List.getElem?_eq_some_iff.mp g1).1
          have hn : n < L.length := by omega
          obtain ⟨x, ex⟩ : ∃ x, ds[n]? = some x := ⟨ds[n]'(by rw [h.l2]; exact hn), List.getElem?_eq_getElem _⟩
          have k1 := hx x hn ex
          by_cases c : i = n
          · subst c
            rw [g2] at ex
            cases ex
            omega
          · have := h.mono n i x y (by omega) ex g2
            omega
      obtain ⟨j, z, q1, q2, q3⟩ := hd.cl i u y v hin g1 g2 e
      exact ⟨j, z, q1, q2, by omega⟩
    rcases Nat.eq_zero_or_pos k with z | z
    · subst z
      have eu := wk_zero h1
      subst eu
      exact small 0 0 h.l0 h.d0 (Nat.le_refl _)
    · obtain ⟨j, y, g1, g2, g3⟩ := ih u z h1 fun x q1 q2 => by have := hx x q1 q2; omega
      exact small (j + 1) y g1 g2 g3
theorem get_drop {L : List Nat} {v : Nat} : v ∈ L.drop 1 ↔ ∃ j : Nat, L[j + 1]? = some v := by
  rw [List.mem_iff_getElem?]
  constructor
  · rintro ⟨i, hi⟩
    rw [List.getElem?_drop] at hi
    exact ⟨i, by rw [Nat.add_comm]; exact hi⟩
  · rintro ⟨j, hj⟩
    exact ⟨j, by rw [List.getElem?_drop, Nat.add_comm]; exact hj⟩
/-- while the ties from the place at n are gone through; G: those places that were come to -/
structure Mid (ts : List (Nat × Nat)) (W : List Nat) (a n here : Nat) (G : Nat → Prop) (L T ds : List Nat) : Prop where
  b : Bfs ts W a L T ds
  at_ : L[n]? = some here
  cl : ∀ (i u x v : Nat), i < n → L[i]? = some u → ds[i]? = some x → Edge ts W u v → ∃ (j y : Nat), L[j + 1]? = some v ∧ ds[j + 1]? = some y ∧ y ≤ x + 1
  up : ∀ (j y x : Nat), ds[j]? = some y → ds[n]? = some x → y ≤ x + 1
  dn : ∀ v, G v → v ∈ L.drop 1
theorem mid_start {ts : List (Nat × Nat)} {W : List Nat} {a n here : Nat} {L T ds : List Nat} (h : Bfs ts W a L T ds) (hd : Done ts W n L ds) (e : L[n]? = some here) : Mid ts W a n here (fun _ => False) L T ds := by
  refine ⟨h, e, hd.cl, fun j y x h1 h2 => ?_, fun v hv => hv.elim⟩
  have hj := (List.getElem?_eq_some_iff.mp h1).1
  have hn := (List.getElem?_eq_some_iff.mp h2).1
  rcases Nat.eq_zero_or_pos n with z | z
  · have h3 := hd.one z
    rw [h.l2, h3] at hj
    have ej : j = 0 := by omega
    subst ej
    rw [h.d0] at h1
    cases h1
    omega
  · obtain ⟨x', ex⟩ : ∃ x', ds[n - 1]? = some x' := ⟨ds[n - 1]'(by omega), List.getElem?_eq_getElem _⟩
    have h3 := hd.up j y x' z h1 ex
    have h4 := h.mono (n - 1) n x' x (by omega) ex h2
    omega
theorem get_snoc {L : List Nat} {i v : Nat} (w : Nat) (h : L[i]? = some v) : (L ++ [w])[i]? = some v := by
  rw [List.getElem?_append_left (List.getElem?_eq_some_iff.mp h).1]
  exact h
theorem of_snoc {L : List Nat} {i v w : Nat} (h : (L ++ [w])[i]? = some v) : (L[i]? = some v ∧ i < L.length) ∨ (i = L.length ∧ v = w) := by
  by_cases c : i < L.length
  · rw [List.getElem?_append_left c] at h
    exact .inl ⟨h, c⟩
  · have hi := (List.getElem?_eq_some_iff.mp h).1
    rw [List.length_append] at hi
    have e : i = L.length := by simp at hi; omega
    subst e
    rw [List.getElem?_append_right (Nat.le_refl _), Nat.sub_self] at h
    cases h
    exact .inr ⟨rfl, rfl⟩
theorem last_snoc (L : List Nat) (w : Nat) : (L ++ [w])[L.length]? = some w := by
  rw [List.getElem?_append_right (Nat.le_refl _), Nat.sub_self]
  rfl
theorem mid_new {ts : List (Nat × Nat)} {W : List Nat} {a n here v t x : Nat} {G G' : Nat → Prop} {L T ds : List Nat} (h : Mid ts W a n here G L T ds) (e : ts[t]? = some (here, v)) (hW : t ∉ W) (hv : v ∉ L.drop 1) (hx : ds[n]? = some x) (hG : ∀ w, G' w → G w ∨ w = v) :
    Mid ts W a n here G' (L ++ [v]) (T ++ [t]) (ds ++ [x + 1]) := by
  have hb := h.b
  have hn := (List.getElem?_eq_some_iff.mp h.at_).1
  have l1 := hb.l1
  have l2 := hb.l2
  have hdrop : (L ++ [v]).drop 1 = L.drop 1 ++ [v] := by rw [List.drop_append_of_le_length (by omega)]
  have ha : 0 < n → here ≠ a := fun hn0 hha => by
    subst hha
    obtain ⟨j, y, g1, _⟩ := h.cl 0 here 0 v hn0 hb.l0 hb.d0 ⟨t, e, hW⟩
    exact hv (get_drop.mpr ⟨j, g1⟩)
  have hwk := hb.wk n here x h.at_ hx
  refine ⟨⟨by simp; omega, by simp; omega, get_snoc _ hb.l0, get_snoc _ hb.d0, ?_, fun i j p q hij g1 g2 => ?_, fun j s g => ?_, fun j w p g1 g2 => ?_⟩, get_snoc _ h.at_, fun i u p w hi g1 g2 he => ?_, fun j y p g1 g2 => ?_, fun w hw => ?_⟩
  · rw [hdrop, List.nodup_append]
    exact ⟨hb.nd, by simp, fun p hp q hq => by rw [List.mem_singleton.mp hq]; rintro rfl; exact hv hp⟩
  · rcases of_snoc g2 with ⟨k2, k3⟩ | ⟨k2, k3⟩
    · rcases of_snoc g1 with ⟨k4, _⟩ | ⟨k4, _⟩
      · exact hb.mono i j p q hij k4 k2
      · omega
    · rcases of_snoc g1 with ⟨k4, _⟩ | ⟨k4, _⟩
      · have := h.up i p x k4 hx
        omega
      · omega
  · rcases of_snoc g with ⟨k2, k3⟩ | ⟨k2, k3⟩
    · obtain ⟨u, w, i, p, q1, q2, q3, q4, q5, q6, q7, q8⟩ := hb.by_ j s k2
      exact ⟨u, w, i, p, q1, q2, get_snoc _ q3, q4, get_snoc _ q5, get_snoc _ q6, get_snoc _ q7, q8⟩
    · subst k2 k3
      refine ⟨here, v, n, x, e, hW, ?_, by omega, get_snoc _ h.at_, get_snoc _ hx, ?_, ha⟩
      · rw [← l1]; exact last_snoc _ _
      · rw [← l1, ← l2]; exact last_snoc _ _
  · rcases of_snoc g1 with ⟨k2, k3⟩ | ⟨k2, k3⟩
    · rcases of_snoc g2 with ⟨k4, _⟩ | ⟨k4, _⟩
      · exact hb.wk j w p k2 k4
      · omega
    · rcases of_snoc g2 with ⟨k4, k5⟩ | ⟨_, k5⟩
      · omega
      · subst k3 k5
        exact .snoc hwk ⟨t, e, hW⟩
  · have hil : i < L.length := by omega
    rcases of_snoc g1 with ⟨k2, _⟩ | ⟨k2, _⟩
    · rcases of_snoc g2 with ⟨k4, _⟩ | ⟨k4, _⟩
      · obtain ⟨j, y, r1, r2, r3⟩ := h.cl i u p w hi k2 k4 he
        exact ⟨j, y, get_snoc _ r1, get_snoc _ r2, r3⟩
      · omega
    · omega
  · have hp : p = x := by
      rcases of_snoc g2 with ⟨k4, _⟩ | ⟨k4, _⟩
      · rw [hx] at k4; cases k4; rfl
      · omega
    subst hp
    rcases of_snoc g1 with ⟨k2, _⟩ | ⟨_, k2⟩
    · exact h.up j y p k2 hx
    · omega
  · rw [hdrop]
    rcases hG w hw with z | z
    · exact List.mem_append_left _ (h.dn w z)
    · rw [z]; simp
theorem mid_old {ts : List (Nat × Nat)} {W : List Nat} {a n here : Nat} {G G' : Nat → Prop} {L T ds : List Nat} (h : Mid ts W a n here G L T ds) (hG : ∀ w, G' w → G w ∨ w ∈ L.drop 1) : Mid ts W a n here G' L T ds :=
  ⟨h.b, h.at_, h.cl, h.up, fun v hv => (hG v hv).elim (h.dn v) id⟩
theorem mid_done {ts : List (Nat × Nat)} {W : List Nat} {a n here : Nat} {G : Nat → Prop} {L T ds : List Nat} (h : Mid ts W a n here G L T ds) (hG : ∀ v, Edge ts W here v → G v) : Bfs ts W a L T ds ∧ Done ts W (n + 1) L ds := by
  refine ⟨h.b, ⟨fun i u x v hi g1 g2 he => ?_, fun j y x _ g1 g2 => h.up j y x g1 g2, fun z => by omega⟩⟩
  by_cases c : i < n
  · exact h.cl i u x v c g1 g2 he
  · have e : i = n := by omega
    subst e
    rw [h.at_] at g1
    cases g1
    obtain ⟨j, hj⟩ := get_drop.mp (h.dn v (hG v he))
    have hl := (List.getElem?_eq_some_iff.mp hj).1
    obtain ⟨y, ey⟩ : ∃ y, ds[j + 1]? = some y := ⟨ds[j + 1]'(by rw [h.b.l2]; exact hl), List.getElem?_eq_getElem _⟩
    exact ⟨j, y, hj, ey, h.up _ _ _ ey g2⟩
/-- far was come to just now: by the fewest ties -/
theorem bfs_few {ts : List (Nat × Nat)} {W : List Nat} {a b n here : Nat} {G : Nat → Prop} {L T ds L' T' ds' : List Nat} (h : Bfs ts W a L T ds) (hd : Done ts W n L ds) (hn : n < L.length) (hb : b ∉ L.drop 1)
    (h' : Mid ts W a n here G L' T' ds') (hds : ds[n]? = ds'[n]?) {j y : Nat} (e1 : L'[j + 1]? = some b) (e2 : ds'[j + 1]? = some y) : Few (Edge ts W) a b y := by
  have hw := h'.b.wk _ _ _ e1 e2
  have hl := (List.getElem?_eq_some_iff.mp e1).1
  obtain ⟨t, et⟩ : ∃ t, T'[j]? = some t := ⟨T'[j]'(by have := h'.b.l1; omega), List.getElem?_eq_getElem _⟩
  obtain ⟨u, v, i, x, _, _, _, _, _, _, q7, _⟩ := h'.b.by_ j t et
  rw [e2] at q7
  have ey : y = x + 1 := Option.some.inj q7
  obtain ⟨z, ez⟩ : ∃ z, ds[n]? = some z := ⟨ds[n]'(by rw [h.l2]; exact hn), List.getElem?_eq_getElem _⟩
  have hz := h'.up (j + 1) y z e2 (by rw [← hds]; exact ez)
  refine ⟨by omega, hw, fun k k1 k2 hk => ?_⟩
  obtain ⟨j', _, g1, _⟩ := bfs_all h hd k b k1 hk fun x' _ ex' => by
    rw [ez] at ex'
    cases ex'
    omega
  exact hb (get_drop.mpr ⟨j', g1⟩)
theorem bfs_none {ts : List (Nat × Nat)} {W : List Nat} {a b n : Nat} {L T ds : List Nat} (h : Bfs ts W a L T ds) (hd : Done ts W n L ds) (hn : ¬ n < L.length) (hb : b ∉ L.drop 1) : ∀ k, 1 ≤ k → ¬ Wk (Edge ts W) k a b := by
  intro k k1 hk
  obtain ⟨j, _, g1, _⟩ := bfs_all h hd k b k1 hk fun x hx => absurd hx hn
  exact hb (get_drop.mpr ⟨j, g1⟩)
/-! ### the way back -/
inductive Pth (ts : List (Nat × Nat)) (W : List Nat) : Nat → List Nat → Nat → Prop where
  | one {t u v : Nat} : ts[t]? = some (u, v) → t ∉ W → Pth ts W u [t] v
  | cons {t u x v : Nat} {r : List Nat} : ts[t]? = some (u, x) → t ∉ W → Pth ts W x r v → Pth ts W u (t :: r) v
end My
namespace My
/-! ### parts by two searches in depth -/
theorem rch_refl {E : Nat → Nat → Prop} (u : Nat) : Rch E u u := ⟨0, .nil u⟩
theorem rch_trans {E : Nat → Nat → Prop} {u v w : Nat} (a : Rch E u v) (b : Rch E v w) : Rch E u w := by
  obtain ⟨j, a⟩ := a
  obtain ⟨k, b⟩ := b
  exact ⟨j + k, wk_append a b⟩
theorem rch_one {E : Nat → Nat → Prop} {u v : Nat} (a : E u v) : Rch E u v := ⟨1, .snoc (.nil u) a⟩
theorem rch_closed {E : Nat → Nat → Prop} {S : Nat → Prop} (h : ∀ u v, S u → E u v → S v) {u v : Nat} (hu : S u) (r : Rch E u v) : S v := by
  obtain ⟨k, r⟩ := r
  induction r with
  | nil => exact hu
  | snoc _ e ih => exact h _ _ (ih hu) e
theorem rch_flip {E : Nat → Nat → Prop} {u v : Nat} (r : Rch E u v) : Rch (fun a b => E b a) v u := by
  obtain ⟨k, r⟩ := r
  induction r with
  | nil => exact rch_refl _
  | snoc _ e ih => exact rch_trans (rch_one e) (ih)
/-- walking from inside a lot to outside of it, one leaves it somewhere -/
theorem rch_leave {E : Nat → Nat → Prop} {S : Nat → Prop} {u v : Nat} (hu : S u) (hv : ¬ S v) (r : Rch E u v) : ∃ x y, S x ∧ ¬ S y ∧ E x y ∧ Rch E u x ∧ Rch E y v := by
  obtain ⟨k, r⟩ := r
  induction r with
  | nil => exact absurd hu hv
  | @snoc k u x v a e ih =>
    by_cases c : S x
    · exact ⟨x, v, c, hv, e, ⟨_, a⟩, rch_refl v⟩
    · obtain ⟨x', y', h1, h2, h3, h4, h5⟩ := ih hu c
      exact ⟨x', y', h1, h2, h3, h4, rch_trans h5 (rch_one e)⟩
/-- a search in depth: what it left, its trail -/
structure Dfs (adj : Nat → List Nat) (p0 : Nat) (S0 seen : Nat → Prop) (left : List Nat) (tr : List (Nat × Nat)) : Prop where
  nd : (left ++ tr.map Prod.fst).Nodup
  iff_ : ∀ x, seen x ↔ S0 x ∨ x ∈ left ∨ x ∈ tr.map Prod.fst
  new : ∀ x, x ∈ left ∨ x ∈ tr.map Prod.fst → ¬ S0 x
  fin : ∀ x ∈ left, ∀ y ∈ adj x, seen y
  frm : ∀ f ∈ tr, ∀ y ∈ (adj f.1).take f.2, seen y
  chain : (tr.map Prod.fst).Pairwise fun a b => Rch (fun u v => v ∈ adj u) a b
  ok : ∀ x, x ∈ left ∨ x ∈ tr.map Prod.fst → Rch (fun u v => v ∈ adj u) p0 x
  mem : p0 ∈ left ∨ p0 ∈ tr.map Prod.fst
  star : ∀ A q B, left = A ++ q :: B → ∀ p, Rch (fun u v => v ∈ adj u) q p → S0 p ∨ p ∈ A ∨ p = q ∨ ∃ y, (y ∈ B ∨ y ∈ tr.map Prod.fst) ∧ Rch (fun u v => v ∈ adj u) q y ∧ Rch (fun u v => v ∈ adj u) y q ∧ Rch (fun u v => v ∈ adj u) y p
section
variable {adj : Nat → List Nat} {p0 : Nat} {S0 seen : Nat → Prop} {left : List Nat} {tr : List (Nat × Nat)} {x i : Nat}
theorem dfs_start (h : ¬ S0 p0) (hs : ∀ x, seen x ↔ S0 x ∨ x = p0) : Dfs adj p0 S0 seen [] [(p0, 0)] where
  nd := by simp
  iff_ := fun x => by rw [hs]; simp
  new := fun x hx => by
    rcases hx with z | z
    · cases z
    · have : x = p0 := by simpa using z
      rw [this]; exact h
  fin := fun x hx => by cases hx
  frm := fun f hf y hy => by
    have : f = (p0, 0) := by simpa using hf
    subst this
    simp at hy
  chain := by simp
  ok := fun x hx => by
    rcases hx with z | z
    · cases z
    · have : x = p0 := by simpa using z
      rw [this]; exact rch_refl _
  mem := .inr (by simp)
  star := fun A q B e => by simp at e
/-- the next one was seen -/
theorem dfs_old (h : Dfs adj p0 S0 seen left (tr ++ [(x, i)])) {y : Nat} (hy : (adj x)[i]? = some y) (hs : seen y) : Dfs adj p0 S0 seen left (tr ++ [(x, i + 1)]) := by
  have e : (tr ++ [(x, i + 1)]).map Prod.fst = (tr ++ [(x, i)]).map Prod.fst := by simp
  refine ⟨e ▸ h.nd, fun z => by rw [e]; exact h.iff_ z, fun z => by rw [e]; exact h.new z, h.fin, fun f hf z hz => ?_, by rw [e]; exact h.chain, fun z => by rw [e]; exact h.ok z, by rw [e]; exact h.mem, by rw [e]; exact h.star⟩
  rcases List.mem_append.mp hf with c | c
  · exact h.frm f (List.mem_append_left _ c) z hz
  · have : f = (x, i + 1) := by simpa using c
    subst this
    rw [show (adj x).take (i + 1) = (adj x).take i ++ [y] by rw [List.take_succ, hy]; rfl] at hz
    rcases List.mem_append.mp hz with c | c
    · exact h.frm (x, i) (List.mem_append_right _ (by simp)) z c
    · rw [List.mem_singleton.mp c]; exact hs
/-- the next one is new -/
theorem dfs_new (h : Dfs adj p0 S0 seen left (tr ++ [(x, i)])) {y : Nat} (hy : (adj x)[i]? = some y) (hs : ¬ seen y) {seen' : Nat → Prop} (hs' : ∀ z, seen' z ↔ seen z ∨ z = y) : Dfs adj p0 S0 seen' left (tr ++ [(x, i + 1)] ++ [(y, 0)]) := by
  have e : (tr ++ [(x, i + 1)] ++ [(y, 0)]).map Prod.fst = (tr ++ [(x, i)]).map Prod.fst ++ [y] := by simp
  have hn := (not_congr (h.iff_ y)).mp hs
  have hxy : y ∈ adj x := List.mem_of_getElem? hy
  have hxt : x ∈ (tr ++ [(x, i)]).map Prod.fst := by simp
  refine ⟨?_, fun z => ?_, fun z hz => ?_, fun z hz w hw => (hs' w).mpr (.inl (h.fin z hz w hw)), fun f hf z hz => ?_, ?_, fun z hz => ?_, ?_, fun A q B el p hp => ?_⟩
  · rw [e, ← List.append_assoc, List.nodup_append]
    refine ⟨h.nd, by simp, fun a ha b hb => ?_⟩
    rw [List.mem_singleton.mp hb]
    rintro rfl
    rcases List.mem_append.mp ha with c | c
    · exact hn (.inr (.inl c))
    · exact hn (.inr (.inr c))
  · rw [hs', h.iff_, e, List.mem_append, List.mem_singleton]
    constructor
    · rintro ((a | a | a) | a)
      · exact .inl a
      · exact .inr (.inl a)
      · exact .inr (.inr (.inl a))
      · exact .inr (.inr (.inr a))
    · rintro (a | a | a | a)
      · exact .inl (.inl a)
      · exact .inl (.inr (.inl a))
      · exact .inl (.inr (.inr a))
      · exact .inr a
  · rw [e, List.mem_append, List.mem_singleton] at hz
    rcases hz with c | c | c
    · exact h.new z (.inl c)
    · exact h.new z (.inr c)
    · rw [c]; exact fun q => hn (.inl q)
  · rcases List.mem_append.mp hf with c | c
    · rcases List.mem_append.mp c with c | c
      · exact (hs' z).mpr (.inl (h.frm f (List.mem_append_left _ c) z hz))
      · have : f = (x, i + 1) := by simpa using c
        subst this
        rw [show (adj x).take (i + 1) = (adj x).take i ++ [y] by rw [List.take_succ, hy]; rfl] at hz
        rcases List.mem_append.mp hz with c | c
        · exact (hs' z).mpr (.inl (h.frm (x, i) (List.mem_append_right _ (by simp)) z c))
        · exact (hs' z).mpr (.inr (List.mem_singleton.mp c))
    · have : f = (y, 0) := by simpa using c
      subst this
      simp at hz
  · rw [e, List.pairwise_append]
    refine ⟨h.chain, by simp, fun a ha b hb => ?_⟩
    rw [List.mem_singleton.mp hb]
    rw [List.map_append, List.mem_append] at ha
    have hc := h.chain
    rw [List.map_append, List.pairwise_append] at hc
    rcases ha with c | c
    · exact rch_trans (hc.2.2 a c x (by simp)) (rch_one hxy)
    · have : a = x := by simpa using c
      rw [this]
      exact rch_one hxy
  · rw [e, List.mem_append, List.mem_singleton] at hz
    rcases hz with c | c | c
    · exact h.ok z (.inl c)
    · exact h.ok z (.inr c)
    · rw [c]; exact rch_trans (h.ok x (.inr hxt)) (rch_one hxy)
  · rw [e, List.mem_append]
    rcases h.mem with c | c
    · exact .inl c
    · exact .inr (.inl c)
  · rcases h.star A q B el p hp with a | a | a | ⟨z, hz, r⟩
    · exact .inl a
    · exact .inr (.inl a)
    · exact .inr (.inr (.inl a))
    · refine .inr (.inr (.inr ⟨z, ?_, r⟩))
      rw [e, List.mem_append]
      rcases hz with c | c
      · exact .inl c
      · exact .inr (.inl c)
/-- the last one of the trail is left -/
theorem dfs_leave (h : Dfs adj p0 S0 seen left (tr ++ [(x, i)])) (hi : (adj x).length ≤ i) (hS : ∀ u v, S0 u → v ∈ adj u → S0 v) : Dfs adj p0 S0 seen (left ++ [x]) tr := by
  have em : (tr ++ [(x, i)]).map Prod.fst = tr.map Prod.fst ++ [x] := by simp
  have hfx : ∀ y ∈ adj x, seen y := fun y hy => h.frm (x, i) (List.mem_append_right _ (by simp)) y (by rw [List.take_of_length_le hi]; exact hy)
  have hx0 : ¬ S0 x := h.new x (.inr (by simp))
  have hnd := h.nd
  rw [em] at hnd
  have perm : (left ++ (tr.map Prod.fst ++ [x])).Perm (left ++ [x] ++ tr.map Prod.fst) := by
    rw [List.append_assoc]
    exact List.Perm.append_left left List.perm_append_comm
  have mm : ∀ z, (z ∈ left ++ [x] ∨ z ∈ tr.map Prod.fst) ↔ (z ∈ left ∨ z ∈ (tr ++ [(x, i)]).map Prod.fst) := fun z => by
    rw [em, List.mem_append, List.mem_append, List.mem_singleton]
    constructor
    · rintro ((a | a) | a)
      · exact .inl a
      · exact .inr (.inr a)
      · exact .inr (.inl a)
    · rintro (a | a | a)
      · exact .inl (.inl a)
      · exact .inr a
      · exact .inl (.inr a)
  have hch := h.chain
  rw [em, List.pairwise_append] at hch
  have finAll : ∀ z, z ∈ left ++ [x] → ∀ y ∈ adj z, seen y := fun z hz => by
    rcases List.mem_append.mp hz with c | c
    · exact h.fin z c
    · rw [List.mem_singleton.mp c]; exact hfx
  refine ⟨perm.nodup_iff.mp hnd, fun z => by rw [h.iff_, mm], fun z hz => h.new z ((mm z).mp hz), finAll, fun f hf => h.frm f (List.mem_append_left _ hf), hch.1, fun z hz => h.ok z ((mm z).mp hz), (mm _).mpr h.mem, fun A q B el p hp => ?_⟩
  rcases List.eq_nil_or_concat B with rfl | ⟨B', b, rfl⟩
  · -- the one just left
    have el2 : left ++ [x] = A ++ [q] := el
    obtain ⟨rfl, hq⟩ := List.append_inj' el2 rfl
    have hq : x = q := by simpa using hq
    subst hq
    by_cases c0 : S0 p ∨ p ∈ left ∨ p = x
    · rcases c0 with a | a | a
      · exact .inl a
      · exact .inr (.inl a)
      · exact .inr (.inr (.inl a))
    · obtain ⟨u, y, hu, hy, huy, r1, r2⟩ := rch_leave (S := fun z => S0 z ∨ z ∈ left ∨ z = x) (.inr (.inr rfl)) c0 hp
      have hsy : seen y := by
        rcases hu with a | a | a
        · exact absurd (.inl (hS _ _ a huy)) hy
        · exact h.fin u a y huy
        · rw [a] at huy; exact hfx y huy
      have hty : y ∈ tr.map Prod.fst := by
        rcases (h.iff_ y).mp hsy with a | a | a
        · exact absurd (.inl a) hy
        · exact absurd (.inr (.inl a)) hy
        · rw [em, List.mem_append, List.mem_singleton] at a
          rcases a with a | a
          · exact a
          · exact absurd (.inr (.inr a)) hy
      exact .inr (.inr (.inr ⟨y, .inr hty, rch_trans r1 (rch_one huy), hch.2.2 y hty x (by simp), r2⟩))
  · rw [List.concat_eq_append] at el ⊢
    have el2 : left ++ [x] = (A ++ q :: B') ++ [b] := by rw [el]; simp
    obtain ⟨rfl, hb⟩ := List.append_inj' el2 rfl
    have hb : x = b := by simpa using hb
    subst hb
    rcases h.star A q B' rfl p hp with a | a | a | ⟨z, hz, r⟩
    · exact .inl a
    · exact .inr (.inl a)
    · exact .inr (.inr (.inl a))
    · refine .inr (.inr (.inr ⟨z, ?_, r⟩))
      rw [em, List.mem_append, List.mem_singleton] at hz
      rcases hz with c | c | c
      · exact .inl (List.mem_append_left _ c)
      · exact .inr c
      · exact .inl (List.mem_append_right _ (by rw [c]; simp))
/-- at the end -/
theorem dfs_end (h : Dfs adj p0 S0 seen left []) (hS : ∀ u v, S0 u → v ∈ adj u → S0 v) :
    left.Nodup ∧ (∀ x, seen x ↔ S0 x ∨ x ∈ left) ∧ (∀ x, x ∈ left ↔ Rch (fun u v => v ∈ adj u) p0 x ∧ ¬ S0 x) ∧ (∀ u v, seen u → v ∈ adj u → seen v) ∧
      ∀ A q B, left = A ++ q :: B → ∀ p, Rch (fun u v => v ∈ adj u) q p → S0 p ∨ p ∈ A ∨ p = q ∨ ∃ y ∈ B, Rch (fun u v => v ∈ adj u) q y ∧ Rch (fun u v => v ∈ adj u) y q ∧ Rch (fun u v => v ∈ adj u) y p := by
  have hs : ∀ x, seen x ↔ S0 x ∨ x ∈ left := fun x => by rw [h.iff_]; simp
  have hcl : ∀ u v, seen u → v ∈ adj u → seen v := fun u v hu hv => by
    rcases (hs u).mp hu with a | a
    · exact (hs v).mpr (.inl (hS u v a hv))
    · exact h.fin u a v hv
  have hp0 : p0 ∈ left := by
    rcases h.mem with a | a
    · exact a
    · simp at a
  refine ⟨by simpa using h.nd, hs, fun x => ⟨fun hx => ⟨h.ok x (.inl hx), h.new x (.inl hx)⟩, fun ⟨r, hn⟩ => ?_⟩, hcl, fun A q B el p hp => ?_⟩
  · have := rch_closed hcl ((hs p0).mpr (.inr hp0)) r
    rcases (hs x).mp this with a | a
    · exact absurd a hn
    · exact a
  · rcases h.star A q B el p hp with a | a | a | ⟨z, hz, r⟩
    · exact .inl a
    · exact .inr (.inl a)
    · exact .inr (.inr (.inl a))
    · rcases hz with c | c
      · exact .inr (.inr (.inr ⟨z, c, r⟩))
      · simp at c
end
/-! ### the measure of a search -/
/-- steps that are still to be made: for points not seen, and for the trail -/
def todo (adj : Nat → List Nat) (seen : List Bool) : Nat → Nat
  | 0 => 0
  | n + 1 => todo adj seen n + (if seen[n]? = some false then (adj n).length + 2 else 0)
def owed (adj : Nat → List Nat) : List (Nat × Nat) → Nat
  | [] => 0
  | f :: r => ((adj f.1).length - f.2 + 1) + owed adj r
theorem owed_app (adj : Nat → List Nat) : ∀ a b : List (Nat × Nat), owed adj (a ++ b) = owed adj a + owed adj b
  | [], b => by simp [owed]
  | f :: r, b => by
    show _ + owed adj (r ++ b) = _ + owed adj r + owed adj b
    rw [owed_app adj r b]
    omega
theorem todo_set (adj : Nat → List Nat) {seen : List Bool} {y : Nat} (h : seen[y]? = some false) : ∀ n, todo adj (seen.set y true) n + (if y < n then (adj y).length + 2 else 0) = todo adj seen n
  | 0 => by simp [todo]
  | n + 1 => by
    have ih := todo_set adj h n
    show (todo adj (seen.set y true) n + (if (seen.set y true)[n]? = some false then (adj n).length + 2 else 0)) + _ = todo adj seen n + (if seen[n]? = some false then (adj n).length + 2 else 0)
    by_cases c : y = n
    · subst c
      have hl : y < seen.length := (List.getElem?_eq_some_iff.mp h).1
      have e1 : (seen.set y true)[y]? = some true := by simp [hl]
      rw [e1, h, if_pos (show y < y + 1 by omega), if_pos (show some false = some false from rfl), if_neg (show ¬ (some true = some false) by simp)]
      rw [if_neg (show ¬ y < y by omega)] at ih
      omega
    · have e1 : (seen.set y true)[n]? = seen[n]? := by rw [List.getElem?_set_ne c]
      rw [e1]
      by_cases d : y < n
      · rw [if_pos (show y < n + 1 by omega)]
        rw [if_pos d] at ih
        omega
      · rw [if_neg (show ¬ y < n + 1 by omega)]
        rw [if_neg d] at ih
        omega
end My
namespace My
open PySem PySem.W L2 L2.DX PyProof.Rows
/-! ### the parts of a web -/
def Mut (E : Nat → Nat → Prop) (u v : Nat) : Prop := Rch E u v ∧ Rch E v u
theorem mut_refl {E : Nat → Nat → Prop} (u : Nat) : Mut E u u := ⟨rch_refl u, rch_refl u⟩
theorem Mut.symm {E : Nat → Nat → Prop} {u v : Nat} (h : Mut E u v) : Mut E v u := ⟨h.2, h.1⟩
theorem Mut.trans {E : Nat → Nat → Prop} {u v w : Nat} (h : Mut E u v) (k : Mut E v w) : Mut E u w := ⟨rch_trans h.1 k.1, rch_trans k.2 h.2⟩
theorem rch_back {E F : Nat → Nat → Prop} (h : ∀ a b, F a b ↔ E b a) {u v : Nat} : Rch F u v ↔ Rch E v u := by
  constructor
  · intro r
    obtain ⟨k, r⟩ := rch_flip r
    refine rch_closed (S := fun x => Rch E v x) (fun a b ha e => rch_trans ha (rch_one ((h b a).mp e))) (rch_refl v) ⟨k, r⟩
  · intro r
    obtain ⟨k, r⟩ := rch_flip r
    refine rch_closed (S := fun x => Rch F u x) (fun a b ha e => rch_trans ha (rch_one ((h a b).mpr e))) (rch_refl u) ⟨k, r⟩
theorem mut_back {E F : Nat → Nat → Prop} (h : ∀ a b, F a b ↔ E b a) {u v : Nat} : Mut F u v ↔ Mut E u v := by
  unfold Mut
  rw [rch_back h, rch_back h]
  exact ⟨fun z => ⟨z.2, z.1⟩, fun z => ⟨z.2, z.1⟩⟩
theorem rch_low {E : Nat → Nat → Prop} {N : Nat} (h : ∀ a b, E a b → a < N) {u v : Nat} (hv : v < N) (r : Rch E u v) : u < N := by
  by_cases c : u = v
  · omega
  · obtain ⟨x, y, hx, hy, e, _⟩ := rch_leave (S := fun z => z = u) rfl (fun z => c z.symm) r
    rw [hx] at e
    exact h _ _ e
/-- the sequence in which a search leaves the points -/
def StarL (E : Nat → Nat → Prop) (L : List Nat) : Prop := ∀ A q B, L = A ++ q :: B → ∀ x, Rch E q x → x ∈ A ∨ x = q ∨ ∃ y ∈ B, Rch E q y ∧ Rch E y q ∧ Rch E y x
theorem star_nil {E : Nat → Nat → Prop} : StarL E [] := fun A q B e => by simp at e
theorem star_app {E : Nat → Nat → Prop} {L M : List Nat} (h : StarL E L) (k : ∀ A q B, M = A ++ q :: B → ∀ x, Rch E q x → x ∈ L ∨ x ∈ A ∨ x = q ∨ ∃ y ∈ B, Rch E q y ∧ Rch E y q ∧ Rch E y x) : StarL E (L ++ M) := by
  intro A q B e x r
  rcases List.append_eq_append_iff.mp e with ⟨a', h1, h2⟩ | ⟨c', h1, h2⟩
  · rcases k a' q B h2 x r with z | z | z | z
    · exact .inl (by rw [h1]; exact List.mem_append_left _ z)
    · exact .inl (by rw [h1]; exact List.mem_append_right _ z)
    · exact .inr (.inl z)
    · exact .inr (.inr z)
  · cases c' with
    | nil =>
      simp at h1 h2
      rcases k [] q B (by rw [← h2]; rfl) x r with z | z | z | z
      · exact .inl (by rw [← h1]; exact z)
      · simp at z
      · exact .inr (.inl z)
      · exact .inr (.inr z)
    | cons c0 cr =>
      have e0 : q = c0 := (List.cons.inj h2).1
      have e1 : B = cr ++ M := (List.cons.inj h2).2
      subst e0
      rcases h A q cr h1 x r with z | z | ⟨y, hy, z⟩
      · exact .inl z
      · exact .inr (.inl z)
      · exact .inr (.inr ⟨y, by rw [e1]; exact List.mem_append_left _ hy, z⟩)
theorem star_class {E : Nat → Nat → Prop} {q : Nat} {B : List Nat} : ∀ (n : Nat) {A1 A2 : List Nat} {x : Nat}, A2.length ≤ n → StarL E (A1 ++ x :: (A2 ++ q :: B)) → (A1 ++ x :: (A2 ++ q :: B)).Nodup → Rch E x q → Mut E x q ∨ ∃ y ∈ B, Mut E x y := by
  intro n
  induction n with
  | zero =>
    intro A1 A2 x hn hs hd r
    have e : A2 = [] := List.length_eq_zero_iff.mp (by omega)
    subst e
    rw [List.nil_append] at hs hd
    have hd2 := List.nodup_append.mp hd
    rcases hs A1 x _ rfl q r with z | z | ⟨y, hy, r1, r2, r3⟩
    · exact absurd rfl (hd2.2.2 q z q (by simp))
    · have := (List.nodup_cons.mp hd2.2.1).1
      rw [z] at this
      exact absurd List.mem_cons_self this
    · rcases List.mem_cons.mp hy with z | z
      · rw [z] at r1 r2
        exact .inl ⟨r1, r2⟩
      · exact .inr ⟨y, z, r1, r2⟩
  | succ n ih =>
    intro A1 A2 x hn hs hd r
    have hd2 := List.nodup_append.mp hd
    rcases hs A1 x _ rfl q r with z | z | ⟨y, hy, r1, r2, r3⟩
    · exact absurd rfl (hd2.2.2 q z q (by simp))
    · have := (List.nodup_cons.mp hd2.2.1).1
      rw [z] at this
      exact absurd (by simp) this
    · rcases List.mem_append.mp hy with z | z
      · obtain ⟨C1, C2, rfl⟩ := List.append_of_mem z
        have e2 : A1 ++ x :: (C1 ++ y :: C2 ++ q :: B) = (A1 ++ x :: C1) ++ y :: (C2 ++ q :: B) := by simp
        rw [e2] at hs hd
        have hl : C2.length ≤ n := by
          rw [List.length_append, List.length_cons] at hn
          omega
        rcases ih hl hs hd r3 with w | ⟨v, hv, w⟩
        · exact .inl (Mut.trans ⟨r1, r2⟩ w)
        · exact .inr ⟨v, hv, Mut.trans ⟨r1, r2⟩ w⟩
      · rcases List.mem_cons.mp z with w | w
        · rw [w] at r1 r2
          exact .inl ⟨r1, r2⟩
        · exact .inr ⟨y, w, r1, r2⟩
theorem class_of {E : Nat → Nat → Prop} {A B : List Nat} {q : Nat} {S : Nat → Prop} (hs : StarL E (A ++ q :: B)) (hd : (A ++ q :: B).Nodup) (hall : ∀ x, Rch E x q → x ∈ A ++ q :: B) (hS : ∀ x, S x ↔ ∃ y ∈ B, Mut E y x) (hq : ¬ S q) (x : Nat) : (Rch E x q ∧ ¬ S x) ↔ Mut E q x := by
  constructor
  · rintro ⟨r, hn⟩
    rcases List.mem_append.mp (hall x r) with z | z
    · obtain ⟨A1, A2, rfl⟩ := List.append_of_mem z
      rw [show A1 ++ x :: A2 ++ q :: B = A1 ++ x :: (A2 ++ q :: B) by simp] at hs hd
      rcases star_class A2.length (Nat.le_refl _) hs hd r with w | ⟨y, hy, w⟩
      · exact w.symm
      · exact absurd ((hS x).mpr ⟨y, hy, w.symm⟩) hn
    · rcases List.mem_cons.mp z with w | w
      · rw [w]; exact mut_refl q
      · exact absurd ((hS x).mpr ⟨x, w, mut_refl x⟩) hn
  · intro h
    refine ⟨h.2, fun z => hq ?_⟩
    obtain ⟨y, hy, w⟩ := (hS x).mp z
    exact (hS q).mpr ⟨y, hy, w.trans h.symm⟩
/-! ### as they are told -/
noncomputable def bdec (p : Prop) : Bool := @decide p (Classical.propDecidable p)
theorem bdec_iff {p : Prop} : bdec p = true ↔ p := by
  unfold bdec
  exact @decide_eq_true_iff p (Classical.propDecidable p)
noncomputable def clsL (E : Nat → Nat → Prop) (N p : Nat) : List Nat := (List.range N).filter fun x => bdec (Mut E p x)
theorem clsL_mem {E : Nat → Nat → Prop} {N p x : Nat} : x ∈ clsL E N p ↔ x < N ∧ Mut E p x := by
  unfold clsL
  rw [List.mem_filter, List.mem_range, bdec_iff]
theorem clsL_rising {E : Nat → Nat → Prop} {N p : Nat} : (clsL E N p).Pairwise (· < ·) := by
  unfold clsL
  exact List.Pairwise.filter _ List.pairwise_lt_range
theorem clsL_same {E : Nat → Nat → Prop} {N p q : Nat} (h : Mut E p q) : clsL E N p = clsL E N q := by
  unfold clsL
  congr 1
  funext x
  have e : Mut E p x ↔ Mut E q x := ⟨fun z => h.symm.trans z, fun z => h.trans z⟩
  rw [show (Mut E p x) = (Mut E q x) from propext e]
noncomputable def headsL (E : Nat → Nat → Prop) (N : Nat) : List Nat := (List.range N).filter fun p => bdec (∀ x, x < p → ¬ Mut E p x)
theorem headsL_mem {E : Nat → Nat → Prop} {N p : Nat} : p ∈ headsL E N ↔ p < N ∧ ∀ x, x < p → ¬ Mut E p x := by
  unfold headsL
  rw [List.mem_filter, List.mem_range, bdec_iff]
theorem headsL_rising {E : Nat → Nat → Prop} {N : Nat} : (headsL E N).Pairwise (· < ·) := by
  unfold headsL
  exact List.Pairwise.filter _ List.pairwise_lt_range
noncomputable def partsL (E : Nat → Nat → Prop) (N : Nat) : List (List Nat) := (headsL E N).map (clsL E N)
theorem least_of {P : Nat → Prop} : ∀ n, P n → ∃ m, P m ∧ ∀ x, x < m → ¬ P x := by
  intro n
  induction n using Nat.strongRecOn with
  | ind n ih =>
    intro hn
    by_cases c : ∃ x, x < n ∧ P x
    · obtain ⟨x, hx, h⟩ := c
      exact ih x hx h
    · exact ⟨n, hn, fun x hx h => c ⟨x, hx, h⟩⟩
/-- each point's least companion -/
theorem head_of {E : Nat → Nat → Prop} {N p : Nat} (hp : p < N) : ∃ h ∈ headsL E N, Mut E p h := by
  obtain ⟨m, h1, h2⟩ := least_of (P := fun x => Mut E p x) p (mut_refl p)
  refine ⟨m, headsL_mem.mpr ⟨?_, fun x hx hm => h2 x hx (h1.trans hm)⟩, h1⟩
  rcases Nat.lt_or_ge p m with c | c
  · exact absurd (mut_refl p) (h2 p c)
  · omega
theorem head_unique {E : Nat → Nat → Prop} {N a b : Nat} (ha : a ∈ headsL E N) (hb : b ∈ headsL E N) (h : Mut E a b) : a = b := by
  rw [headsL_mem] at ha hb
  rcases Nat.lt_trichotomy a b with c | c | c
  · exact absurd h.symm (hb.2 a c)
  · exact c
  · exact absurd h (ha.2 b c)
theorem clsL_head {E : Nat → Nat → Prop} {N p : Nat} (hp : p ∈ headsL E N) : ∃ r, clsL E N p = p :: r := by
  have h0 := headsL_mem.mp hp
  have hm : p ∈ clsL E N p := clsL_mem.mpr ⟨h0.1, mut_refl p⟩
  have hr := clsL_rising (E := E) (N := N) (p := p)
  cases e : clsL E N p with
  | nil => rw [e] at hm; simp at hm
  | cons a r =>
    rw [e] at hm hr
    have ha : a ∈ clsL E N p := by rw [e]; simp
    rcases List.mem_cons.mp hm with z | z
    · exact ⟨r, by rw [z]⟩
    · have h1 := (List.pairwise_cons.mp hr).1 p z
      exact absurd (clsL_mem.mp ha).2 (h0.2 a h1)
theorem parts_back {E F : Nat → Nat → Prop} (h : ∀ a b, F a b ↔ E b a) (N : Nat) : partsL F N = partsL E N := by
  have e : Mut F = Mut E := by
    funext u v
    exact propext (mut_back h)
  unfold partsL headsL clsL
  rw [e]
/-! ### sorted -/
abbrev dn (L : List Nat) : PyData := .list (L.map fun n : Nat => PyData.int (n : Int))
theorem keyTok_dn (a : Nat) (r : List Nat) : ∃ t, keyToks (dn (a :: r)) = .inl 1 :: .inl (a : Int) :: t := by
  refine ⟨keyToksAll (r.map fun n : Nat => PyData.int (n : Int)), ?_⟩
  show keyToks (.list (PyData.int (a : Int) :: (r.map fun n : Nat => PyData.int (n : Int)))) = _
  rw [keyToks, keyToksAll, keyToks]
  rfl
theorem dataLe_refl (d : PyData) : dataLe false id d d = true := by
  show (!(listOrd itemOrd).blt (keyToks d) (keyToks d)) = true
  rw [(listOrd itemOrd).irrefl]
  rfl
theorem dataLe_dn {a b : Nat} {r t : List Nat} (h : a ≠ b) : dataLe false id (dn (a :: r)) (dn (b :: t)) = decide (a ≤ b) := by
  obtain ⟨x, hx⟩ := keyTok_dn a r
  obtain ⟨y, hy⟩ := keyTok_dn b t
  show (!(lexLt itemOrd (keyToks (dn (b :: t))) (keyToks (dn (a :: r))))) = _
  rw [hx, hy, lex_cons, lex_cons]
  have e1 : itemOrd.blt (Sum.inl 1) (Sum.inl 1) = false := itemOrd.irrefl _
  have e2 : itemOrd.blt (Sum.inl (b : Int)) (Sum.inl (a : Int)) = decide ((b : Int) < (a : Int)) := rfl
  have e3 : itemOrd.blt (Sum.inl (a : Int)) (Sum.inl (b : Int)) = decide ((a : Int) < (b : Int)) := rfl
  rw [e1, e2, e3]
  by_cases c : a ≤ b
  · have h1 : (a : Int) < (b : Int) := by omega
    have h2 : ¬ (b : Int) < (a : Int) := by omega
    simp [c, h1, h2]
  · have h1 : ¬ (a : Int) < (b : Int) := by omega
    have h2 : (b : Int) < (a : Int) := by omega
    simp [c, h2]
theorem sort_parts {E : Nat → Nat → Prop} {N : Nat} {hs : List Nat} (hp : hs.Perm (headsL E N)) : ((hs.map (clsL E N)).map dn).mergeSort (dataLe false id) = (partsL E N).map dn := by
  have hmem : ∀ a ∈ hs, a ∈ headsL E N := fun a ha => hp.mem_iff.mp ha
  rw [List.map_map, ← List.map_mergeSort (f := dn ∘ clsL E N) (r := fun a b : Nat => decide (a ≤ b)) (s := dataLe false id) (l := hs) (fun a ha b hb => ?_)]
  · unfold partsL
    rw [List.map_map]
    congr 1
    have h1 : (hs.mergeSort fun a b : Nat => decide (a ≤ b)).Pairwise (fun a b => decide (a ≤ b) = true) := List.pairwise_mergeSort (fun a b c h k => by simp at *; omega) (fun a b => by simp; omega) hs
    have h2 : (hs.mergeSort fun a b : Nat => decide (a ≤ b)).Perm (headsL E N) := (List.mergeSort_perm _ _).trans hp
    refine h2.eq_of_pairwise ?_ (h1.imp fun h => of_decide_eq_true h) (headsL_rising.imp fun h => Nat.le_of_lt h)
    intro a b _ _ h k
    omega
  · by_cases c : a = b
    · subst c
      show decide (a ≤ a) = dataLe false id _ _
      rw [dataLe_refl]
      simp
    · obtain ⟨r, er⟩ := clsL_head (hmem a ha)
      obtain ⟨t, et⟩ := clsL_head (hmem b hb)
      show decide (a ≤ b) = dataLe false id (dn (clsL E N a)) (dn (clsL E N b))
      rw [er, et, dataLe_dn c]
end My
/-! enumerate(t), t a tuple -/
namespace My
open PySem PySem.Spec PyProof.Rows L2
open AutoSeq1 (wpAny_loadPart')
theorem enum_new_tup (q : Addr) (ys : Array Value) (m : Nat) (dc : Option Addr) (sl : Array (Option Value)) :
    Meets (Builtin.«enumerate.__new__» ⟨[.type "enumerate", .ref q], []⟩) (fun _ R s => s.heap.get? q = some { cls := .type "tuple", dict := dc, data := .seq ys m, slots := sl } ∧
      R (.ok (.ret (.ref (s.heap.push { cls := .type "tuple_iterator", data := .fields #[.ref q, .int 0 0] }).objs.size)))
        { s with heap := (s.heap.push { cls := .type "tuple_iterator", data := .fields #[.ref q, .int 0 0] }).push { cls := .type "enumerate", data := .fields #[.none, .bool false, .ref s.heap.objs.size, rawInt 0, .none, .none] } }) :=
  .of_wp fun prog w A R s k => by
    obtain ⟨hh, g, dr, tk, os⟩ := s
    obtain ⟨kq, k⟩ := k
    have hsub := sub_enumerate
    have hT : Heap.IsTuple (Shared.heap ⟨hh, g, dr, tk, os⟩) q ys := ⟨_, kq, rfl, m, rfl⟩
    wp_walk using wpAny_loadPart' kq
    refine wpAny_stack_any fun _ => wpAny_pure ?_
    split
    · rename_i c _ _ _ _ _
      cases (c == Value.type "enumerate") <;>
        (wp_walk using wpAny_loadPart' kq, wpAny_pyIter_tuple hT
         exact ⟨_, rfl, k⟩)
    · wp_walk using wpAny_loadPart' kq, wpAny_pyIter_tuple hT
      exact ⟨_, rfl, k⟩
section
variable {prog : Program} {w : World} {A : Around} {E : Value → Shared → Prop} {s : Shared}
theorem call_enum_tup {q : Addr} {ys : Array Value} {Q : Value → Shared → Prop} (hT : s.heap.IsTuple q ys)
    (k : ∀ h', IsEnum h' (s.heap.objs.size + 1) s.heap.objs.size 0 .none → h'.IsTupleIter s.heap.objs.size q 0 → h'.objs.size = s.heap.objs.size + 2 →
      (∀ b o, s.heap.get? b = some o → h'.get? b = some o) → Q (.ref (s.heap.objs.size + 1)) { s with heap := h' }) :
    wpAny (model prog w) A (call (.type "enumerate") [.ref q]) Q E s := by
  obtain ⟨⟨cl, dc, dt, sl⟩, kq, ec, m, ed⟩ := hT
  cases (show cl = .type "tuple" from ec)
  cases (show dt = .seq ys m from ed)
  refine callType_new F.called_enumerate (by decide) (F.typeCall_enumerate_1 _) (F.newCall_enumerate_1 _) (fun obj => F.args_object_init_2 obj _) F.entry_enumerate_new
    (enum_new_tup q ys m dc sl) ⟨kq, ?_⟩
  have z1 : (s.heap.push { cls := .type "tuple_iterator", data := .fields #[.ref q, .int 0 0] }).objs.size = s.heap.objs.size + 1 := Heap.size_push ..
  show _ ∧ _
  rw [z1]
  have he : IsEnum ((s.heap.push { cls := .type "tuple_iterator", data := .fields #[.ref q, .int 0 0] }).push
      { cls := .type "enumerate", data := .fields #[.none, .bool false, .ref s.heap.objs.size, rawInt 0, .none, .none] }) (s.heap.objs.size + 1) s.heap.objs.size 0 .none := by
    have z2 := Heap.get?_push_size (s.heap.push { cls := .type "tuple_iterator", data := .fields #[.ref q, .int 0 0] })
      (o := { cls := .type "enumerate", data := .fields #[.none, .bool false, .ref s.heap.objs.size, rawInt 0, .none, .none] }) rfl
    rwa [z1] at z2
  exact ⟨⟨_, he, rfl⟩, k _ he ⟨_, Heap.get?_push_of_some _ (Heap.get?_push_size _ rfl), rfl, rfl⟩ (by rw [Heap.size_push, z1]) fun b o x => Heap.get?_push_of_some _ (Heap.get?_push_of_some _ x)⟩
end
/-- the tuple at a, each item in a new pair -/
def Ity (K : PySem.W.Frag) (a : Addr) : It :=
  ⟨fun i H => ∃ (xs : List V) (x : V), SqT K H a xs ∧ xs[i]? = some x, fun i H v H' => ∃ T x, v = .ref T ∧ H T = none ∧ H' = upd H T (.tup [.int (i : Nat), x]) ∧ ∀ xs, SqT K H a xs → xs[i]? = some x, fun i H => ∃ xs : List V, SqT K H a xs ∧ xs.length = i⟩
theorem walk_enumT {K : PySem.W.Frag} {a : Addr} {xs : List V} : Walk (Ity K a) xs.length (fun H => SqT K H a xs) (YPair (fun i => some (.int (i : Nat))) (fun i => xs[i]?)) := by
  refine ⟨fun i _ hi q => ⟨xs, xs[i], q, List.getElem?_eq_getElem hi⟩, fun _ q => ⟨xs, q, rfl⟩, fun i H v H' _ q y => ?_⟩
  obtain ⟨T, x, y1, y2, y3, y4⟩ := y
  exact ⟨T, .int (i : Nat), x, y1, y2, y3, rfl, y4 xs q⟩
theorem turn_enumT {P : Program} {w : World} {K : PySem.W.Frag} {elts : List Expr} {kk : Nat} {tpos : Pos} (a e it : Addr) (nai : a ≠ it) (nea : e ≠ a) :
    Turn P w K (.Tuple elts kk tpos) (Ity K a) [e, it] e (fun i h => (∃ old, IsEnum h e it ((i : Nat) : Int) old) ∧ h.IsTupleIter it a i ∧ e ≠ it) where
  mem := by simp
  obj := fun i h st b hb => by
    obtain ⟨⟨old, he⟩, ⟨o, ho, hc, hd⟩, _⟩ := st
    rcases (show b = e ∨ b = it by simpa using hb) with z | z
    · subst z; exact ⟨_, he, fun v q => nomatch q⟩
    · subst z; exact ⟨o, ho, fun v q => by rw [hd] at q; cases q⟩
  keep := fun i h h' st k => let ⟨⟨old, he⟩, hi, hne⟩ := st; ⟨⟨old, k e (by simp) _ he⟩, hi.at fun o q => k it (by simp) o q, hne⟩
  item := by
    intro X hP hw hK hc i pins s σ H E I hf st hg
    subst hP hw hK
    obtain ⟨⟨old, he⟩, hit, hne⟩ := st
    obtain ⟨xs, x, hq, hx⟩ := hg
    obtain ⟨its, rv, p, hz⟩ := I.tuple hq
    obtain ⟨u, hu, ru⟩ := rv.get hx
    have le : e < s.heap.objs.size := Heap.lt_size he
    have li : it < s.heap.objs.size := by obtain ⟨_, q, _⟩ := hit; exact Heap.lt_size q
    have small : i < its.toArray.size := by
      have := (List.getElem?_eq_some_iff.mp hu).1
      simpa using this
    refine wpAny_pyNext_enum_itemD (Draws.tuple (A := X.A.in1) (I.ok.hd hc) it a nai its.toArray) he ⟨hit, (show s.heap.IsTuple a its.toArray from p)⟩ small hne (by simp [hne, nea]) fun x' h' tk hx' ho hst hT hsz hk => ?_
    have ex : x' = u := by
      have : its[i]? = some x' := by simpa using hx'
      rw [hu] at this
      exact (Option.some.inj this).symm
    subst ex
    obtain ⟨hst1, hst2⟩ := hst
    refine ⟨_, rfl, wpAny_letOwnedTupleGo_enum (s := { s with heap := h', toks := tk + 1 }) ho fun h2 he2 sb => ?_⟩
    have gT : h2.get? s.heap.objs.size = some { cls := .type "tuple", data := .seq #[.int i tk, x'] } := (sb.2 _ (Nat.ne_of_gt le)).trans hT
    have okT : ObjOk X.prog X.w (upd H s.heap.objs.size (.tup [.int (i : Nat), x])) h2 s.heap.objs.size (.tup [.int (i : Nat), x]) :=
      ⟨by show 2 ≤ sizeLine; decide, [.int i tk, x'], .cons ⟨_, rfl⟩ (.cons ru .nil), ⟨_, gT, rfl, _, rfl⟩⟩
    have I2 : Inv X pins σ (upd H s.heap.objs.size (.tup [.int (i : Nat), x])) { s with heap := h2, toks := tk + 1 } :=
      I.turnedNew (t' := tk + 1) (ch := [e, it]) (fun b ob hb q => (sb.2 b (fun z => hb (by simp [z]))).trans (hk b ob (fun z => hb (by simp [z])) (fun z => hb (by simp [z])) q)) hf (Nat.le_refl _) okT
    refine ⟨.ref s.heap.objs.size, _, I2, rfl, ⟨_, x, rfl, I.hok.fresh (Nat.le_refl _), rfl, fun ys hy => by rw [I.tuple_inj hy hq]; exact hx⟩, ⟨⟨x', ?_⟩, hst1.at fun o q => (sb.2 it (Ne.symm hne)).trans q, hne⟩, fun b hb => ?_⟩
    · rw [show ((i + 1 : Nat) : Int) = (i : Int) + 1 by omega]
      exact he2
    · have lb : b < s.heap.objs.size := by
        rcases (show b = e ∨ b = it by simpa using hb) with z | z
        · rw [z]; exact le
        · rw [z]; exact li
      rw [upd_ne (Nat.ne_of_lt lb)]
      exact (hf b hb).1
  done := by
    intro X hP hw hK hc i pins s σ H E I hf st hg
    subst hP hw hK
    obtain ⟨⟨old, he⟩, hit, hne⟩ := st
    obtain ⟨xs, hq, hx⟩ := hg
    obtain ⟨its, rv, p, hz⟩ := I.tuple hq
    obtain ⟨f0, f1, f2, f3, f4, f5⟩ := hf it (by simp)
    have hl := rv.length
    have hsz : i = its.toArray.size := by
      rw [List.size_toArray]
      omega
    rw [hsz] at hit
    exact wpAny_pyNext_enum_endD (Draws.tuple (A := X.A.in1) (I.ok.hd hc) it a nai its.toArray) he ⟨hit, (show s.heap.IsTuple a its.toArray from p)⟩ fun h' eb => ⟨rfl, I.turned (t' := s.toks) (fun b o hb e => eb b o hb e) f0 f1 f3 f4 f5⟩
  self := fun A i s Q E st h => let ⟨⟨_, he⟩, _⟩ := st; wpAny_pyIter_enum he h
def iEnumT (K : PySem.W.Frag) (ta : TA) : TI := fun σ H R => ta σ H fun vs H1 => ∃ a xs, vs = [.ref a] ∧ SqT K H1 a xs ∧ R (Ity K a) H1
theorem pi_enumT {X : Cx} {e : Expr} {ta : TA} {p pos tpos : Pos} {elts : List Expr} {kk : Nat} (hg : Gl X "enumerate") (hm : X.mg "enumerate" = none) (ha : PA X [e] ta) (hs : starEach [e] X.env = [(false, eval e X.env)] := by rfl) :
    PI X (.Tuple elts kk tpos) (.Call (.Name "enumerate" p) [e] [] pos) (iEnumT X.K ta) := by
  constructor
  intro pins s σ H R I h
  refine Call_ (ld_blt I hg hm boot_enumerate (PyProof.Rows.callWith_type1 (thn (ha.run pos pins s σ H _ I h) fun us s1 ⟨vs, H1, I1, r1, q1⟩ => ?_) hs rfl))
  obtain ⟨a, xs, rfl, hq, q⟩ := q1
  obtain rfl := Vals.ref1 r1
  obtain ⟨its, rv, p', hz⟩ := I1.tuple hq
  have la : a < s1.heap.objs.size := by obtain ⟨_, z, _⟩ := p'; exact Heap.lt_size z
  refine call_enum_tup (show s1.heap.IsTuple a its.toArray from p') fun h' he hit hsz hk => wpAny_pyIter_enum he ?_
  have I2 : Inv X pins σ H1 { s1 with heap := h' } := I1.kept (t' := s1.toks) hk
  refine ⟨s1.heap.objs.size + 1, [s1.heap.objs.size + 1, s1.heap.objs.size], _, _, H1, rfl, I2, turn_enumT a (s1.heap.objs.size + 1) s1.heap.objs.size (Nat.ne_of_lt la) (Nat.ne_of_gt (Nat.lt_succ_of_lt la)), ⟨⟨.none, he⟩, hit, Nat.succ_ne_self _⟩, fun b hb => ?_, q⟩
  have hle : s1.heap.objs.size ≤ b := by
    rcases (show b = s1.heap.objs.size + 1 ∨ b = s1.heap.objs.size by simpa using hb) with z | z
    · rw [z]; exact Nat.le_succ _
    · rw [z]; exact Nat.le_refl _
  exact I1.fpOk hle (I1.hok.fresh hle)
end My
namespace My
open PySem L2 PyProof.Rows
/-! ### contracts of defs that are called where nothing is being shown -/
structure FnG (P : Program) (w : World) (K : PySem.W.Frag) (mg : Str → Option Value) (base : Heap) (k : Nat) (f : Addr) (fd : FuncData) (ps : List Str) (sp : Sp) : Prop where
  len : ∀ vs H Q E, sp vs H Q E → vs.length = ps.length
  run : ∀ (A : Around) (outer : List Env) (s : Shared) (H : Hp) (args : Args) (us : List Value) (vs : List V) (Q : VK) (E : XK), Room k A → A.guards = some [] → Env0 P w K mg base A outer s H → BindsTo s fd args (ps.zip us) → Vals vs us → sp vs H Q E →
    codeAny (model P w) A (.call (.ref f) args) (CR CX0 outer P w H s Q E) s
section
variable {P : Program} {w : World} {K : PySem.W.Frag} {mg : Str → Option Value} {base : Heap}
theorem FnG.ofOk {k : Nat} {f : Addr} {fd : FuncData} {ps : List Str} {sp : Sp} (F : FnOk P w K mg base CX0 k f fd ps sp) : FnG P w K mg base k f fd ps sp :=
  ⟨F.len, fun A outer s H args us vs Q E hr _ he hb hv hs => F.run A outer s H args us vs Q E hr he hb hv hs⟩
theorem FnG.ofBody {x qual : Str} {st : Stmt} {f : Addr} {fd : FuncData} {N ps : List Str} {k : Nat} {sp : Sp} (F : Fun K x qual st f fd) (S : FnScope N ps (defScope st)) (len : ∀ vs H Q E, sp vs H Q E → vs.length = ps.length)
    (body : ∀ (cdv : Value) (A : Around) (outer : List Env) (s : Shared) (H : Hp) (vs : List V) (Q : VK) (E : XK), Room k (A.deeper (envOfC qual (defScope st) s.heap.objs.size f cdv)) → A.guards = some [] → sp vs H Q E →
      ∃ t, PSs (cxOf CX0 P w K mg base N qual (defScope st) f cdv A outer s H E).nox (defBody st) t ∧ t { nx := fun _ H' => Q .non H', rt := Q } (start N vs) H) : FnG P w K mg base (k + 1) f fd ps sp := by
  obtain ⟨oc, od, kV, doc, pm, an, cdv, ct, osl, rfl, lk, hcd⟩ := F.ex
  constructor
  · exact len
  intro A outer s H args us vs Q E room quiet env bound rel want
  have many := len _ _ _ _ want
  have inK : K.In s.heap := env.mod.kin.keeps (fun b o e => (env.bs b o e).1)
  have unlimited : s.heap.NoLimit := env.mod.nolimit.keeps (fun b o e => (env.bs b o e).1)
  have kinds : ∀ y ∈ ps.zip us, (defScope st).names.lookup y.1 = some .local ∨ ((defScope st).names.lookup y.1 = some .cell ∧ ((cellsFrom (s.heap.objs.size + 1) (defScope st).names []).lookup y.1).isSome = true) := by
    rintro ⟨n, v⟩ hy
    exact (S.par n (List.of_mem_zip hy).1).imp id (fun q => ⟨q, PySem.W.cellsFrom_some _ _ _ (.inl q)⟩)
  refine codeAny_call_function room.depth (inK _ _ lk) rfl S.co S.gen rfl (PySem.W.codeRec_of inK hcd) (bound _ _ _ _ (wpAny_newFunctionEnv_cells S.kind kinds ?_))
  rintro env' rfl s1 x
  obtain ⟨t, ht, hq⟩ := body cdv A outer s H vs Q E (room.deeper _) quiet want
  have I := inv_start (CX := CX0) (E := E) S room.hd env many rel x
  refine ⟨unlimited.keeps x.toInCall.keep, codeAny_func (wpAny_mono (ht.nox.run [] s1 (start N vs) H _ I hq) ?_ (fun _ _ h => h))⟩
  intro fl s' hs
  cases fl with
  | ret u =>
    obtain ⟨v, σ', H', J, rv, q⟩ := hs
    exact ⟨v, H', J.os, J.bare, J.base, J.hok, rv, q⟩
  | next =>
    obtain ⟨σ', H', J, q⟩ := hs
    exact ⟨V.non, H', J.os, J.bare, J.base, J.hok, (rfl : RelV V.non Value.none), q⟩
  | brk => exact hs.elim fun _ h => h.elim fun _ h => h.2.elim
  | cont => exact hs.elim fun _ h => h.elim fun _ h => h.2.elim
end
section
variable {X : Cx} {k : Nat} {f : Addr} {fd : FuncData} {ps ks : List Str} {sp : Sp} {ds : List Value} {x : Str} {p pos : Pos} {e : Expr} {es : List Expr} {kws : List Keyword} {t tk : TA} {g : List Value → List Value → List Value} {gV : List V → List V → List V}
theorem run_fnG {pins : List (Addr × Obj)} {σ : L2.St} {H : Hp} {s : Shared} {Q : VK} {us ws : List Value} {vs zs : List V} (F : FnG X.prog X.w X.K X.mg X.base k f fd ps sp) (hr : Room k X.A) (quiet : X.A.guards = some []) (hb : KBinds X.K fd ps ks g gV)
    (I : Inv X pins σ H s) (r : Vals vs us) (rz : Vals zs ws) (h : sp (gV vs zs) H Q E0) : wpAny (model X.prog X.w) X.A (call (.ref f) us (ks.zip ws)) (EP X pins σ Q) X.xe s := by
  have r2 := hb.rel r rz
  have many : (g us ws).length = ps.length := r2.length.symm.trans (F.len _ _ _ _ h)
  refine wpAny_call (codeAny_mono (F.run X.A X.stack s H _ _ _ Q E0 hr quiet I.env0 (hb.to s us ws I.kIn many) r2 h) ?_)
  rintro (e | fl) s' hq
  · exact False.elim hq
  cases fl with
  | ret u => exact I.after hq
  | next | brk | cont => exact hq.elim
/-- arguments by place alone -/
theorem KBinds.none {K : PySem.W.Frag} {fd : FuncData} {ps : List Str} (b : Binds K fd ps []) : KBinds K fd ps [] (fun us _ => us) (fun vs _ => vs) := by
  refine ⟨fun s us ws X hl => ?_, fun r _ => r⟩
  have := b s us X (by rw [List.append_nil]; exact hl)
  rw [List.append_nil] at this
  exact this
theorem pe_callG (F : FnG X.prog X.w X.K X.mg X.base k f fd ps sp) (hr : Room k X.A) (quiet : X.A.guards = some []) (hg : Gl X x) (hm : X.mg x = some (.ref f)) (hk : PySem.W.keepIn X.K (.ref f) = true) (hb : Binds X.K fd ps [])
    (ha : PA X (e :: es) t) (hdb : (x == ("__debug__" : Str)) = false := by decide) (he : starEach (e :: es) X.env = (false, eval e X.env) :: starEach es X.env := by rfl) (hpl : (backTo pos (starEach es X.env)).any (·.1) = false := by rfl) :
    PE X (.Call (.Name x p) (e :: es) [] pos) (tCall sp [] E0 t) := by
  constructor
  intro pins s σ H Q I h
  refine wpAny_Call_Name_kw (ld_glob I hg hm (PySem.W.callWith_K (h₀ := X.base) I.ok.mod.kin hk (thn (ha.run pos pins s σ H _ I h) ?_) he hpl) hdb)
  rintro us s1 ⟨vs, H1, I1, r, q⟩
  refine ⟨I1.kIn, ?_⟩
  have q' : sp vs H1 Q E0 := by
    have q2 : sp (vs ++ []) H1 Q E0 := q
    rwa [List.append_nil] at q2
  exact run_fnG (ws := []) (zs := []) F hr quiet (KBinds.none hb) I1 r .nil q'
end
/-! ### a law whose promise is kept where nothing is being shown -/
theorem quiet_caller : callerA.guards = some [] := rfl
/-- from an abstract heap in which at most the script is told -/
theorem law_from {P : Program} {w : World} {K : PySem.W.Frag} {mg mb : Str → Option Value} {k : Nat} {fa a : Addr} {fd : FuncData} {x : Str} {sp : Sp} {s₁ : Shared} {vs : List Value} {H : Hp}
    (inK : K.In s₁.heap) (main : s₁.heap.Ns mainGlobals mg) (bui : s₁.heap.Ns builtinsNs mb) (same : ∀ x : Str, x ≠ "__name__" → mb x = bootBuiltins x) (lim : s₁.heap.NoLimit) (gens : s₁.gens = #[])
    (at_a : s₁.heap.get? a = some { cls := .type "list", data := .seq vs.toArray }) (room : Room k callerA)
    (F : ∀ base : Heap, K.In base → base.Ns mainGlobals mg → FnG P w K mg base k fa fd [x] sp) (bound : ∀ (s : Shared) (u : Value), BindsTo s fd ⟨[u], []⟩ [(x, u)])
    (only : Only H) (hok : HOk P w H s₁.heap) (isA : ∀ b, H b ≠ none → b = a) (notK : H a ≠ none → K.lookup a = none) (want : sp [.ref a] H (fun v _ => v = .bl true) fun _ _ _ => False) :
    codeAny (model P w) callerA (.call (.ref fa) ⟨[.ref a], []⟩) (fun r s' => r = .ok (.ret (.bool true)) ∧ OldK s₁.heap s'.heap ∧ s'.os = s₁.os ∧ AllBare s'.gens) s₁ := by
  have free : ∀ b, b ≠ a → H b = none := by
    intro b hb
    cases q : H b with
    | none => rfl
    | some u => exact absurd (isA b (fun z => by rw [z] at q; cases q)) hb
  have shown : ∀ {b : Addr} {o : Obj}, s₁.heap.get? b = some o → H b = none → (hidT s₁.heap H).get? b = some o := fun e n => hidT_get e n
  have names : ∀ {b : Addr} {m : Str → Option Value}, s₁.heap.Ns b m → (hidT s₁.heap H).Ns b m := by
    rintro b m ⟨o, es, ep, e, d, r⟩
    refine ⟨o, es, ep, shown e (free b ?_), d, r⟩
    rintro rfl
    rw [at_a] at e
    cases e
    exact nomatch d
  have inHid : K.In (hidT s₁.heap H) := by
    intro b o e
    refine shown (inK b o e) ?_
    cases q : H b with
    | none => rfl
    | some u =>
      have ne : H b ≠ none := fun z => by rw [z] at q; cases q
      have eb := isA b ne
      subst eb
      rw [notK ne] at e
      cases e
  obtain ⟨mc, l1, l2⟩ := lim
  have env : Env0 P w K mg (hidT s₁.heap H) callerA [] s₁ H := {
    frames := rfl
    mod := ⟨inHid, names main, ⟨mb, names bui, same⟩, ⟨mc, names l1, l2⟩⟩
    bs := fun _ _ e => of_hidT e
    bsz := Nat.le_of_eq (hidT_size _ _)
    funs := trivial
    frf := fun b hb => nomatch (show b ∈ ([] : List Addr) from hb)
    hok := hok
    bare := .of_eq gens }
  refine codeAny_mono ((F _ inHid (names main)).run callerA [] s₁ H ⟨[.ref a], []⟩ [.ref a] [.ref a] _ _ room quiet_caller env (bound s₁ (.ref a)) (.cons rfl .nil) want) ?_
  rintro (e | fl) s' h
  · exact False.elim h
  cases fl with
  | next | brk | cont => exact False.elim h
  | ret u =>
    obtain ⟨v, H', os, bare, un, hok', rel, q⟩ := h
    cases (show v = .bl true from q)
    cases (show u = Value.bool true from rel)
    refine ⟨rfl, .of_keep ?_, os, bare⟩
    intro b o e
    rcases only b with z | ⟨ob, xs, z⟩
    · exact un.keep b o e z (fun m => nomatch (show b ∈ ([] : List Addr) from m)) (fun m => nomatch m)
    · have z2 := un.frzs b ob _ z
      have e1 := (hok b _ z).1
      rw [e] at e1
      cases e1
      exact (hok' b _ z2).1
theorem law_callG {P : Program} {w : World} {K : PySem.W.Frag} {mg mb : Str → Option Value} {k : Nat} {fa a : Addr} {fd : FuncData} {x : Str} {sp : Sp} {s₁ : Shared} {vs : List Value} {ns : List Int}
    (inK : K.In s₁.heap) (main : s₁.heap.Ns mainGlobals mg) (bui : s₁.heap.Ns builtinsNs mb) (same : ∀ x : Str, x ≠ "__name__" → mb x = bootBuiltins x) (lim : s₁.heap.NoLimit) (gens : s₁.gens = #[])
    (at_a : s₁.heap.get? a = some { cls := .type "list", data := .seq vs.toArray }) (hints : IntsAre vs ns) (short : ns.length ≤ sizeLine) (room : Room k callerA)
    (F : ∀ base : Heap, K.In base → base.Ns mainGlobals mg → FnG P w K mg base k fa fd [x] sp) (bound : ∀ (s : Shared) (u : Value), BindsTo s fd ⟨[u], []⟩ [(x, u)])
    (want : ∀ H : Hp, Only H → SqL K H a (ns.map V.int) → sp [.ref a] H (fun v _ => v = .bl true) fun _ _ _ => False) :
    codeAny (model P w) callerA (.call (.ref fa) ⟨[.ref a], []⟩) (fun r s' => r = .ok (.ret (.bool true)) ∧ OldK s₁.heap s'.heap ∧ s'.os = s₁.os ∧ AllBare s'.gens) s₁ := by
  have rel := vals_ints hints
  have many := hints.length
  have go := fun (H : Hp) (o : Only H) hok isA notK w => law_from (mb := mb) inK main bui same lim gens at_a room F bound (H := H) o hok isA notK w
  cases hk : K.lookup a with
  | some o =>
    have e := inK a o hk
    rw [at_a] at e
    cases e
    have nobody : Only (fun _ => none) := fun _ => .inl rfl
    refine go _ nobody (fun b u z => nomatch (show (none : Option HO) = some u from z)) (fun b z => absurd rfl z) (fun z => absurd rfl z) (want _ nobody (.inr ⟨_, vs.toArray, _, hk, rfl, rfl, rfl, ?_, ?_⟩))
    · rw [List.size_toArray, many]
      exact short
    · simpa using rel
  | none =>
    have key : ∃ H : Hp, H = fun b => if b = a then some (.frz { cls := .type "list", data := .seq vs.toArray } (.lst (ns.map V.int))) else none := ⟨_, rfl⟩
    obtain ⟨H, eH⟩ := key
    have there : H a = some (.frz { cls := .type "list", data := .seq vs.toArray } (.lst (ns.map V.int))) := by rw [eH]; exact if_pos rfl
    have else_ : ∀ b, b ≠ a → H b = none := fun b hb => by rw [eH]; exact if_neg hb
    have only : Only H := fun b => by
      by_cases hb : b = a
      · rw [hb]; exact .inr ⟨_, _, there⟩
      · exact .inl (else_ b hb)
    refine go H only (fun b u z => ?_) (fun b z => ?_) (fun _ => hk) (want H only (.inl (.inr ⟨_, there⟩)))
    · by_cases hb : b = a
      · subst hb
        rw [there] at z
        cases z
        exact ⟨at_a, by rw [List.length_map]; exact short, vs, _, rel, at_a⟩
      · rw [else_ b hb] at z
        cases z
    · by_cases hb : b = a
      · exact hb
      · exact absurd (else_ b hb) z
theorem walk_ofG {l : PySem.W.OpenLaw} {n k : Nat} {q : Program} {loose : List Str} {XP : (Str → Option Value) → Heap → Prop} {YP : World → Heap → Prop} {d : DefRec} {K : Params → PySem.W.Frag} {sp : World → Sp} {x : Str}
    (hn : l.most = some n) (hn2 : n ≤ sizeLine) (hdf : d.params.defaults = []) (room : Room k callerA) (hY : ∀ (w : World) (h : Heap), YP w h → (K w.params).In h)
    (F : ∀ (w : World) (mg : Str → Option Value) (fa : Addr) (h : Heap), (K w.params).In h → h.Ns mainGlobals mg → mg d.name = some (.ref fa) →
      ∃ fd : FuncData, (∀ (s : Shared) (u : Value), BindsTo s fd ⟨[u], []⟩ [(x, u)]) ∧ ∀ base : Heap, (K w.params).In base → base.Ns mainGlobals mg → FnG l.prog w (K w.params) mg base k fa fd [x] (sp w))
    (want : ∀ (w : World) (H : Hp) (a : Addr) (ns : List Int), ns.length ≤ n → Only H → SqL (K w.params) H a (ns.map V.int) → sp w [.ref a] H (fun v _ => v = .bl true) fun _ _ _ => False) :
    PySem.W.WalkO q loose XP YP l.row.toRowW d [] (fun f vs => PySem.call f vs) := by
  apply Att.attach_call hn hdf
  intro w s₀ s₁ mg mb fa o pm cd doc a vs ns G Y ho hd hcd hmg hobj hints hlen hg
  have inK := hY w _ Y
  obtain ⟨fd, bound, hF⟩ := F w mg fa _ inK G.T.g hmg
  exact law_callG inK G.T.g G.T.b G.T.builtins G.T.nolimit hg hobj hints (Nat.le_trans hlen hn2) room hF bound (fun H hO hS => want w H a ns hlen hO hS)
/-! ### repr of a list -/
section
variable {X : Cx}
theorem call_repr_data (quiet : X.A.guards = some []) (hu : X.A.units + 70 < cLine) : CallR X (.builtin "repr") (fun xs H Q => ∃ a d, xs = [.ref a] ∧ Dp X.K H (.ref a) d ∧ d.showable = true ∧ d.hasDict = false ∧ d.depth ≤ 60 ∧ d.shown.length ≤ sizeLine ∧ Q (.str d.shown) H) := by
  intro pins s σ H xs us Q I r h
  obtain ⟨a, d, rfl, hd, hs, hnd, hdp, hz, q⟩ := h
  obtain ⟨u, rfl, e⟩ := vals1 r
  cases e
  obtain ⟨as, rd⟩ := Dp.reads I d _ _ hd (rfl : RelV (.ref a) (.ref a))
  exact repr_of_reads' rd hs (PyData.noDict_hsm hnd) quiet (by omega) (fun _ _ e => e) (fun h' u tk hk => ⟨.str _, H, I.kept hk, ⟨_, rfl⟩, q⟩) hz
end
end My
namespace My
open PySem L2 PyProof.Rows
def topS (i : Nat) : Stmt := PySem.Challenge.pw_suretexts_k23_whole_parts.main.body.getD i (.Pass ⟨0, 0, 0, 0⟩)
abbrev s_wall : Stmt := topS 0
theorem sc_wall : FnScope ["k"] ["k"] (defScope s_wall) := ⟨rfl, rfl, rfl, by decide +kernel, rfl, by decide +kernel, by decide +kernel⟩
abbrev sis_integer : Stmt := topS 10
theorem scis_integer : FnScope ["value"] ["value"] (defScope sis_integer) := ⟨rfl, rfl, rfl, by decide +kernel, rfl, by decide +kernel, by decide +kernel⟩
abbrev sis_count : Stmt := topS 11
theorem scis_count : FnScope ["value"] ["value"] (defScope sis_count) := ⟨rfl, rfl, rfl, by decide +kernel, rfl, by decide +kernel, by decide +kernel⟩
abbrev sis_between : Stmt := topS 12
theorem scis_between : FnScope ["value", "least", "most"] ["value", "least", "most"] (defScope sis_between) := ⟨rfl, rfl, rfl, by decide +kernel, rfl, by decide +kernel, by decide +kernel⟩
abbrev sis_below : Stmt := topS 13
theorem scis_below : FnScope ["value", "limit"] ["value", "limit"] (defScope sis_below) := ⟨rfl, rfl, rfl, by decide +kernel, rfl, by decide +kernel, by decide +kernel⟩
abbrev sis_listed : Stmt := topS 14
theorem scis_listed : FnScope ["value"] ["value"] (defScope sis_listed) := ⟨rfl, rfl, rfl, by decide +kernel, rfl, by decide +kernel, by decide +kernel⟩
abbrev sparts_in_turn : Stmt := topS 16
theorem scparts_in_turn : FnScope ["points", "steps", "ahead", "behind", "near", "far", "_", "left", "seen", "point", "parts"] ["points", "steps"] (defScope sparts_in_turn) := ⟨rfl, rfl, rfl, by decide +kernel, rfl, by decide +kernel, by decide +kernel⟩
abbrev s_left_from : Stmt := topS 17
theorem sc_left_from : FnScope ["ends", "point", "seen", "left", "trail", "here", "at", "end"] ["ends", "point", "seen"] (defScope s_left_from) := ⟨rfl, rfl, rfl, by decide +kernel, rfl, by decide +kernel, by decide +kernel⟩
abbrev sare_ties : Stmt := topS 21
theorem scare_ties : FnScope ["places", "value", "tie"] ["places", "value"] (defScope sare_ties) := ⟨rfl, rfl, rfl, by decide +kernel, rfl, by decide +kernel, by decide +kernel⟩
abbrev sneed_web : Stmt := topS 23
theorem scneed_web : FnScope ["web"] ["web"] (defScope sneed_web) := ⟨rfl, rfl, rfl, by decide +kernel, rfl, by decide +kernel, by decide +kernel⟩
abbrev sneed_place : Stmt := topS 24
theorem scneed_place : FnScope ["web", "place"] ["web", "place"] (defScope sneed_place) := ⟨rfl, rfl, rfl, by decide +kernel, rfl, by decide +kernel, by decide +kernel⟩
abbrev sare_numbers : Stmt := topS 25
theorem scare_numbers : FnScope ["web", "value", "tie"] ["web", "value"] (defScope sare_numbers) := ⟨rfl, rfl, rfl, by decide +kernel, rfl, by decide +kernel, by decide +kernel⟩
abbrev sweb_steps : Stmt := topS 26
theorem scweb_steps : FnScope ["web", "tie", "near", "far"] ["web"] (defScope sweb_steps) := ⟨rfl, rfl, rfl, by decide +kernel, rfl, by decide +kernel, by decide +kernel⟩
abbrev sback_web : Stmt := topS 27
theorem scback_web : FnScope ["web", "near", "far"] ["web"] (defScope sback_web) := ⟨rfl, rfl, rfl, by decide +kernel, rfl, by decide +kernel, by decide +kernel⟩
abbrev s_need_without : Stmt := topS 29
theorem sc_need_without : FnScope ["web", "without"] ["web", "without"] (defScope s_need_without) := ⟨rfl, rfl, rfl, by decide +kernel, rfl, by decide +kernel, by decide +kernel⟩
abbrev s_places_to : Stmt := topS 30
theorem sc_places_to : FnScope ["web", "without", "ends", "tie", "near", "far", "_"] ["web", "without"] (defScope s_places_to) := ⟨rfl, rfl, rfl, by decide +kernel, rfl, by decide +kernel, by decide +kernel⟩
abbrev sreach : Stmt := topS 31
theorem screach : FnScope ["web", "place", "without", "ends", "seen", "waiting", "here", "end"] ["web", "place", "without"] (defScope sreach) := ⟨rfl, rfl, rfl, by decide +kernel, rfl, by decide +kernel, by decide +kernel⟩
abbrev splain_parts : Stmt := topS 32
theorem scplain_parts : FnScope ["web", "reached", "parts", "place", "part", "other"] ["web"] (defScope splain_parts) := ⟨rfl, rfl, rfl, by decide +kernel, rfl, by decide +kernel, by decide +kernel⟩
abbrev sparts_of : Stmt := topS 33
theorem scparts_of : FnScope ["web"] ["web"] (defScope sparts_of) := ⟨rfl, rfl, rfl, by decide +kernel, rfl, by decide +kernel, by decide +kernel⟩
abbrev sis_close : Stmt := topS 34
theorem scis_close : FnScope ["web"] ["web"] (defScope sis_close) := ⟨rfl, rfl, rfl, by decide +kernel, rfl, by decide +kernel, by decide +kernel⟩
abbrev sis_single_ring : Stmt := topS 35
theorem scis_single_ring : FnScope ["web"] ["web"] (defScope sis_single_ring) := ⟨rfl, rfl, rfl, by decide +kernel, rfl, by decide +kernel, by decide +kernel⟩
abbrev s_need_part : Stmt := topS 36
theorem sc_need_part : FnScope ["web", "part", "place"] ["web", "part"] (defScope s_need_part) := ⟨rfl, rfl, rfl, by decide +kernel, rfl, by decide +kernel, by decide +kernel⟩
abbrev spart_web : Stmt := topS 37
theorem scpart_web : FnScope ["web", "part", "anew", "at", "place", "ties", "within", "tie", "near", "far"] ["web", "part"] (defScope spart_web) := ⟨rfl, rfl, rfl, by decide +kernel, rfl, by decide +kernel, by decide +kernel⟩
abbrev s_law_pot : Stmt := topS 39
theorem sc_law_pot : FnScope ["_law_script", "_law_k", "_law_cell", "_law_mixed"] ["_law_script", "_law_k"] (defScope s_law_pot) := ⟨rfl, rfl, rfl, by decide +kernel, rfl, by decide +kernel, by decide +kernel⟩
abbrev s_law_draw : Stmt := topS 40
theorem sc_law_draw : FnScope ["_law_pot_here", "_law_many", "_law_drawn"] ["_law_pot_here", "_law_many"] (defScope s_law_draw) := ⟨rfl, rfl, rfl, by decide +kernel, rfl, by decide +kernel, by decide +kernel⟩
abbrev s_law_ties : Stmt := topS 41
theorem sc_law_ties : FnScope ["_law_pot_here", "_law_places", "_law_most", "_law_found", "_law_turn"] ["_law_pot_here", "_law_places", "_law_most"] (defScope s_law_ties) := ⟨rfl, rfl, rfl, by decide +kernel, rfl, by decide +kernel, by decide +kernel⟩
abbrev s_law_ring : Stmt := topS 42
theorem sc_law_ring : FnScope ["_law_first", "_law_many", "_law_found", "_law_at"] ["_law_first", "_law_many"] (defScope s_law_ring) := ⟨rfl, rfl, rfl, by decide +kernel, rfl, by decide +kernel, by decide +kernel⟩
abbrev s_law_made : Stmt := topS 43
theorem sc_law_made : FnScope ["_law_pot_here", "_law_kind", "_law_places", "_law_near", "_law_far", "_law_ties_here"] ["_law_pot_here"] (defScope s_law_made) := ⟨rfl, rfl, rfl, by decide +kernel, rfl, by decide +kernel, by decide +kernel⟩
abbrev s_law_reach : Stmt := topS 44
theorem sc_law_reach : FnScope ["_law_ties_here", "_law_place", "_law_without", "_law_found", "_law_waiting", "_law_near", "_law_number", "_law_tie"] ["_law_ties_here", "_law_place", "_law_without"] (defScope s_law_reach) := ⟨rfl, rfl, rfl, by decide +kernel, rfl, by decide +kernel, by decide +kernel⟩
abbrev s_law_parts : Stmt := topS 45
theorem sc_law_parts : FnScope ["_law_places", "_law_ties_here", "_law_found", "_law_place", "_law_come", "_law_part", "_law_one"] ["_law_places", "_law_ties_here"] (defScope s_law_parts) := ⟨rfl, rfl, rfl, by decide +kernel, rfl, by decide +kernel, by decide +kernel⟩
abbrev s_law_part_right : Stmt := topS 46
theorem sc_law_part_right : FnScope ["_law_places", "_law_ties_here", "_law_web", "_law_part", "_law_numbers", "_law_made_here", "_law_number", "_law_tie", "_law_told", "_law_late", "_law_one"] ["_law_places", "_law_ties_here", "_law_web", "_law_part"] (defScope s_law_part_right) := ⟨rfl, rfl, rfl, by decide +kernel, rfl, by decide +kernel, by decide +kernel⟩
abbrev s_law_right : Stmt := topS 47
theorem sc_law_right : FnScope ["_law_pot_here", "_law_places", "_law_ties_here", "_law_web", "_law_due", "_law_told", "_law_is_one", "_law_part"] ["_law_pot_here"] (defScope s_law_right) := ⟨rfl, rfl, rfl, by decide +kernel, rfl, by decide +kernel, by decide +kernel⟩
abbrev slaw : Stmt := topS 48
theorem sclaw : FnScope ["_law_script"] ["_law_script"] (defScope slaw) := ⟨rfl, rfl, rfl, by decide +kernel, rfl, by decide +kernel, by decide +kernel⟩
abbrev sWeb___init__ : Stmt := inClass (topS 22) 0
theorem scWeb___init__ : FnScope ["self", "places", "ties", "tie", "ends", "_"] ["self", "places", "ties"] (defScope sWeb___init__) := ⟨rfl, rfl, rfl, by decide +kernel, rfl, by decide +kernel, by decide +kernel⟩
abbrev sWeb___eq__ : Stmt := inClass (topS 22) 1
theorem scWeb___eq__ : FnScope ["self", "other"] ["self", "other"] (defScope sWeb___eq__) := ⟨rfl, rfl, rfl, by decide +kernel, rfl, by decide +kernel, by decide +kernel⟩
abbrev sWeb_places : Stmt := inClass (topS 22) 2
theorem scWeb_places : FnScope ["self"] ["self"] (defScope sWeb_places) := ⟨rfl, rfl, rfl, by decide +kernel, rfl, by decide +kernel, by decide +kernel⟩
abbrev sWeb_many : Stmt := inClass (topS 22) 3
theorem scWeb_many : FnScope ["self"] ["self"] (defScope sWeb_many) := ⟨rfl, rfl, rfl, by decide +kernel, rfl, by decide +kernel, by decide +kernel⟩
abbrev sWeb_ties : Stmt := inClass (topS 22) 4
theorem scWeb_ties : FnScope ["self"] ["self"] (defScope sWeb_ties) := ⟨rfl, rfl, rfl, by decide +kernel, rfl, by decide +kernel, by decide +kernel⟩
abbrev sWeb_ties_from : Stmt := inClass (topS 22) 5
theorem scWeb_ties_from : FnScope ["self", "place"] ["self", "place"] (defScope sWeb_ties_from) := ⟨rfl, rfl, rfl, by decide +kernel, rfl, by decide +kernel, by decide +kernel⟩
abbrev sWeb_ties_to : Stmt := inClass (topS 22) 6
theorem scWeb_ties_to : FnScope ["self", "place"] ["self", "place"] (defScope sWeb_ties_to) := ⟨rfl, rfl, rfl, by decide +kernel, rfl, by decide +kernel, by decide +kernel⟩
structure Bs (mg : Str → Option Value) : Prop where
  isinstance : mg "isinstance" = none
  int : mg "int" = none
  bool : mg "bool" = none
  list : mg "list" = none
  tuple : mg "tuple" = none
  len : mg "len" = none
  range : mg "range" = none
  abs : mg "abs" = none
  max : mg "max" = none
  divmod : mg "divmod" = none
  sorted : mg "sorted" = none
  enumerate : mg "enumerate" = none
  all : mg "all" = none
  repr : mg "repr" = none
structure Glo (mg : Str → Option Value) : Prop where
  MOST_PLACES : ∃ t, mg "MOST_PLACES" = some (.int 60 t)
  MOST_TIES : ∃ t, mg "MOST_TIES" = some (.int 80 t)
structure WebK (K : PySem.W.Frag) (mg : Str → Option Value) (C : Addr) : Prop where
  cl : Cls K C
  nP : NoAttr K C "_places"
  nT : NoAttr K C "_ties"
  nF : NoAttr K C "_ties_from"
  nO : NoAttr K C "_ties_to"
  mgC : mg "Web" = some (.ref C)
  i1 : PySem.W.findIn K (.ref C) "__class__" = some (some (.builtin "object.__class__"))
  i2 : PySem.W.specialIn K (.builtin "object.__class__") "__get__" = some (some (.builtin "getset_descriptor.__get__"))
  i3 : PySem.W.takesIn K (.builtin "object.__class__") = some true
  i4 : PySem.W.mroIn K C (.type "object") = some true
  i5 : PySem.W.kitOne K (.ref C) (.ref C) = some true
  ne : PySem.W.findIn K (.ref C) "__ne__" = some (some (.builtin "object.__ne__"))
abbrev iv (L : List Nat) : List V := L.map fun n : Nat => V.int (n : Int)
theorem same_new {H : Hp} {p : Addr} (h : H p = none) (o : HO) : Same H (upd H p o) := fun b u q => by rw [upd_ne (ne_of_none q h)]; exact q
theorem iteNo {c A B : Prop} [Decidable c] (h : ¬ c) (b : B) : if decide c = true then A else B := by
  rw [decide_eq_false h]
  exact iteF b
theorem iteNot {c A B : Prop} [Decidable c] (h : ¬ c) (a : A) : if (!decide c) = true then A else B := by
  rw [decide_eq_false h]
  exact iteT a
theorem iteNot' {c A B : Prop} [Decidable c] (h : c) (b : B) : if (!decide c) = true then A else B := by
  rw [decide_eq_true h]
  exact iteF b
theorem iteNN {c A B : Prop} [Decidable c] (h : ¬ c) (b : B) : if (!!decide c) = true then A else B := by
  rw [decide_eq_false h]
  exact iteF b
theorem iv_at {L : List Nat} {j b : Nat} (h : L[j]? = some b) : atI (iv L) (j : Int) = some (.int (b : Int)) := by
  refine atI_nat ?_
  rw [iv, List.getElem?_map, h]
  rfl
theorem iv_app (L : List Nat) (n : Nat) : iv (L ++ [n]) = iv L ++ [V.int (n : Int)] := by
  unfold iv
  rw [List.map_append]
  rfl
theorem same_upd {H H' : Hp} {p : Addr} {o : HO} (h : Same H H') (np : H p = none) : Same H (upd H' p o) := fun b u q => by
  rw [upd_ne (ne_of_none q np)]
  exact h b u q
theorem iteYes {c A B : Prop} [Decidable c] (h : c) (a : A) : if decide c = true then A else B := by
  rw [decide_eq_true h]
  exact iteT a
theorem bl_true {c : Prop} [Decidable c] {Q : VK} {H : Hp} (h : c) (q : Q (.bl true) H) : Q (.bl (decide c)) H := by
  rw [decide_eq_true h]
  exact q
theorem int_eq {a b : Int} : V.int a = V.int b ↔ a = b := ⟨fun h => V.int.inj h, fun h => by rw [h]⟩
/-! ### lists of ints compared -/
abbrev iz (L : List Int) : List V := L.map V.int
theorem iv_iz (L : List Nat) : iv L = iz (L.map fun n : Nat => (n : Int)) := by
  unfold iv iz
  rw [List.map_map]
  rfl
abbrev dz (L : List Int) : PyData := .list (L.map PyData.int)
theorem dpAll_iz {K : PySem.W.Frag} {H : Hp} : ∀ L : List Int, DpAll K H (iz L) (L.map PyData.int)
  | [] => .nil
  | n :: r => .cons (.int n) (dpAll_iz r)
theorem dp_iz {K : PySem.W.Frag} {H : Hp} {p : Addr} {L : List Int} (h : H p = some (.lst (iz L))) : Dp K H (.ref p) (dz L) := .lst (SqL.of h) (dpAll_iz L)
theorem layAll_iz : ∀ L : List Int, PyData.canLayAll0 (L.map PyData.int) = true
  | [] => rfl
  | n :: r => by
    show (PyData.canLay0 (.int n) && PyData.canLayAll0 (r.map PyData.int)) = true
    rw [layAll_iz r]
    rfl
theorem depthAll_iz : ∀ L : List Int, PyData.depthAll (L.map PyData.int) = 0
  | [] => rfl
  | n :: r => by
    show max (PyData.depth (.int n)) (PyData.depthAll (r.map PyData.int)) = 0
    rw [depthAll_iz r]
    rfl
theorem shaped_iz (L : List Int) : SeqAt.shaped (dz L) = true := by
  unfold SeqAt.shaped
  have h1 : PyData.canLay0 (dz L) = true := by
    show PyData.canLay0 (.list (L.map PyData.int)) = true
    unfold PyData.canLay0
    exact layAll_iz L
  have h2 : PyData.depth (dz L) = 1 := by
    show PyData.depth (.list (L.map PyData.int)) = 1
    unfold PyData.depth
    rw [depthAll_iz]
  rw [h1, h2]
  rfl
theorem eqv_same (L : List Int) : PyData.eqv (dz L) (dz L) = true := by
  have h1 : PyData.canLay0 (dz L) = true := by
    show PyData.canLay0 (.list (L.map PyData.int)) = true
    unfold PyData.canLay0
    exact layAll_iz L
  exact SeqAt.eqv_refl _ h1
theorem eqv_empty (L : List Int) : PyData.eqv (dz L) (dz []) = decide (L = []) := by
  cases L with
  | nil => rfl
  | cons n r => rfl
theorem iteNb {x : Bool} {A B : Prop} (h : x = true) (b : B) : if (!x) = true then A else B := by
  rw [h]
  exact iteF b
theorem bl_is {x : Bool} {Q : VK} {H : Hp} (h : x = true) (q : Q (.bl true) H) : Q (.bl x) H := by
  rw [h]
  exact q
/-! ### webs in the heap -/
def Kept (a : Addr) (H H' : Hp) : Prop := ∀ b o, H b = some o → b ≠ a → H' b = some o
theorem Kept.trans {a : Addr} {H H1 H2 : Hp} (h : Kept a H H1) (h2 : Kept a H1 H2) : Kept a H H2 := fun b o e n => h2 b o (h b o e n) n
theorem Same.kept {a : Addr} {H H' : Hp} (h : Same H H') : Kept a H H' := fun b o e _ => h b o e
theorem paired_get {α β : Type} {F : α → β → Prop} : ∀ {l1 : List α} {l2 : List β} {i : Nat} {a : α}, Paired F l1 l2 → l1[i]? = some a → ∃ b, l2[i]? = some b ∧ F a b
  | _, _, _, _, .nil, h => by simp at h
  | _, _, 0, _, .cons r _, h => ⟨_, rfl, by cases h; exact r⟩
  | _, _, i + 1, _, .cons _ t, h => by
    obtain ⟨b, h1, h2⟩ := paired_get (i := i) t (by simpa using h)
    exact ⟨b, by simpa using h1, h2⟩
theorem paired_mono {α β : Type} {F G : α → β → Prop} (h : ∀ a b, F a b → G a b) : ∀ {l1 : List α} {l2 : List β}, Paired F l1 l2 → Paired G l1 l2
  | _, _, .nil => .nil
  | _, _, .cons a r => .cons (h _ _ a) (paired_mono h r)
theorem paired_len {α β : Type} {F : α → β → Prop} : ∀ {l1 : List α} {l2 : List β}, Paired F l1 l2 → l1.length = l2.length
  | _, _, .nil => rfl
  | _, _, .cons _ r => congrArg Nat.succ (paired_len r)
def TupAt (H : Hp) (p : Addr) (e : Nat × Nat) : Prop := H p = some (.tup [.int (e.1 : Int), .int (e.2 : Int)])
def TiesAt (H : Hp) (t : Addr) (ts : List (Nat × Nat)) : Prop := ∃ tas : List Addr, H t = some (.lst (tas.map V.ref)) ∧ Paired (TupAt H) tas ts
theorem TiesAt.same {H H' : Hp} {t : Addr} {ts : List (Nat × Nat)} (h : TiesAt H t ts) (s : Same H H') : TiesAt H' t ts := by
  obtain ⟨tas, h1, h2⟩ := h
  exact ⟨tas, s _ _ h1, paired_mono (fun p e hp => s _ _ hp) h2⟩
structure OkWeb (N : Nat) (ts : List (Nat × Nat)) : Prop where
  n0 : 0 < N
  n1 : N ≤ 60
  m : ts.length ≤ 80
  ok : ∀ e ∈ ts, e.1 < N ∧ e.2 < N
section
variable {P : Program} {w : World} {K : PySem.W.Frag} {mg : Str → Option Value} {base : Heap} {C : Addr}
def spis_integer (_ : PySem.W.Frag) (_ : Addr) : Sp := fun vs H Q _ => ∃ n : Int, vs = [.int n] ∧ Q (.bl true) H
theorem okis_integer (D : Def K mg "is_integer" sis_integer ["value"]) (B : Bs mg) (Glb : Glo mg) (WK : WebK K mg C) :
    Good P w K mg base "is_integer" sis_integer ["value"] 1 (spis_integer K C) := by
  refine D.good fun f fd F => ?_
  refine F.ok scis_integer (fun vs H Q E h => ?_) (fun cdv A outer s H vs Q E hr h => ?_)
  · obtain ⟨n, rfl, q⟩ := h
    first | rfl | (rcases h with ⟨_, _, rfl, _⟩ | ⟨_, rfl, _⟩ <;> rfl)
  obtain ⟨n, rfl, q⟩ := h
  refine ⟨_, (pss_one (ps_ret (pe_and (pe_callB call_isi (by rfl) B.isinstance (by decide +kernel) (pa_cons (pv 0) (pa_cons (pe_bltn (v := .ty "int") (by rfl) B.int (by decide +kernel) rfl) pa_nil))) (pe_one (pe_not (pe_callB call_isi (by rfl) B.isinstance (by decide +kernel) (pa_cons (pv 0) (pa_cons (pe_bltn (v := .ty "bool") (by rfl) B.bool (by decide +kernel) rfl) pa_nil)))))))), ?_⟩
  exact ⟨_, rfl, _, _, _, _, true, rfl, .ty _, .base (.int n), kit_ty (by decide +kernel), _, rfl, iteT ⟨_, rfl, _, _, _, _, false, rfl, .ty _, .base (.int n), kit_ty (by decide +kernel), _, rfl, q⟩⟩
def spis_count (_ : PySem.W.Frag) (_ : Addr) : Sp := fun vs H Q _ => ∃ n : Nat, vs = [.int (n : Int)] ∧ Q (.bl true) H
theorem okis_count (D : Def K mg "is_count" sis_count ["value"]) (B : Bs mg) (Glb : Glo mg) (WK : WebK K mg C)
    (his_integer : Good P w K mg base "is_integer" sis_integer ["value"] 1 (spis_integer K C)) :
    Good P w K mg base "is_count" sis_count ["value"] 2 (spis_count K C) := by
  refine D.good fun f fd F => ?_
  obtain ⟨fis_integer, dis_integer, Ois_integer, mis_integer, kis_integer, bis_integer, Fis_integer⟩ := his_integer
  refine F.ok scis_count (fun vs H Q E h => ?_) (fun cdv A outer s H vs Q E hr h => ?_)
  · obtain ⟨n, rfl, q⟩ := h
    first | rfl | (rcases h with ⟨_, _, rfl, _⟩ | ⟨_, rfl, _⟩ <;> rfl)
  obtain ⟨n, rfl, q⟩ := h
  refine ⟨_, (pss_one (ps_ret (pe_and (pe_call Ois_integer hr rfl mis_integer kis_integer bis_integer .nil pass0 (pa_cons (pv 0) pa_nil)) (pe_one (pe_cmpR op_ge (pv 0) pe_int (nomark _)))))), ?_⟩
  exact ⟨_, rfl, n, rfl, _, rfl, iteT ⟨_, rfl, _, _, rfl, rfl, bl_true (by omega) q⟩⟩
def spis_between (_ : PySem.W.Frag) (_ : Addr) : Sp := fun vs H Q _ => ∃ n a b : Int, vs = [.int n, .int a, .int b] ∧ a ≤ n ∧ n ≤ b ∧ Q (.bl true) H
theorem okis_between (D : Def K mg "is_between" sis_between ["value", "least", "most"]) (B : Bs mg) (Glb : Glo mg) (WK : WebK K mg C)
    (his_integer : Good P w K mg base "is_integer" sis_integer ["value"] 1 (spis_integer K C)) :
    Good P w K mg base "is_between" sis_between ["value", "least", "most"] 2 (spis_between K C) := by
  refine D.good fun f fd F => ?_
  obtain ⟨fis_integer, dis_integer, Ois_integer, mis_integer, kis_integer, bis_integer, Fis_integer⟩ := his_integer
  refine F.ok scis_between (fun vs H Q E h => ?_) (fun cdv A outer s H vs Q E hr h => ?_)
  · obtain ⟨n, a, b, rfl, h1, h2, q⟩ := h
    first | rfl | (rcases h with ⟨_, _, rfl, _⟩ | ⟨_, rfl, _⟩ <;> rfl)
  obtain ⟨n, a, b, rfl, h1, h2, q⟩ := h
  refine ⟨_, (pss_one (ps_ret (pe_and (pe_call Ois_integer hr rfl mis_integer kis_integer bis_integer .nil pass0 (pa_cons (pv 0) pa_nil)) (pe_one (pe_chain op_le op_le (pv 1) (pv 0) (pv 2)))))), ?_⟩
  exact ⟨_, rfl, n, rfl, _, rfl, iteT ⟨_, rfl, _, rfl, _, _, rfl, rfl, _, rfl, iteYes h1 ⟨_, rfl, _, _, rfl, rfl, bl_true h2 q⟩⟩⟩
def spis_below (_ : PySem.W.Frag) (_ : Addr) : Sp := fun vs H Q _ => ∃ n : Nat, ∃ m : Int, vs = [.int (n : Int), .int m] ∧ (n : Int) < m ∧ Q (.bl true) H
theorem okis_below (D : Def K mg "is_below" sis_below ["value", "limit"]) (B : Bs mg) (Glb : Glo mg) (WK : WebK K mg C)
    (his_count : Good P w K mg base "is_count" sis_count ["value"] 2 (spis_count K C)) :
    Good P w K mg base "is_below" sis_below ["value", "limit"] 3 (spis_below K C) := by
  refine D.good fun f fd F => ?_
  obtain ⟨fis_count, dis_count, Ois_count, mis_count, kis_count, bis_count, Fis_count⟩ := his_count
  refine F.ok scis_below (fun vs H Q E h => ?_) (fun cdv A outer s H vs Q E hr h => ?_)
  · obtain ⟨n, m, rfl, h1, q⟩ := h
    first | rfl | (rcases h with ⟨_, _, rfl, _⟩ | ⟨_, rfl, _⟩ <;> rfl)
  obtain ⟨n, m, rfl, h1, q⟩ := h
  refine ⟨_, (pss_one (ps_ret (pe_and (pe_call Ois_count hr rfl mis_count kis_count bis_count .nil pass0 (pa_cons (pv 0) pa_nil)) (pe_one (pe_cmpR op_lt (pv 0) (pv 1) (nomark _)))))), ?_⟩
  exact ⟨_, rfl, n, rfl, _, rfl, iteT ⟨_, rfl, _, rfl, _, _, rfl, rfl, bl_true h1 q⟩⟩
def spis_listed (_ : PySem.W.Frag) (_ : Addr) : Sp := fun vs H Q _ => ∃ a, vs = [.ref a] ∧ ((∃ xs, H a = some (.lst xs)) ∨ (∃ xs, H a = some (.tup xs))) ∧ ∀ H', Same H H' → Q (.bl true) H'
theorem okis_listed (D : Def K mg "is_listed" sis_listed ["value"]) (B : Bs mg) (Glb : Glo mg) (WK : WebK K mg C) :
    Good P w K mg base "is_listed" sis_listed ["value"] 1 (spis_listed K C) := by
  refine D.good fun f fd F => ?_
  refine F.ok scis_listed (fun vs H Q E h => ?_) (fun cdv A outer s H vs Q E hr h => ?_)
  · obtain ⟨a, rfl, ha, q⟩ := h
    first | rfl | (rcases h with ⟨_, _, rfl, _⟩ | ⟨_, rfl, _⟩ <;> rfl)
  obtain ⟨a, rfl, ha, q⟩ := h
  refine ⟨_, (pss_one (ps_ret (pe_callB call_isiT (by rfl) B.isinstance (by decide +kernel) (pa_cons (pv 0) (pa_cons (pe_tup (pa_cons (pe_bltn (v := .ty "list") (by rfl) B.list (by decide +kernel) rfl) (pa_cons (pe_bltn (v := .ty "tuple") (by rfl) B.tuple (by decide +kernel) rfl) pa_nil))) pa_nil))))), ?_⟩
  refine ⟨_, rfl, (by show 2 ≤ sizeLine; decide), fun tp ntp => ?_⟩
  rcases ha with ⟨xs, ha⟩ | ⟨xs, ha⟩
  · exact ⟨_, tp, [.ty "list", .ty "tuple"], .type "list", [.type "list", .type "tuple"], true, rfl, upd_same, .cons (.ty _) (.cons (.ty _) .nil), .base (.lst (same_new ntp _ _ _ ha)), kitAny_cons (b := true) (kit_ty (by decide +kernel)) (fun h => by cases h) (fun _ => rfl), q _ (same_new ntp _)⟩
  · exact ⟨_, tp, [.ty "list", .ty "tuple"], .type "tuple", [.type "list", .type "tuple"], true, rfl, upd_same, .cons (.ty _) (.cons (.ty _) .nil), .base (.tup (same_new ntp _ _ _ ha)), kitAny_cons (b := false) (kit_ty (by decide +kernel)) (fun _ => kitAny_cons (b := true) (kit_ty (by decide +kernel)) (fun h => by cases h) (fun _ => rfl)) (fun h => by cases h), q _ (same_new ntp _)⟩
def spare_ties (_ : PySem.W.Frag) (_ : Addr) : Sp := fun vs H Q _ => ∃ N : Nat, ∃ t ts, vs = [.int (N : Int), .ref t] ∧ OkWeb N ts ∧ TiesAt H t ts ∧ ∀ H', Same H H' → Q (.bl true) H'
theorem okare_ties (D : Def K mg "are_ties" sare_ties ["places", "value"]) (B : Bs mg) (Glb : Glo mg) (WK : WebK K mg C)
    (his_listed : Good P w K mg base "is_listed" sis_listed ["value"] 1 (spis_listed K C))
    (his_below : Good P w K mg base "is_below" sis_below ["value", "limit"] 3 (spis_below K C)) :
    Good P w K mg base "are_ties" sare_ties ["places", "value"] 4 (spare_ties K C) := by
  refine D.good fun f fd F => ?_
  obtain ⟨fis_listed, dis_listed, Ois_listed, mis_listed, kis_listed, bis_listed, Fis_listed⟩ := his_listed
  obtain ⟨fis_below, dis_below, Ois_below, mis_below, kis_below, bis_below, Fis_below⟩ := his_below
  refine F.ok scare_ties (fun vs H Q E h => ?_) (fun cdv A outer s H vs Q E hr h => ?_)
  · obtain ⟨N, t, ts, rfl, ho, ⟨tas, ht, hP⟩, q⟩ := h
    first | rfl | (rcases h with ⟨_, _, rfl, _⟩ | ⟨_, rfl, _⟩ <;> rfl)
  obtain ⟨N, t, ts, rfl, ho, ⟨tas, ht, hP⟩, q⟩ := h
  refine ⟨_, (pss_cons (ps_if (PW.pt (pw_or (pt_not (pt_val (pe_call Ois_listed (hr.mono (by decide)) rfl mis_listed kis_listed bis_listed .nil pass0 (pa_cons (pv 1) pa_nil)))) (pw_or1 (pt_cmpR op_gt (pe_callB call_len_seq (by rfl) B.len (by decide +kernel) (pa_cons (pv 1) pa_nil)) (pe_globI Glb.MOST_TIES) (nomark _)))))
    (pss_one (ps_ret pe_bl)) pss_nil)
  (pss_cons (ps_for PassesOwn.never rfl (pi_list (pv 1)) (pg_name (i := 2) scare_ties.nd rfl (by first | exact Or.inl rfl | exact Or.inr rfl))
    (pss_cons (ps_if (PW.pt (pw_or (pt_not (pt_val (pe_callB call_isi (by rfl) B.isinstance (by decide +kernel) (pa_cons (pv 2) (pa_cons (pe_bltn (v := .ty "tuple") (by rfl) B.tuple (by decide +kernel) rfl) pa_nil))))) (pw_or1 (pt_cmpR op_ne (pe_callB call_len_seq (by rfl) B.len (by decide +kernel) (pa_cons (pv 2) pa_nil)) pe_int (nomark _)))))
    (pss_one (ps_ret pe_bl)) pss_nil)
  (pss_one (ps_if (PW.pt (pw_or (pt_not (pt_val (pe_call Ois_below hr rfl mis_below kis_below bis_below .nil pass0 (pa_cons (pe_ix ix_tup (pv 2) pe_int (fun _ _ => rfl)) (pa_cons (pv 0) pa_nil))))) (pw_or1 (pt_not (pt_val (pe_call Ois_below hr rfl mis_below kis_below bis_below .nil pass0 (pa_cons (pe_ix ix_tup (pv 2) pe_int (fun _ _ => rfl)) (pa_cons (pv 0) pa_nil))))))))
    (pss_one (ps_ret pe_bl)) pss_nil))))
  (pss_one (ps_ret pe_bl)))), ?_⟩
  have hlen := paired_len hP
  have hm := ho.m
  refine ⟨_, rfl, t, rfl, .inl ⟨_, ht⟩, fun H1 hS1 => ⟨_, rfl, iteF ⟨_, rfl, _, _, rfl, .inl (SqL.of (hS1 _ _ ht)), _, _, rfl, rfl, _, rfl, iteNo (by rw [List.length_map]; omega) ?_⟩⟩⟩
  refine ⟨_, rfl, t, rfl, ⟨_, SqL.of (hS1 _ _ ht)⟩, for_list (K := K) (a := t) (xs := tas.map V.ref) (fun i σ H' => Same H H' ∧ ∃ v, σ = [some (.int (N : Int)), some (.ref t), v]) ⟨hS1, none, rfl⟩ (fun i σ H' _ ⟨hS', _⟩ => SqL.of (hS' _ _ ht)) ?_ ?_⟩
  · rintro i x σ H2 hx ⟨hS2, v, rfl⟩
    rw [List.getElem?_map] at hx
    obtain ⟨p, hp, rfl⟩ : ∃ p, tas[i]? = some p ∧ x = V.ref p := by
      cases e : tas[i]? with
      | none => rw [e] at hx; cases hx
      | some p => rw [e] at hx; exact ⟨p, rfl, (Option.some.inj hx).symm⟩
    obtain ⟨⟨u, v⟩, he, hpe⟩ := paired_get hP hp
    have hp2 : H2 p = some (.tup [.int (u : Int), .int (v : Int)]) := hS2 _ _ hpe
    obtain ⟨hu, hv⟩ := ho.ok _ (List.mem_of_getElem? he)
    refine ⟨_, rfl, _, _, _, _, true, rfl, .ty _, .base (.tup hp2), kit_ty (by decide +kernel), _, rfl, iteF ⟨_, rfl, _, _, rfl, .inr (SqT.of hp2), rfl, _, rfl, iteNS rfl ?_⟩⟩
    refine ⟨_, rfl, _, _, _, .int (u : Int), rfl, rfl, SqT.of hp2, rfl, _, rfl, u, N, rfl, by omega, _, rfl, iteF ⟨_, rfl, _, _, _, .int (v : Int), rfl, rfl, SqT.of hp2, rfl, _, rfl, v, N, rfl, by omega, _, rfl, iteF ?_⟩⟩
    exact ⟨hS2, _, rfl⟩
  · rintro σ H2 ⟨hS2, v, rfl⟩
    exact q H2 hS2
end
end My
namespace My
open PySem L2 PyProof.Rows
/-! ### numbers of ties from a place -/
def frmN (ts : List (Nat × Nat)) (p : Nat) : Nat → List Nat
  | 0 => []
  | i + 1 => if (ts[i]?.map Prod.fst) = some p then frmN ts p i ++ [i] else frmN ts p i
abbrev frm (ts : List (Nat × Nat)) (p : Nat) : List Nat := frmN ts p ts.length
theorem frmN_len (ts : List (Nat × Nat)) (p : Nat) : ∀ i, (frmN ts p i).length ≤ i
  | 0 => by simp [frmN]
  | i + 1 => by
    have := frmN_len ts p i
    unfold frmN
    split
    · simp; omega
    · omega
theorem frmN_mem (ts : List (Nat × Nat)) (p x : Nat) : ∀ i, x ∈ frmN ts p i ↔ x < i ∧ ts[x]?.map Prod.fst = some p
  | 0 => by simp [frmN]
  | i + 1 => by
    have ih := frmN_mem ts p x i
    unfold frmN
    split
    · rename_i c
      rw [List.mem_append, ih, List.mem_singleton]
      constructor
      · rintro (⟨h1, h2⟩ | rfl)
        · exact ⟨by omega, h2⟩
        · exact ⟨by omega, c⟩
      · rintro ⟨h1, h2⟩
        by_cases z : x = i
        · exact .inr z
        · exact .inl ⟨by omega, h2⟩
    · rename_i c
      rw [ih]
      constructor
      · rintro ⟨h1, h2⟩
        exact ⟨by omega, h2⟩
      · rintro ⟨h1, h2⟩
        refine ⟨?_, h2⟩
        by_cases z : x = i
        · subst z; exact absurd h2 c
        · omega
theorem nodup_get {α : Type} {L : List α} {j k : Nat} {x : α} (hn : L.Nodup) (h1 : L[j]? = some x) (h2 : L[k]? = some x) : j = k :=
  (List.getElem?_inj (List.getElem?_eq_some_iff.mp h1).1 hn).mp (h1.trans h2.symm)
/-! ### new empty lists -/
def Fresh (H1 : Hp) (D : Addr) (n : Nat) (H' : Hp) : Prop := ∃ fas : List Addr, fas.length = n ∧ fas.Nodup ∧ (∀ x ∈ fas, H1 x = none ∧ x ≠ D) ∧ Same H1 H' ∧ H' D = some (.lst (fas.map V.ref)) ∧ ∀ x ∈ fas, H' x = some (.lst [])
theorem Fresh.zero {H1 : Hp} {D : Addr} (h : H1 D = none) : Fresh H1 D 0 (upd H1 D (.lst [])) :=
  ⟨[], rfl, by simp, fun x h => by simp at h, same_new h _, upd_same, fun x h => by simp at h⟩
theorem Fresh.step {H1 H2 : Hp} {D p : Addr} {n : Nat} (h : Fresh H1 D n H2) (nD : H1 D = none) (hn : n < 1000) (np : H2 p = none) :
    ∃ acc, upd H2 p (.lst []) D = some (.lst acc) ∧ acc.length < sizeLine ∧ Fresh H1 D (n + 1) (upd (upd H2 p (.lst [])) D (.lst (acc ++ [.ref p]))) := by
  obtain ⟨fas, h1, h2, h3, h4, h5, h6⟩ := h
  have hpD : D ≠ p := ne_of_none h5 np
  refine ⟨fas.map V.ref, by rw [upd_ne hpD]; exact h5, by rw [List.length_map, h1]; exact Nat.lt_trans hn (by decide), fas ++ [p], by simp [h1], ?_, ?_, ?_, by rw [upd_same, List.map_append]; rfl, ?_⟩
  · rw [List.nodup_append]
    refine ⟨h2, by simp, fun x hx y hy => ?_⟩
    rw [List.mem_singleton.mp hy]
    rintro rfl
    rw [h6 _ hx] at np
    cases np
  · intro x hx
    rcases List.mem_append.mp hx with z | z
    · exact h3 x z
    · rw [List.mem_singleton.mp z]
      exact ⟨h4.free np, hpD.symm⟩
  · intro b o e
    rw [upd_ne (ne_of_none e nD), upd_ne (ne_of_none (h4 _ _ e) np)]
    exact h4 _ _ e
  · intro x hx
    rcases List.mem_append.mp hx with z | z
    · rw [upd_ne (h3 x z).2, upd_ne (ne_of_none (h6 x z) np)]
      exact h6 x z
    · rw [List.mem_singleton.mp z, upd_ne hpD.symm, upd_same]
/-- rows: heaps that keep what H held, but for these lists -/
def KeptR (R : List Addr) (H H' : Hp) : Prop := ∀ b o, H b = some o → b ∉ R → H' b = some o
theorem KeptR.refl (R : List Addr) (H : Hp) : KeptR R H H := fun _ _ h _ => h
theorem KeptR.new {R : List Addr} {H H' : Hp} {p : Addr} {o : HO} (h : KeptR R H H') (np : H' p = none) : KeptR R H (upd H' p o) := fun b u e n => by
  have := h b u e n
  rw [upd_ne (ne_of_none this np)]
  exact this
theorem KeptR.put {R : List Addr} {H H' : Hp} {p : Addr} {o : HO} (h : KeptR R H H') (hp : p ∈ R) : KeptR R H (upd H' p o) := fun b u e n => by
  rw [upd_ne (fun z => n (by rw [z]; exact hp))]
  exact h b u e n
/-! ### webs -/
def wf (N : Nat) (tl fl ol : Addr) : List (Str × V) := putF "_ties_to" (.ref ol) (putF "_ties_from" (.ref fl) (putF "_ties" (.ref tl) (putF "_places" (.int (N : Int)) [])))
theorem wf_P (N : Nat) (tl fl ol : Addr) : (wf N tl fl ol).lookup ("_places" : Str) = some (.int (N : Int)) := by
  unfold wf
  rw [lookup_putF, if_neg (by decide +kernel), lookup_putF, if_neg (by decide +kernel), lookup_putF, if_neg (by decide +kernel), lookup_putF, if_pos rfl]
theorem wf_T (N : Nat) (tl fl ol : Addr) : (wf N tl fl ol).lookup ("_ties" : Str) = some (.ref tl) := by
  unfold wf
  rw [lookup_putF, if_neg (by decide +kernel), lookup_putF, if_neg (by decide +kernel), lookup_putF, if_pos rfl]
theorem wf_F (N : Nat) (tl fl ol : Addr) : (wf N tl fl ol).lookup ("_ties_from" : Str) = some (.ref fl) := by
  unfold wf
  rw [lookup_putF, if_neg (by decide +kernel), lookup_putF, if_pos rfl]
theorem wf_O (N : Nat) (tl fl ol : Addr) : (wf N tl fl ol).lookup ("_ties_to" : Str) = some (.ref ol) := by
  unfold wf
  rw [lookup_putF, if_pos rfl]
theorem wf_no (N : Nat) (tl fl ol : Addr) {m : Str} (h1 : ¬ m = "_ties_to") (h2 : ¬ m = "_ties_from") (h3 : ¬ m = "_ties") (h4 : ¬ m = "_places") : (wf N tl fl ol).lookup m = none := by
  unfold wf
  rw [lookup_putF, if_neg h1, lookup_putF, if_neg h2, lookup_putF, if_neg h3, lookup_putF, if_neg h4]
  all_goals rfl
theorem putF_len (f : Str) (v : V) : ∀ l : List (Str × V), (putF f v l).length ≤ l.length + 1
  | [] => by simp [putF]
  | (g, x) :: r => by
    have := putF_len f v r
    unfold putF
    split
    · simp
    · simp; omega
def RowsAt (H : Hp) (p : Addr) (N : Nat) (f : Nat → List Nat) : Prop := ∃ fas : List Addr, H p = some (.lst (fas.map V.ref)) ∧ fas.length = N ∧ ∀ j x, fas[j]? = some x → H x = some (.lst (iv (f j)))
theorem RowsAt.same {H H' : Hp} {p : Addr} {N : Nat} {f : Nat → List Nat} (h : RowsAt H p N f) (s : Same H H') : RowsAt H' p N f := by
  obtain ⟨fas, h1, h2, h3⟩ := h
  exact ⟨fas, s _ _ h1, h2, fun j x e => s _ _ (h3 j x e)⟩
theorem RowsAt.get {H : Hp} {p : Addr} {N : Nat} {f : Nat → List Nat} (h : RowsAt H p N f) {j : Nat} (hj : j < N) : ∃ x xs, H p = some (.lst xs) ∧ atI xs (j : Int) = some (.ref x) ∧ H x = some (.lst (iv (f j))) := by
  obtain ⟨fas, h1, h2, h3⟩ := h
  have e : fas[j]? = some (fas[j]'(by omega)) := List.getElem?_eq_getElem _
  refine ⟨_, _, h1, atI_nat ?_, h3 j _ e⟩
  rw [List.getElem?_map, e]
  rfl
def WebAt (C a : Addr) (N : Nat) (ts : List (Nat × Nat)) (H : Hp) : Prop := ∃ dx tl fl ol, H a = some (.ins C dx (wf N tl fl ol)) ∧ TiesAt H tl ts ∧ RowsAt H fl N (frm ts)
theorem WebAt.same {C a : Addr} {N : Nat} {ts : List (Nat × Nat)} {H H' : Hp} (h : WebAt C a N ts H) (s : Same H H') : WebAt C a N ts H' := by
  obtain ⟨dx, tl, fl, ol, h1, h2, h3⟩ := h
  exact ⟨dx, tl, fl, ol, s _ _ h1, h2.same s, h3.same s⟩
/-- what is new in H' or a tuple, and what stands at a -/
noncomputable def Sub (H H' : Hp) (a : Addr) : Hp := fun b => by
  classical
  exact if H b = none ∨ b = a ∨ ∃ xs, H' b = some (.tup xs) then H' b else none
theorem Sub.of {H H' : Hp} {a b : Addr} {o : HO} (h : H' b = some o) (k : H b = none ∨ b = a ∨ ∃ xs, H' b = some (.tup xs)) : Sub H H' a b = some o := by
  unfold Sub
  rw [if_pos k]
  exact h
theorem Sub.same {H H' : Hp} {a : Addr} : Same (Sub H H' a) H' := fun b o e => by
  unfold Sub at e
  split at e
  · exact e
  · cases e
theorem Sub.none {H H' : Hp} {a b : Addr} {xs : List V} (h : H b = some (.lst xs)) (n : b ≠ a) (k : H' b = some (.lst xs)) : Sub H H' a b = Option.none := by
  unfold Sub
  rw [if_neg]
  rintro (z | z | ⟨ys, z⟩)
  · rw [h] at z; cases z
  · exact n z
  · rw [k] at z; cases z
section
variable {P : Program} {w : World} {K : PySem.W.Frag} {mg : Str → Option Value} {base : Heap} {C : Addr}
def spWeb___init__ (_ : PySem.W.Frag) (C : Addr) : Sp := fun vs H Q _ => ∃ a dx N t ts, vs = [.ref a, .int ((N : Nat) : Int), .ref t] ∧ OkWeb N ts ∧ TiesAt H t ts ∧ H a = some (.ins C dx []) ∧ ∀ H', Kept a H H' → WebAt C a N ts (Sub H H' a) → Q .non H'
theorem okWeb___init__ (D : DefI K C "__init__" "Web.__init__" sWeb___init__ ["self", "places", "ties"]) (B : Bs mg) (Glb : Glo mg) (WK : WebK K mg C)
    (his_between : Good P w K mg base "is_between" sis_between ["value", "least", "most"] 2 (spis_between K C))
    (hare_ties : Good P w K mg base "are_ties" sare_ties ["places", "value"] 4 (spare_ties K C)) :
    GoodI P w K mg base C "__init__" "Web.__init__" sWeb___init__ ["self", "places", "ties"] 5 (spWeb___init__ K C) := by
  refine D.good fun f fd F => ?_
  obtain ⟨fis_between, dis_between, Ois_between, mis_between, kis_between, bis_between, Fis_between⟩ := his_between
  obtain ⟨fare_ties, dare_ties, Oare_ties, mare_ties, kare_ties, bare_ties, Fare_ties⟩ := hare_ties
  refine F.ok scWeb___init__ (fun vs H Q E h => ?_) (fun cdv A outer s H vs Q E hr h => ?_)
  · obtain ⟨a, dx, N, t, ts, rfl, ho, ht, ha, q⟩ := h
    first | rfl | (rcases h with ⟨_, _, rfl, _⟩ | ⟨_, rfl, _⟩ <;> rfl)
  obtain ⟨a, dx, N, t, ts, rfl, ho, ht, ha, q⟩ := h
  refine ⟨_, (pss_cons (ps_if (pt_not (pt_val (pe_call Ois_between (hr.mono (by decide)) rfl mis_between kis_between bis_between .nil pass0 (pa_cons (pv 1) (pa_cons pe_int (pa_cons (pe_globI Glb.MOST_PLACES) pa_nil))))))
    (pss_one ps_never) pss_nil)
  (pss_cons (ps_if (pt_not (pt_val (pe_call Oare_ties hr rfl mare_ties kare_ties bare_ties .nil pass0 (pa_cons (pv 1) (pa_cons (pv 2) pa_nil)))))
    (pss_one ps_never) pss_nil)
  (pss_cons (ps_fld (pv 0) (pv 1) rfl)
  (pss_cons (ps_fld (pv 0) (pe_callTy call_list_of (by rfl) B.list (by decide +kernel) (pa_cons (pv 2) pa_nil)) rfl)
  (pss_cons (ps_fld (pv 0) (pe_lc (own := [("_", 5)]) (g := gName 5) (by rfl) scWeb___init__.nd (pi_range1 (by rfl) B.range (pa_cons (pv 1) pa_nil)) (blkOk_by (own := [("_", 5)]) (N := ["self", "places", "ties", "tie", "ends", "_"]) (sc := defScope sWeb___init__) (by decide +kernel)) (fun _ _ _ _ _ => (pg_name (i := 5) scWeb___init__.nd rfl (by first | exact Or.inl rfl | exact Or.inr rfl))) (fun _ _ _ _ _ => pts_nil) (fun _ _ _ _ _ => (pe_lst pa_nil))) rfl)
  (pss_cons (ps_fld (pv 0) (pe_lc (own := [("_", 5)]) (g := gName 5) (by rfl) scWeb___init__.nd (pi_range1 (by rfl) B.range (pa_cons (pv 1) pa_nil)) (blkOk_by (own := [("_", 5)]) (N := ["self", "places", "ties", "tie", "ends", "_"]) (sc := defScope sWeb___init__) (by decide +kernel)) (fun _ _ _ _ _ => (pg_name (i := 5) scWeb___init__.nd rfl (by first | exact Or.inl rfl | exact Or.inr rfl))) (fun _ _ _ _ _ => pts_nil) (fun _ _ _ _ _ => (pe_lst pa_nil))) rfl)
  (pss_one (ps_for PassesOwn.never rfl (pi_enum (by rfl) B.enumerate (pa_cons (pe_fld (pv 0) rfl) pa_nil)) (pg_tup rfl (pgs_cons (pg_name (i := 3) scWeb___init__.nd rfl (by first | exact Or.inl rfl | exact Or.inr rfl)) (pgs_cons (pg_name (i := 4) scWeb___init__.nd rfl (by first | exact Or.inl rfl | exact Or.inr rfl)) pgs_nil)))
    (pss_cons (ps_expr (pe_bm PySem.F.plainAttrs_list PySem.F.slot_list_append PySem.F.type_list_append mt_append (pe_ix ix_list (pe_fld (pv 0) rfl) (pe_ix ix_tup (pv 4) pe_int (fun _ _ => rfl)) (fun _ _ => rfl)) (pa_cons (pv 3) pa_nil)))
  (pss_one (ps_expr (pe_bm PySem.F.plainAttrs_list PySem.F.slot_list_append PySem.F.type_list_append mt_append (pe_ix ix_list (pe_fld (pv 0) rfl) (pe_ix ix_tup (pv 4) pe_int (fun _ _ => rfl)) (fun _ _ => rfl)) (pa_cons (pv 3) pa_nil))))))))))))), ?_⟩
  refine ⟨_, rfl, (N : Int), 1, 60, rfl, by have := ho.n0; omega, by have := ho.n1; omega, _, rfl, iteF ?_⟩
  refine ⟨_, rfl, _, rfl, N, t, ts, rfl, ho, ht, fun H1 hS1 => ⟨_, rfl, iteF ?_⟩⟩
  have ha1 := hS1 _ _ ha
  obtain ⟨tas, ht1, hP1⟩ := ht.same hS1
  have nat : t ≠ a := ne_of ht1 ha1 (by intro q; cases q)
  have nta : ∀ p e, TupAt H1 p e → p ≠ a := fun p e hp => ne_of hp ha1 (by intro q; cases q)
  refine ⟨_, rfl, _, rfl, a, C, dx, [], rfl, ha1, WK.cl, WK.nP, (by decide), ?_⟩
  refine ⟨_, rfl, t, _, rfl, .inl (SqL.of (by rw [upd_ne nat]; exact ht1)), fun tl ntl => ?_⟩
  have natl : a ≠ tl := ne_of_none upd_same ntl
  have ntl1 : H1 tl = none := by rw [upd_ne natl.symm] at ntl; exact ntl
  refine ⟨_, rfl, a, C, dx, _, rfl, (by rw [upd_ne natl]; exact upd_same), WK.cl, WK.nT, Nat.lt_of_le_of_lt (putF_len _ _ _) (by decide), ?_⟩
  generalize e4 : upd (upd (upd H1 a (.ins C dx (putF "_places" (.int (N : Int)) []))) tl (.lst (tas.map V.ref))) a (.ins C dx (putF "_ties" (.ref tl) (putF "_places" (.int (N : Int)) []))) = H4
  have k4 : Kept a H1 H4 := fun b o e n => by rw [← e4, upd_ne n, upd_ne (ne_of_none e ntl1), upd_ne n]; exact e
  have ha4 : H4 a = some (.ins C dx (putF "_ties" (.ref tl) (putF "_places" (.int (N : Int)) []))) := by rw [← e4]; exact upd_same
  have htl4 : H4 tl = some (.lst (tas.map V.ref)) := by rw [← e4, upd_ne natl.symm]; exact upd_same
  have hN := ho.n1
  refine ⟨_, rfl, _, rfl, by omega, by omega, fun D1 nD1 => ?_⟩
  refine lc_range (lo := 0) (n := N) (fun i H' => Fresh H4 D1 i H') (Fresh.zero nD1) ?_ ?_
  · intro i H' hi hf
    exact ⟨rfl, Nat.zero_le _, fun p np => hf.step nD1 (by omega) np⟩
  rintro H5 ⟨fas, f1, f2, f3, f4, f5, f6⟩
  have ha5 := f4 _ _ ha4
  have fa : ∀ x ∈ fas, x ≠ a := fun x hx z => by
    have := (f3 x hx).1
    rw [z, ha4] at this
    cases this
  have naD1 : D1 ≠ a := fun z => by rw [z, ha4] at nD1; cases nD1
  refine ⟨_, rfl, a, C, dx, _, rfl, ha5, WK.cl, WK.nF, Nat.lt_of_le_of_lt (putF_len _ _ _) (Nat.lt_of_le_of_lt (Nat.succ_le_succ (putF_len _ _ _)) (by decide)), ?_⟩
  generalize e6 : upd H5 a (.ins C dx (putF "_ties_from" (.ref D1) (putF "_ties" (.ref tl) (putF "_places" (.int (N : Int)) [])))) = H6
  have k6 : Kept a H5 H6 := fun b o e n => by rw [← e6, upd_ne n]; exact e
  have ha6 : H6 a = some (.ins C dx (putF "_ties_from" (.ref D1) (putF "_ties" (.ref tl) (putF "_places" (.int (N : Int)) [])))) := by rw [← e6]; exact upd_same
  refine ⟨_, rfl, _, rfl, by omega, by omega, fun D2 nD2 => ?_⟩
  refine lc_range (lo := 0) (n := N) (fun i H' => Fresh H6 D2 i H') (Fresh.zero nD2) ?_ ?_
  · intro i H' hi hf
    exact ⟨rfl, Nat.zero_le _, fun p np => hf.step nD2 (by omega) np⟩
  rintro H7 ⟨os, g1, g2, g3, g4, g5, g6⟩
  have ha7 := g4 _ _ ha6
  refine ⟨_, rfl, a, C, dx, _, rfl, ha7, WK.cl, WK.nO, Nat.lt_of_le_of_lt (putF_len _ _ _) (Nat.lt_of_le_of_lt (Nat.succ_le_succ (putF_len _ _ _)) (Nat.lt_of_le_of_lt (Nat.succ_le_succ (Nat.succ_le_succ (putF_len _ _ _))) (by decide))), ?_⟩
  generalize e8 : upd H7 a (.ins C dx (putF "_ties_to" (.ref D2) (putF "_ties_from" (.ref D1) (putF "_ties" (.ref tl) (putF "_places" (.int (N : Int)) []))))) = H8
  have k8 : Kept a H7 H8 := fun b o e n => by rw [← e8, upd_ne n]; exact e
  have ha8 : H8 a = some (.ins C dx (wf N tl D1 D2)) := by rw [← e8]; exact upd_same
  have oa : ∀ x ∈ os, x ≠ a := fun x hx z => by
    have := (g3 x hx).1
    rw [z, ha6] at this
    cases this
  have naD2 : D2 ≠ a := fun z => by rw [z, ha6] at nD2; cases nD2
  have fo : ∀ x ∈ fas, x ∉ os := fun x hx z => by
    have h := (g3 x z).1
    rw [k6 _ _ (f6 x hx) (fa x hx)] at h
    cases h
  -- what stands before the lists is none of them
  have old : ∀ b o, H4 b = some o → b ≠ a → H8 b = some o ∧ b ∉ fas ∧ b ∉ os := fun b o e n => by
    have h5 := f4 _ _ e
    have h6 := k6 _ _ h5 n
    refine ⟨k8 _ _ (g4 _ _ h6) n, fun z => ?_, fun z => ?_⟩
    · rw [(f3 b z).1] at e; cases e
    · rw [(g3 b z).1] at h6; cases h6
  have ntla : tl ≠ a := natl.symm
  have oldA : a ∉ fas ∧ a ∉ os := ⟨fun z => fa a z rfl, fun z => oa a z rfl⟩
  have oldT := old _ _ htl4 ntla
  have oldE : ∀ p e, TupAt H1 p e → TupAt H8 p e ∧ p ∉ fas ∧ p ∉ os := fun p e hp => old _ _ (k4 _ _ hp (nta p e hp)) (nta p e hp)
  have f58 : H8 D1 = some (.lst (fas.map V.ref)) := k8 _ _ (g4 _ _ (k6 _ _ f5 naD1)) naD1
  have D1f : D1 ∉ fas := fun z => (f3 D1 z).2 rfl
  have D1o : D1 ∉ os := fun z => by
    have h := (g3 D1 z).1
    rw [k6 _ _ f5 naD1] at h
    cases h
  have g58 : H8 D2 = some (.lst (os.map V.ref)) := k8 _ _ g5 naD2
  have D2o : D2 ∉ os := fun z => (g3 D2 z).2 rfl
  have D2f : D2 ∉ fas := fun z => by
    have h := k6 _ _ (f6 D2 z) (fa D2 z)
    rw [nD2] at h
    cases h
  have fe8 : ∀ x ∈ fas, H8 x = some (.lst []) := fun x hx => k8 _ _ (g4 _ _ (k6 _ _ (f6 x hx) (fa x hx))) (fa x hx)
  have oe8 : ∀ x ∈ os, H8 x = some (.lst []) := fun x hx => k8 _ _ (g6 x hx) (oa x hx)
  have nin : ∀ {b : Addr}, b ∉ fas → b ∉ os → b ∉ fas ++ os := fun h1 h2 z => (List.mem_append.mp z).elim h1 h2
  refine ⟨_, rfl, a, C, dx, _, _, rfl, ha8, WK.cl, WK.nT, wf_T _ _ _ _, tl, _, rfl, SqL.of oldT.1, ?_⟩
  refine for_it (walk_enum (K := K) (a := tl) (xs := tas.map V.ref)) (fun i σ H' => ∃ v3 v4 v5 : Option V, σ = [some (.ref a), some (.int (N : Int)), some (.ref t), v3, v4, v5] ∧ KeptR (fas ++ os) H8 H' ∧ (∀ (j : Nat) (x : Addr), fas[j]? = some x → H' x = some (.lst (iv (frmN ts j i)))) ∧ (∀ (j : Nat) (x : Addr), os[j]? = some x → ∃ L : List V, H' x = some (.lst L) ∧ L.length ≤ i)) ?_ ?_ ?_ ?_
  · exact ⟨_, _, _, rfl, .refl _ _, fun j x e => fe8 x (List.mem_of_getElem? e), fun j x e => ⟨[], oe8 x (List.mem_of_getElem? e), Nat.zero_le _⟩⟩
  · rintro i σ H' hi ⟨v3, v4, v5, rfl, hk, _, _⟩
    exact SqL.of (hk _ _ oldT.1 (nin oldT.2.1 oldT.2.2))
  · rintro i x σ H9 H10 hi ⟨v3, v4, v5, rfl, hk, hf, hos⟩ ⟨T0, x1, x2, rfl, nT0, rfl, e1, e2⟩
    cases e1
    rw [List.length_map] at hi
    replace e2 : (tas.map V.ref)[i]? = some x2 := e2
    rw [List.getElem?_map, List.getElem?_eq_getElem hi] at e2
    cases e2
    obtain ⟨⟨u, v⟩, he, hpe⟩ := paired_get hP1 (List.getElem?_eq_getElem hi)
    obtain ⟨hu, hv⟩ := ho.ok _ (List.mem_of_getElem? he)
    have hp8 := oldE _ _ hpe
    have hp9 : H9 tas[i] = some (.tup [.int (u : Int), .int (v : Int)]) := hk _ _ hp8.1 (nin hp8.2.1 hp8.2.2)
    have hkN : KeptR (fas ++ os) H8 (upd H9 T0 (.tup [.int (i : Int), .ref tas[i]])) := hk.new nT0
    generalize e10 : upd H9 T0 (.tup [.int (i : Int), .ref tas[i]]) = H10
    rw [e10] at hkN
    have hT10 : H10 T0 = some (.tup [.int (i : Int), .ref tas[i]]) := by rw [← e10]; exact upd_same
    have hS10 : Same H9 H10 := by rw [← e10]; exact same_new nT0 _
    have hp10 := hS10 _ _ hp9
    have ha10 := hkN _ _ ha8 (nin oldA.1 oldA.2)
    have hfl10 := hkN _ _ f58 (nin D1f D1o)
    obtain ⟨xu, eu⟩ : ∃ x, fas[u]? = some x := ⟨fas[u]'(by omega), List.getElem?_eq_getElem _⟩
    obtain ⟨xv, ev⟩ : ∃ x, os[v]? = some x := ⟨os[v]'(by omega), List.getElem?_eq_getElem _⟩
    have mu := List.mem_of_getElem? eu
    have mv := List.mem_of_getElem? ev
    have hxu := hS10 _ _ (hf u xu eu)
    obtain ⟨Lv, hxv, hLv⟩ := hos v xv ev
    have nxu : ∀ {b : Addr}, b ∉ fas → b ≠ xu := fun h z => h (by rw [z]; exact mu)
    have nxv : ∀ {b : Addr}, b ∉ os → b ≠ xv := fun h z => h (by rw [z]; exact mv)
    have htl := ho.m
    have htsl : i < ts.length := by rw [← paired_len hP1]; exact hi
    refine ⟨T0, _, rfl, SqT.of hT10, rfl, _, _, rfl, _, _, rfl, rfl, ?_⟩
    refine ⟨_, rfl, a, C, dx, _, _, rfl, ha10, WK.cl, WK.nF, wf_F _ _ _ _, _, rfl, _, _, _, .int (u : Int), rfl, rfl, SqT.of hp10, rfl, _, _, _, .ref xu, rfl, rfl, SqL.of hfl10, atI_nat (by rw [List.getElem?_map, eu]; rfl), .inl ⟨rfl, _, SqL.of hxu⟩, _, rfl, xu, _, _, rfl, rfl, hxu, ?_, ?_⟩
    · rw [List.length_map]
      exact Nat.lt_of_le_of_lt (frmN_len ts u i) (Nat.lt_trans (by omega : i < 1000) (by decide))
    generalize e11 : upd H10 xu (.lst (iv (frmN ts u i) ++ [.int (i : Int)])) = H11
    have hk11 : KeptR (fas ++ os) H8 H11 := by rw [← e11]; exact hkN.put (List.mem_append_left _ mu)
    have ha11 := hk11 _ _ ha8 (nin oldA.1 oldA.2)
    have hol11 := hk11 _ _ g58 (nin D2f D2o)
    have hp11 : H11 tas[i] = some (.tup [.int (u : Int), .int (v : Int)]) := hk11 _ _ hp8.1 (nin hp8.2.1 hp8.2.2)
    have hxv11 : H11 xv = some (.lst Lv) := by
      rw [← e11, upd_ne (fun z => fo xu mu (by rw [← z]; exact mv))]
      exact hS10 _ _ hxv
    refine ⟨_, rfl, a, C, dx, _, _, rfl, ha11, WK.cl, WK.nO, wf_O _ _ _ _, _, rfl, _, _, _, .int (v : Int), rfl, rfl, SqT.of hp11, rfl, _, _, _, .ref xv, rfl, rfl, SqL.of hol11, atI_nat (by rw [List.getElem?_map, ev]; rfl), .inl ⟨rfl, _, SqL.of hxv11⟩, _, rfl, xv, _, _, rfl, rfl, hxv11, Nat.lt_of_le_of_lt hLv (Nat.lt_trans (by omega : i < 1000) (by decide)), ?_⟩
    refine ⟨_, _, _, rfl, hk11.put (List.mem_append_right _ mv), fun j x e => ?_, fun j x e => ?_⟩
    · have nx : x ≠ xv := fun z => fo x (List.mem_of_getElem? e) (by rw [z]; exact mv)
      rw [upd_ne nx]
      have eti : ts[i]?.map Prod.fst = some u := by rw [he]; rfl
      by_cases c : x = xu
      · have ej : j = u := nodup_get f2 e (by rw [c]; exact eu)
        subst ej
        rw [c, ← e11, upd_same, show frmN ts j (i + 1) = frmN ts j i ++ [i] from if_pos eti, iv_app]
      · have ej : ¬ (ts[i]?.map Prod.fst) = some j := fun z => by
          rw [eti] at z
          cases z
          rw [eu] at e
          exact c (Option.some.inj e).symm
        rw [← e11, upd_ne c, show frmN ts j (i + 1) = frmN ts j i from if_neg ej]
        exact hS10 _ _ (hf j x e)
    · by_cases c : x = xv
      · exact ⟨_, by rw [c]; exact upd_same, by rw [List.length_append, List.length_singleton]; omega⟩
      · obtain ⟨L, h1, h2⟩ := hos j x e
        refine ⟨L, ?_, by omega⟩
        rw [upd_ne c, ← e11, upd_ne (fun z => fo xu mu (by rw [← z]; exact List.mem_of_getElem? e))]
        exact hS10 _ _ h1
  · rintro σ H9 ⟨v3, v4, v5, rfl, hk, hf, hos⟩
    have hlen : (tas.map V.ref).length = ts.length := by rw [List.length_map]; exact paired_len hP1
    rw [hlen] at hf
    have to9 : ∀ b o, H4 b = some o → b ≠ a → H9 b = some o := fun b o e n => by
      have h := old b o e n
      exact hk _ _ h.1 (nin h.2.1 h.2.2)
    have g0 : ∀ b, b ≠ a → H4 b = none → H b = none := fun b n e => by
      cases e2 : H b with
      | none => rfl
      | some o =>
        rw [k4 _ _ (hS1 _ _ e2) n] at e
        cases e
    refine q H9 (fun b o e n => to9 b o (k4 _ _ (hS1 _ _ e) n) n) ⟨dx, tl, D1, D2, Sub.of (hk _ _ ha8 (nin oldA.1 oldA.2)) (.inr (.inl rfl)), ⟨tas, Sub.of (to9 _ _ htl4 ntla) (.inl (hS1.free ntl1)), ?_⟩, ⟨fas, Sub.of (hk _ _ f58 (nin D1f D1o)) (.inl (g0 _ naD1 nD1)), f1, fun j x e => Sub.of (hf j x e) (.inl ?_)⟩⟩
    · refine paired_mono (fun p e hp => ?_) hP1
      have hp9 := to9 _ _ (k4 _ _ hp (nta p e hp)) (nta p e hp)
      exact Sub.of hp9 (.inr (.inr ⟨_, hp9⟩))
    · have hm := List.mem_of_getElem? e
      exact g0 x (fa x hm) (f3 x hm).1
def spWeb_places (_ : PySem.W.Frag) (C : Addr) : Sp := fun vs H Q _ => ∃ a N ts, vs = [.ref a] ∧ WebAt C a N ts H ∧ Q (.int (N : Int)) H
theorem okWeb_places (D : DefP K C "places" "Web.places" sWeb_places ["self"]) (B : Bs mg) (Glb : Glo mg) (WK : WebK K mg C) :
    GoodP P w K mg base C "places" "Web.places" sWeb_places ["self"] 1 (spWeb_places K C) := by
  refine D.good fun f fd F => ?_
  refine F.ok scWeb_places (fun vs H Q E h => ?_) (fun cdv A outer s H vs Q E hr h => ?_)
  · obtain ⟨a, N, ts, rfl, ⟨dx, tl, fl, ol, h1, h2, h3⟩, q⟩ := h
    first | rfl | (rcases h with ⟨_, _, rfl, _⟩ | ⟨_, rfl, _⟩ <;> rfl)
  obtain ⟨a, N, ts, rfl, ⟨dx, tl, fl, ol, h1, h2, h3⟩, q⟩ := h
  refine ⟨_, (pss_one (ps_ret (pe_fld (pv 0) rfl))), ?_⟩
  exact ⟨_, rfl, a, C, dx, _, _, rfl, h1, WK.cl, WK.nP, wf_P _ _ _ _, q⟩
def spWeb_many (_ : PySem.W.Frag) (C : Addr) : Sp := fun vs H Q _ => ∃ a N ts, vs = [.ref a] ∧ WebAt C a N ts H ∧ Q (.int (ts.length : Int)) H
theorem okWeb_many (D : DefP K C "many" "Web.many" sWeb_many ["self"]) (B : Bs mg) (Glb : Glo mg) (WK : WebK K mg C) :
    GoodP P w K mg base C "many" "Web.many" sWeb_many ["self"] 1 (spWeb_many K C) := by
  refine D.good fun f fd F => ?_
  refine F.ok scWeb_many (fun vs H Q E h => ?_) (fun cdv A outer s H vs Q E hr h => ?_)
  · obtain ⟨a, N, ts, rfl, ⟨dx, tl, fl, ol, h1, ⟨tas, ht, hP⟩, h3⟩, q⟩ := h
    first | rfl | (rcases h with ⟨_, _, rfl, _⟩ | ⟨_, rfl, _⟩ <;> rfl)
  obtain ⟨a, N, ts, rfl, ⟨dx, tl, fl, ol, h1, ⟨tas, ht, hP⟩, h3⟩, q⟩ := h
  refine ⟨_, (pss_one (ps_ret (pe_callB call_len_seq (by rfl) B.len (by decide +kernel) (pa_cons (pe_fld (pv 0) rfl) pa_nil)))), ?_⟩
  refine ⟨_, rfl, a, C, dx, _, _, rfl, h1, WK.cl, WK.nT, wf_T _ _ _ _, _, _, rfl, .inl (SqL.of ht), ?_⟩
  rw [List.length_map, paired_len hP]
  exact q
def spWeb_ties (_ : PySem.W.Frag) (C : Addr) : Sp := fun vs H Q _ => ∃ a N ts, vs = [.ref a] ∧ WebAt C a N ts H ∧ ∀ H' l, H l = none → Same H H' → TiesAt H' l ts → Q (.ref l) H'
theorem okWeb_ties (D : DefM K C "ties" "Web.ties" sWeb_ties ["self"]) (B : Bs mg) (Glb : Glo mg) (WK : WebK K mg C) :
    GoodM P w K mg base C "ties" "Web.ties" sWeb_ties ["self"] 1 (spWeb_ties K C) := by
  refine D.good fun f fd F => ?_
  refine F.ok scWeb_ties (fun vs H Q E h => ?_) (fun cdv A outer s H vs Q E hr h => ?_)
  · obtain ⟨a, N, ts, rfl, ⟨dx, tl, fl, ol, h1, ⟨tas, ht, hP⟩, h3⟩, q⟩ := h
    first | rfl | (rcases h with ⟨_, _, rfl, _⟩ | ⟨_, rfl, _⟩ <;> rfl)
  obtain ⟨a, N, ts, rfl, ⟨dx, tl, fl, ol, h1, ⟨tas, ht, hP⟩, h3⟩, q⟩ := h
  refine ⟨_, (pss_one (ps_ret (pe_callTy call_list_of (by rfl) B.list (by decide +kernel) (pa_cons (pe_fld (pv 0) rfl) pa_nil)))), ?_⟩
  exact ⟨_, rfl, a, C, dx, _, _, rfl, h1, WK.cl, WK.nT, wf_T _ _ _ _, _, _, rfl, .inl (SqL.of ht), fun l nl => q _ l nl (same_new nl _) ⟨tas, upd_same, paired_mono (fun p e hp => same_new nl _ _ _ hp) hP⟩⟩
def spneed_place (_ : PySem.W.Frag) (C : Addr) : Sp := fun vs H Q _ => ∃ a N ts p, vs = [.ref a, .int ((p : Nat) : Int)] ∧ WebAt C a N ts H ∧ p < N ∧ Q .non H
theorem okneed_place (D : Def K mg "need_place" sneed_place ["web", "place"]) (B : Bs mg) (Glb : Glo mg) (WK : WebK K mg C)
    (his_below : Good P w K mg base "is_below" sis_below ["value", "limit"] 3 (spis_below K C))
    (hWeb_places : GoodP P w K mg base C "places" "Web.places" sWeb_places ["self"] 1 (spWeb_places K C)) :
    Good P w K mg base "need_place" sneed_place ["web", "place"] 4 (spneed_place K C) := by
  refine D.good fun f fd F => ?_
  obtain ⟨fis_below, dis_below, Ois_below, mis_below, kis_below, bis_below, Fis_below⟩ := his_below
  obtain ⟨qWeb_places, fWeb_places, dWeb_places, OWeb_places, pWeb_places, bWeb_places⟩ := hWeb_places
  refine F.ok scneed_place (fun vs H Q E h => ?_) (fun cdv A outer s H vs Q E hr h => ?_)
  · obtain ⟨a, N, ts, p, rfl, hw, hp, q⟩ := h
    first | rfl | (rcases h with ⟨_, _, rfl, _⟩ | ⟨_, rfl, _⟩ <;> rfl)
  obtain ⟨a, N, ts, p, rfl, hw, hp, q⟩ := h
  refine ⟨_, (pss_one (ps_if (pt_not (pt_val (pe_call Ois_below hr rfl mis_below kis_below bis_below .nil pass0 (pa_cons (pv 1) (pa_cons (pe_prop (pv 0) WK.cl pWeb_places OWeb_places (hr.mono (by decide)) bWeb_places .nil pass0 (by rfl)) pa_nil)))))
    (pss_one ps_never) pss_nil)), ?_⟩
  obtain ⟨dx, tl, fl, ol, h1, _⟩ := id hw
  exact ⟨_, rfl, _, rfl, a, dx, _, rfl, h1, a, N, ts, rfl, hw, p, N, rfl, by omega, _, rfl, iteF q⟩
def spneed_web (_ : PySem.W.Frag) (C : Addr) : Sp := fun vs H Q _ => ∃ a N ts, vs = [.ref a] ∧ WebAt C a N ts H ∧ Q .non H
theorem okneed_web (D : Def K mg "need_web" sneed_web ["web"]) (B : Bs mg) (Glb : Glo mg) (WK : WebK K mg C) :
    Good P w K mg base "need_web" sneed_web ["web"] 3 (spneed_web K C) := by
  refine D.good fun f fd F => ?_
  refine F.ok scneed_web (fun vs H Q E h => ?_) (fun cdv A outer s H vs Q E hr h => ?_)
  · obtain ⟨a, N, ts, rfl, hw, q⟩ := h
    first | rfl | (rcases h with ⟨_, _, rfl, _⟩ | ⟨_, rfl, _⟩ <;> rfl)
  obtain ⟨a, N, ts, rfl, hw, q⟩ := h
  refine ⟨_, (pss_one (ps_if (pt_not (pt_val (pe_callB call_isi (by rfl) B.isinstance (by decide +kernel) (pa_cons (pv 0) (pa_cons (pe_glob (v := .ref C) (by rfl) WK.mgC rfl) pa_nil)))))
    (pss_one ps_never) pss_nil)), ?_⟩
  obtain ⟨dx, tl, fl, ol, h1, h2, h3⟩ := id hw
  exact ⟨_, rfl, _, _, _, _, true, rfl, .own C, .base (.ins h1 WK.cl WK.i1 WK.i2 WK.i3 WK.i4), WK.i5, _, rfl, iteF q⟩
/-- a list or a tuple of ints -/
def SeqAt (H : Hp) (s : Addr) (W : List Nat) : Prop := H s = some (.lst (iv W)) ∨ H s = some (.tup (iv W))
theorem SeqAt.same {H H' : Hp} {s : Addr} {W : List Nat} (h : SeqAt H s W) (hs : Same H H') : SeqAt H' s W := h.imp (hs _ _) (hs _ _)
def spare_numbers (_ : PySem.W.Frag) (C : Addr) : Sp := fun vs H Q _ => ∃ a N ts s W, vs = [.ref a, .ref s] ∧ WebAt C a N ts H ∧ SeqAt H s W ∧ (∀ x ∈ W, x < ts.length) ∧ ∀ H', Same H H' → Q (.bl true) H'
theorem okare_numbers (D : Def K mg "are_numbers" sare_numbers ["web", "value"]) (B : Bs mg) (Glb : Glo mg) (WK : WebK K mg C)
    (his_listed : Good P w K mg base "is_listed" sis_listed ["value"] 1 (spis_listed K C))
    (his_below : Good P w K mg base "is_below" sis_below ["value", "limit"] 3 (spis_below K C))
    (hWeb_many : GoodP P w K mg base C "many" "Web.many" sWeb_many ["self"] 1 (spWeb_many K C)) :
    Good P w K mg base "are_numbers" sare_numbers ["web", "value"] 4 (spare_numbers K C) := by
  refine D.good fun f fd F => ?_
  obtain ⟨fis_listed, dis_listed, Ois_listed, mis_listed, kis_listed, bis_listed, Fis_listed⟩ := his_listed
  obtain ⟨fis_below, dis_below, Ois_below, mis_below, kis_below, bis_below, Fis_below⟩ := his_below
  obtain ⟨qWeb_many, fWeb_many, dWeb_many, OWeb_many, pWeb_many, bWeb_many⟩ := hWeb_many
  refine F.ok scare_numbers (fun vs H Q E h => ?_) (fun cdv A outer s H vs Q E hr h => ?_)
  · obtain ⟨a, N, ts, s, W, rfl, hw, hs, hW, q⟩ := h
    first | rfl | (rcases h with ⟨_, _, rfl, _⟩ | ⟨_, rfl, _⟩ <;> rfl)
  obtain ⟨a, N, ts, s, W, rfl, hw, hs, hW, q⟩ := h
  refine ⟨_, (pss_cons (ps_if (pt_not (pt_val (pe_call Ois_listed (hr.mono (by decide)) rfl mis_listed kis_listed bis_listed .nil pass0 (pa_cons (pv 1) pa_nil))))
    (pss_one (ps_ret pe_bl)) pss_nil)
  (pss_cons (ps_for PassesOwn.never rfl (pi_or (pi_list (pv 1)) (pi_tup (pv 1))) (pg_name (i := 2) scare_numbers.nd rfl (by first | exact Or.inl rfl | exact Or.inr rfl))
    (pss_one (ps_if (pt_not (pt_val (pe_call Ois_below hr rfl mis_below kis_below bis_below .nil pass0 (pa_cons (pv 2) (pa_cons (pe_prop (pv 0) WK.cl pWeb_many OWeb_many (hr.mono (by decide)) bWeb_many .nil pass0 (by rfl)) pa_nil)))))
    (pss_one (ps_ret pe_bl)) pss_nil)))
  (pss_one (ps_ret pe_bl)))), ?_⟩
  refine ⟨_, rfl, s, rfl, hs.imp (fun h => ⟨_, h⟩) (fun h => ⟨_, h⟩), fun H1 hS1 => ⟨_, rfl, iteF ?_⟩⟩
  have key : ∀ (i : Nat) (x : V) (H2 : Hp), (iv W)[i]? = some x → Same H1 H2 → ∃ n : Nat, x = .int (n : Int) ∧ n < ts.length ∧ WebAt C a N ts H2 := fun i x H2 hx hS2 => by
    rw [List.getElem?_map] at hx
    cases e : W[i]? with
    | none => rw [e] at hx; cases hx
    | some n =>
      rw [e] at hx
      exact ⟨n, (Option.some.inj hx).symm, hW n (List.mem_of_getElem? e), (hw.same hS1).same hS2⟩
  rcases hs.same hS1 with h | h
  · refine .inl ⟨_, rfl, s, rfl, ⟨_, SqL.of h⟩, for_list (K := K) (a := s) (xs := iv W) (fun i σ H' => Same H1 H' ∧ ∃ v, σ = [some (.ref a), some (.ref s), v]) ⟨fun _ _ e => e, none, rfl⟩ (fun i σ H' _ ⟨hS', _⟩ => SqL.of (hS' _ _ h)) ?_ ?_⟩
    · rintro i x σ H2 hx ⟨hS2, v, rfl⟩
      obtain ⟨n, rfl, hn, hw2⟩ := key i x H2 hx hS2
      obtain ⟨dx, tl, fl, ol, h1, _⟩ := id hw2
      exact ⟨_, rfl, _, rfl, a, dx, _, rfl, h1, a, N, ts, rfl, hw2, n, _, rfl, by omega, _, rfl, iteF ⟨hS2, _, rfl⟩⟩
    · rintro σ H2 ⟨hS2, v, rfl⟩
      exact q H2 (hS1.trans hS2)
  · refine .inr ⟨_, rfl, s, rfl, ⟨_, SqT.of h⟩, for_tup (K := K) (a := s) (xs := iv W) (fun i σ H' => Same H1 H' ∧ ∃ v, σ = [some (.ref a), some (.ref s), v]) ⟨fun _ _ e => e, none, rfl⟩ (fun i σ H' _ ⟨hS', _⟩ => SqT.of (hS' _ _ h)) ?_ ?_⟩
    · rintro i x σ H2 hx ⟨hS2, v, rfl⟩
      obtain ⟨n, rfl, hn, hw2⟩ := key i x H2 hx hS2
      obtain ⟨dx, tl, fl, ol, h1, _⟩ := id hw2
      exact ⟨_, rfl, _, rfl, a, dx, _, rfl, h1, a, N, ts, rfl, hw2, n, _, rfl, by omega, _, rfl, iteF ⟨hS2, _, rfl⟩⟩
    · rintro σ H2 ⟨hS2, v, rfl⟩
      exact q H2 (hS1.trans hS2)
def sp_need_without (_ : PySem.W.Frag) (C : Addr) : Sp := fun vs H Q _ => ∃ a N ts s W, vs = [.ref a, .ref s] ∧ WebAt C a N ts H ∧ SeqAt H s W ∧ (∀ x ∈ W, x < ts.length) ∧ ∀ H', Same H H' → Q .non H'
theorem ok_need_without (D : Def K mg "_need_without" s_need_without ["web", "without"]) (B : Bs mg) (Glb : Glo mg) (WK : WebK K mg C)
    (hare_numbers : Good P w K mg base "are_numbers" sare_numbers ["web", "value"] 4 (spare_numbers K C)) :
    Good P w K mg base "_need_without" s_need_without ["web", "without"] 5 (sp_need_without K C) := by
  refine D.good fun f fd F => ?_
  obtain ⟨fare_numbers, dare_numbers, Oare_numbers, mare_numbers, kare_numbers, bare_numbers, Fare_numbers⟩ := hare_numbers
  refine F.ok sc_need_without (fun vs H Q E h => ?_) (fun cdv A outer s H vs Q E hr h => ?_)
  · obtain ⟨a, N, ts, s, W, rfl, hw, hs, hW, q⟩ := h
    first | rfl | (rcases h with ⟨_, _, rfl, _⟩ | ⟨_, rfl, _⟩ <;> rfl)
  obtain ⟨a, N, ts, s, W, rfl, hw, hs, hW, q⟩ := h
  refine ⟨_, (pss_one (ps_if (pt_not (pt_val (pe_call Oare_numbers hr rfl mare_numbers kare_numbers bare_numbers .nil pass0 (pa_cons (pv 0) (pa_cons (pv 1) pa_nil)))))
    (pss_one ps_never) pss_nil)), ?_⟩
  exact ⟨_, rfl, _, rfl, a, N, ts, s, W, rfl, hw, hs, hW, fun H1 hS1 => ⟨_, rfl, iteF (q H1 hS1)⟩⟩
end
end My
namespace My
open PySem L2 PyProof.Rows
theorem inV_iv (n : Nat) (W : List Nat) : inV (.int (n : Int)) (iv W) = decide (n ∈ W) := by
  unfold inV iv
  induction W with
  | nil => rfl
  | cons a r ih =>
    rw [List.map_cons, List.any_cons, ih]
    by_cases h : a = n
    · subst h
      have e : eqV (V.int (a : Int)) (V.int (a : Int)) = true := by
        show ((a : Int) == (a : Int)) = true
        simp
      rw [e]
      simp
    · have e : eqV (V.int (a : Int)) (V.int (n : Int)) = false := by
        show ((a : Int) == (n : Int)) = false
        simp
        omega
      rw [e]
      have h2 : ¬ n = a := fun z => h z.symm
      simp [h2]
theorem flat_iv (W : List Nat) : (iv W).all flatV = true := by
  rw [List.all_eq_true]
  intro x hx
  obtain ⟨n, _, rfl⟩ := List.mem_map.mp hx
  rfl
theorem SeqAt.seq {K : PySem.W.Frag} {H : Hp} {s : Addr} {W : List Nat} (h : SeqAt H s W) : SqL K H s (iv W) ∨ SqT K H s (iv W) := h.imp SqL.of SqT.of
/-! ### to where the ties lead -/
def outN (ts : List (Nat × Nat)) (W : List Nat) (u : Nat) : Nat → List Nat
  | 0 => []
  | i + 1 => match ts[i]? with
    | some e => if e.1 = u ∧ i ∉ W then outN ts W u i ++ [e.2] else outN ts W u i
    | none => outN ts W u i
theorem outN_len (ts : List (Nat × Nat)) (W : List Nat) (u : Nat) : ∀ i, (outN ts W u i).length ≤ i
  | 0 => by simp [outN]
  | i + 1 => by
    have := outN_len ts W u i
    unfold outN
    split
    · split
      · simp; omega
      · omega
    · omega
theorem outN_mem (ts : List (Nat × Nat)) (W : List Nat) (u v : Nat) : ∀ i, v ∈ outN ts W u i ↔ ∃ j, j < i ∧ ts[j]? = some (u, v) ∧ j ∉ W
  | 0 => by simp [outN]
  | i + 1 => by
    have ih := outN_mem ts W u v i
    have lift : (∃ j, j < i ∧ ts[j]? = some (u, v) ∧ j ∉ W) → ∃ j, j < i + 1 ∧ ts[j]? = some (u, v) ∧ j ∉ W := fun ⟨j, h1, h2⟩ => ⟨j, by omega, h2⟩
    unfold outN
    split
    · rename_i e he
      split
      · rename_i c
        rw [List.mem_append, ih, List.mem_singleton]
        constructor
        · rintro (h | rfl)
          · exact lift h
          · exact ⟨i, by omega, by rw [he, ← c.1], c.2⟩
        · rintro ⟨j, h1, h2, h3⟩
          by_cases z : j = i
          · subst z
            rw [he] at h2
            right
            rw [Option.some.inj h2]
          · exact .inl ⟨j, by omega, h2, h3⟩
      · rename_i c
        rw [ih]
        refine ⟨lift, ?_⟩
        rintro ⟨j, h1, h2, h3⟩
        by_cases z : j = i
        · subst z
          rw [he] at h2
          refine absurd ⟨?_, h3⟩ c
          rw [Option.some.inj h2]
        · exact ⟨j, by omega, h2, h3⟩
    · rename_i he
      rw [ih]
      refine ⟨lift, ?_⟩
      rintro ⟨j, h1, h2, h3⟩
      by_cases z : j = i
      · subst z
        rw [he] at h2
        cases h2
      · exact ⟨j, by omega, h2, h3⟩
abbrev outs (ts : List (Nat × Nat)) (W : List Nat) (u : Nat) : List Nat := outN ts W u ts.length
theorem outs_mem {ts : List (Nat × Nat)} {W : List Nat} {u v : Nat} : v ∈ outs ts W u ↔ Edge ts W u v := by
  rw [outs, outN_mem]
  constructor
  · rintro ⟨j, _, h⟩
    exact ⟨j, h⟩
  · rintro ⟨j, h⟩
    exact ⟨j, (List.getElem?_eq_some_iff.mp h.1).1, h⟩
section
variable {P : Program} {w : World} {K : PySem.W.Frag} {mg : Str → Option Value} {base : Heap} {C : Addr}
def sp_places_to (_ : PySem.W.Frag) (C : Addr) : Sp := fun vs H Q _ => ∃ a N ts s W, vs = [.ref a, .ref s] ∧ WebAt C a N ts H ∧ OkWeb N ts ∧ SeqAt H s W ∧ ∀ H' l, Same H H' → RowsAt H' l N (outs ts W) → Q (.ref l) H'
theorem ok_places_to (D : Def K mg "_places_to" s_places_to ["web", "without"]) (B : Bs mg) (Glb : Glo mg) (WK : WebK K mg C)
    (hWeb_ties : GoodM P w K mg base C "ties" "Web.ties" sWeb_ties ["self"] 1 (spWeb_ties K C))
    (hWeb_places : GoodP P w K mg base C "places" "Web.places" sWeb_places ["self"] 1 (spWeb_places K C)) :
    Good P w K mg base "_places_to" s_places_to ["web", "without"] 3 (sp_places_to K C) := by
  refine D.good fun f fd F => ?_
  obtain ⟨fWeb_ties, dWeb_ties, OWeb_ties, tWeb_ties, bWeb_ties, FWeb_ties⟩ := hWeb_ties
  obtain ⟨qWeb_places, fWeb_places, dWeb_places, OWeb_places, pWeb_places, bWeb_places⟩ := hWeb_places
  refine F.ok sc_places_to (fun vs H Q E h => ?_) (fun cdv A outer s H vs Q E hr h => ?_)
  · obtain ⟨a, N, ts, s, W, rfl, hw, ho, hs, q⟩ := h
    first | rfl | (rcases h with ⟨_, _, rfl, _⟩ | ⟨_, rfl, _⟩ <;> rfl)
  obtain ⟨a, N, ts, s, W, rfl, hw, ho, hs, q⟩ := h
  refine ⟨_, (pss_cons (ps_setLc (i := 2) (own := [("_", 6)]) (g := gName 6) (by rfl) sc_places_to.nd rfl rfl (sw_true rfl rfl rfl (by decide +kernel)) (pi_range1 (by rfl) B.range (pa_cons (pe_prop (pv 0) WK.cl pWeb_places OWeb_places (hr.mono (by decide)) bWeb_places .nil pass0 (by rfl)) pa_nil)) (blkOk_by (own := [("_", 6)]) (N := ["web", "without", "ends", "tie", "near", "far", "_"]) (sc := defScope s_places_to) (by decide +kernel)) (fun _ _ _ _ _ => (pg_name (i := 6) sc_places_to.nd rfl (by first | exact Or.inl rfl | exact Or.inr rfl))) (fun _ _ _ _ _ => pts_nil) (fun _ _ _ _ _ => (pe_lst pa_nil)))
  (pss_cons (ps_for PassesOwn.never rfl (pi_enum (by rfl) B.enumerate (pa_cons (pe_meth0 (pv 0) WK.cl tWeb_ties OWeb_ties (hr.mono (by decide)) bWeb_ties .nil pass0) pa_nil)) (pg_tup rfl (pgs_cons (pg_name (i := 3) sc_places_to.nd rfl (by first | exact Or.inl rfl | exact Or.inr rfl)) (pgs_cons (pg_tup rfl (pgs_cons (pg_name (i := 4) sc_places_to.nd rfl (by first | exact Or.inl rfl | exact Or.inr rfl)) (pgs_cons (pg_name (i := 5) sc_places_to.nd rfl (by first | exact Or.inl rfl | exact Or.inr rfl)) pgs_nil))) pgs_nil)))
    (pss_one (ps_if (pt_cmpR op_notIn_seq (pv 3) (pv 1) (by rfl))
    (pss_one (ps_expr (pe_bm PySem.F.plainAttrs_list PySem.F.slot_list_append PySem.F.type_list_append mt_append (pe_ix ix_list (pv 2) (pv 4) (fun _ _ => rfl)) (pa_cons (pv 5) pa_nil)))) pss_nil)))
  (pss_one (ps_ret (pv 2))))), ?_⟩
  have hN := ho.n1
  have hm := ho.m
  obtain ⟨dx, tl, fl, ol, h1, _⟩ := id hw
  refine ⟨_, rfl, a, dx, _, rfl, h1, a, N, ts, rfl, hw, _, rfl, by omega, by omega, fun D nD => ?_⟩
  refine lc_range (lo := 0) (n := N) (fun i H' => Fresh H D i H') (Fresh.zero nD) ?_ ?_
  · intro i H' hi hf
    exact ⟨rfl, Nat.zero_le _, fun p np => hf.step nD (by omega) np⟩
  rintro H1 ⟨fas, f1, f2, f3, f4, f5, f6⟩
  have hw1 := hw.same f4
  obtain ⟨dx, tl, fl, ol, h1, _⟩ := id hw1
  refine ⟨_, rfl, a, dx, _, rfl, h1, wf_no _ _ _ _ (by decide +kernel) (by decide +kernel) (by decide +kernel) (by decide +kernel), a, N, ts, rfl, hw1, fun H2 l nl hS2 ⟨tas, hl, hP⟩ => ⟨_, _, rfl, SqL.of hl, ?_⟩⟩
  have f52 := hS2 _ _ f5
  have f62 : ∀ x ∈ fas, H2 x = some (.lst []) := fun x hx => hS2 _ _ (f6 x hx)
  have lf : l ∉ fas := fun z => by rw [f6 l z] at nl; cases nl
  have lD : l ≠ D := fun z => by rw [z, f5] at nl; cases nl
  have Df : D ∉ fas := fun z => (f3 D z).2 rfl
  have sf : s ∉ fas := fun z => by
    have := (f3 s z).1
    rcases hs with h | h
    · rw [this] at h; cases h
    · rw [this] at h; cases h
  have pf : ∀ p e, TupAt H2 p e → p ∉ fas := fun p e hp z => by
    unfold TupAt at hp
    rw [f62 p z] at hp
    cases hp
  have hs2 := (hs.same f4).same hS2
  refine for_it (walk_enum (K := K) (a := l) (xs := tas.map V.ref)) (fun i σ H' => ∃ v3 v4 v5 v6 : Option V, σ = [some (.ref a), some (.ref s), some (.ref D), v3, v4, v5, v6] ∧ KeptR fas H2 H' ∧ (∀ (j : Nat) (x : Addr), fas[j]? = some x → H' x = some (.lst (iv (outN ts W j i))))) ?_ ?_ ?_ ?_
  · exact ⟨_, _, _, _, rfl, .refl _ _, fun j x e => f62 x (List.mem_of_getElem? e)⟩
  · rintro i σ H' hi ⟨v3, v4, v5, v6, rfl, hk, _⟩
    exact SqL.of (hk _ _ hl lf)
  · rintro i x σ H3 H4 hi ⟨v3, v4, v5, v6, rfl, hk, hf⟩ ⟨T0, x1, x2, rfl, nT0, rfl, e1, e2⟩
    cases e1
    rw [List.length_map] at hi
    replace e2 : (tas.map V.ref)[i]? = some x2 := e2
    rw [List.getElem?_map, List.getElem?_eq_getElem hi] at e2
    cases e2
    obtain ⟨⟨u, v⟩, he, hpe⟩ := paired_get hP (List.getElem?_eq_getElem hi)
    obtain ⟨hu, hv⟩ := ho.ok _ (List.mem_of_getElem? he)
    have hk4 := hk.new (p := T0) (o := .tup [.int (i : Int), .ref tas[i]]) nT0
    have hS4 : Same H3 (upd H3 T0 (.tup [.int (i : Int), .ref tas[i]])) := same_new nT0 _
    have hT4 : (upd H3 T0 (.tup [.int (i : Int), .ref tas[i]])) T0 = some (.tup [.int (i : Int), .ref tas[i]]) := upd_same
    generalize upd H3 T0 (.tup [.int (i : Int), .ref tas[i]]) = H4 at hk4 hS4 hT4
    have hp4 : H4 tas[i] = some (.tup [.int (u : Int), .int (v : Int)]) := hk4 _ _ hpe (pf _ _ hpe)
    have hs4 : SeqAt H4 s W := hs2.imp (fun h => hk4 _ _ h sf) (fun h => hk4 _ _ h sf)
    have htsl : i < ts.length := by rw [← paired_len hP]; exact hi
    obtain ⟨xu, eu⟩ : ∃ x, fas[u]? = some x := ⟨fas[u]'(by omega), List.getElem?_eq_getElem _⟩
    have mu := List.mem_of_getElem? eu
    have hxu := hS4 _ _ (hf u xu eu)
    refine ⟨T0, _, rfl, SqT.of hT4, rfl, _, _, rfl, _, _, rfl, ⟨tas[i], _, rfl, SqT.of hp4, rfl, _, _, rfl, _, _, rfl, rfl, rfl, ?_⟩⟩
    refine ⟨_, rfl, _, rfl, s, _, rfl, hs4.seq, rfl, flat_iv _, _, rfl, ?_⟩
    rw [inV_iv]
    by_cases c : i ∈ W
    · refine iteNot' c ⟨_, _, _, _, rfl, hk4, fun j x e => ?_⟩
      have e2 : outN ts W j (i + 1) = outN ts W j i := by
        show (match ts[i]? with | some e => if e.1 = j ∧ i ∉ W then outN ts W j i ++ [e.2] else outN ts W j i | none => outN ts W j i) = _
        rw [he]
        exact if_neg fun z => z.2 c
      rw [e2]
      exact hS4 _ _ (hf j x e)
    · refine iteNot c ?_
      refine ⟨_, rfl, _, rfl, _, _, _, .ref xu, rfl, rfl, SqL.of (hk4 _ _ f52 Df), atI_nat (by rw [List.getElem?_map, eu]; rfl), .inl ⟨rfl, _, SqL.of hxu⟩, _, rfl, xu, _, _, rfl, rfl, hxu, ?_, ?_⟩
      · rw [List.length_map]
        exact Nat.lt_of_le_of_lt (outN_len ts W u i) (Nat.lt_trans (by omega : i < 1000) (by decide))
      refine ⟨_, _, _, _, rfl, hk4.put mu, fun j x e => ?_⟩
      by_cases cj : j = u
      · subst cj
        rw [eu] at e
        cases e
        have e2 : outN ts W j (i + 1) = outN ts W j i ++ [v] := by
          show (match ts[i]? with | some e => if e.1 = j ∧ i ∉ W then outN ts W j i ++ [e.2] else outN ts W j i | none => outN ts W j i) = _
          rw [he]
          exact if_pos ⟨rfl, c⟩
        rw [upd_same, e2, iv_app]
      · have e2 : outN ts W j (i + 1) = outN ts W j i := by
          show (match ts[i]? with | some e => if e.1 = j ∧ i ∉ W then outN ts W j i ++ [e.2] else outN ts W j i | none => outN ts W j i) = _
          rw [he]
          exact if_neg fun z => cj z.1.symm
        have nx : x ≠ xu := fun z => cj (nodup_get f2 e (by rw [z]; exact eu))
        rw [upd_ne nx, e2]
        exact hS4 _ _ (hf j x e)
  · rintro σ H3 ⟨v3, v4, v5, v6, rfl, hk, hf⟩
    have hlen : (tas.map V.ref).length = ts.length := by rw [List.length_map]; exact paired_len hP
    rw [hlen] at hf
    refine ⟨_, rfl, q H3 D (fun b o e => ?_) ⟨fas, hk _ _ f52 Df, f1, hf⟩⟩
    refine hk _ _ (hS2 _ _ (f4 _ _ e)) fun z => ?_
    rw [(f3 b z).1] at e
    cases e
end
end My
namespace My
open PySem L2 PyProof.Rows
/-! ### dicts by whole numbers -/
def dP (ps : List (Nat × V)) : List (Key × V) := ps.map fun p => (Sum.inl (p.1 : Int), p.2)
theorem dP_val (n : Nat) : ∀ ps : List (Nat × V), valV (dP ps) (Sum.inl (n : Int) : Key) = (ps.find? fun p => decide (p.1 = n)).map (·.2)
  | [] => rfl
  | p :: r => by
    have ih := dP_val n r
    by_cases h : p.1 = n
    · rw [show dP (p :: r) = (Sum.inl (p.1 : Int), p.2) :: dP r from rfl, valV_pos (by rw [h]), List.find?_cons_of_pos (by simpa using h)]
      rfl
    · rw [show dP (p :: r) = (Sum.inl (p.1 : Int), p.2) :: dP r from rfl, valV_neg (fun z => h (by have := Sum.inl.inj z; omega)), List.find?_cons_of_neg (by simpa using h)]
      exact ih
theorem dP_isSome (n : Nat) (ps : List (Nat × V)) : (valV (dP ps) (Sum.inl (n : Int) : Key)).isSome = decide (n ∈ ps.map Prod.fst) := by
  rw [dP_val, Option.isSome_map]
  induction ps with
  | nil => rfl
  | cons p r ih =>
    by_cases h : p.1 = n
    · rw [List.find?_cons_of_pos (by simpa using h)]
      simp [h]
    · rw [List.find?_cons_of_neg (by simpa using h), ih]
      have h2 : ¬ n = p.1 := fun z => h z.symm
      simp [h2]
theorem dP_none {n : Nat} {ps : List (Nat × V)} (h : n ∉ ps.map Prod.fst) : valV (dP ps) (Sum.inl (n : Int) : Key) = none := by
  have := dP_isSome n ps
  rw [decide_eq_false h] at this
  cases e : valV (dP ps) (Sum.inl (n : Int) : Key) with
  | none => rfl
  | some x => rw [e] at this; cases this
theorem dP_new {n : Nat} {ps : List (Nat × V)} (v : V) (h : n ∉ ps.map Prod.fst) : putK (dP ps) (Sum.inl (n : Int) : Key) v = dP (ps ++ [(n, v)]) := by
  rw [putK_new v (dP_none h)]
  unfold dP
  rw [List.map_append]
  rfl
theorem dP_len (ps : List (Nat × V)) : (dP ps).length = ps.length := by unfold dP; rw [List.length_map]
abbrev dS (L : List Nat) : List (Nat × V) := L.map fun n => (n, V.bl true)
theorem dS_fst (L : List Nat) : (dS L).map Prod.fst = L := by
  rw [dS, List.map_map]
  exact List.map_id' L
theorem dp_iv {K : PySem.W.Frag} {H : Hp} {p : Addr} {L : List Nat} (h : H p = some (.lst (iv L))) : Dp K H (.ref p) (dz (L.map fun n : Nat => (n : Int))) := dp_iz (by rw [← iv_iz]; exact h)
def IsReach (E : Nat → Nat → Prop) (p : Nat) (R : List Int) : Prop := R.Pairwise (· < ·) ∧ ∀ z, z ∈ R ↔ ∃ x : Nat, z = (x : Int) ∧ Rch E p x
theorem IsReach.unique {E : Nat → Nat → Prop} {p : Nat} {R S : List Int} (h : IsReach E p R) (k : IsReach E p S) : R = S := rising_ext h.1 k.1 fun x => (h.2 x).trans (k.2 x).symm
theorem isReach_of {E : Nat → Nat → Prop} {p : Nat} {L : List Nat} {ys : List Int} (h : RInv E p L []) (hp : ys.Perm (L.map fun n : Nat => (n : Int))) (hs : ys.Pairwise (· ≤ ·)) : IsReach E p ys := by
  have hn : (L.map fun n : Nat => (n : Int)).Nodup := (List.Pairwise.map (R := (· ≠ ·)) _ (fun a b hab z => hab (by omega)) h.nd)
  refine ⟨rising_of hs ((hp.nodup_iff).mpr hn), fun z => ?_⟩
  rw [hp.mem_iff, List.mem_map]
  constructor
  · rintro ⟨x, hx, rfl⟩
    exact ⟨x, rfl, (r_end h x).mp hx⟩
  · rintro ⟨x, rfl, hx⟩
    exact ⟨x, (r_end h x).mpr hx, rfl⟩
theorem rch_lt {ts : List (Nat × Nat)} {W : List Nat} {N u v : Nat} (ho : OkWeb N ts) (e : Edge ts W u v) : v < N := by
  obtain ⟨i, h, _⟩ := e
  exact (ho.ok _ (List.mem_of_getElem? h)).2
theorem snoc_at (L : List Nat) (x : Nat) : (iv (L ++ [x]))[(iv (L ++ [x])).length - 1]? = some (.int (x : Int)) := by
  rw [iv_app, List.length_append, List.length_singleton, Nat.add_sub_cancel, List.getElem?_append_right (Nat.le_refl _), Nat.sub_self]
  rfl
theorem snoc_drop (L : List Nat) (x : Nat) : (iv (L ++ [x])).dropLast = iv L := by
  rw [iv_app, List.dropLast_concat]
section
variable {P : Program} {w : World} {K : PySem.W.Frag} {mg : Str → Option Value} {base : Heap} {C : Addr}
def spreach (_ : PySem.W.Frag) (C : Addr) : Sp := fun vs H Q _ => ∃ a N ts p s W, vs = [.ref a, .int ((p : Nat) : Int), .ref s] ∧ WebAt C a N ts H ∧ OkWeb N ts ∧ p < N ∧ SeqAt H s W ∧ (∀ x ∈ W, x < ts.length) ∧ ∀ H' l R, H l = none → H' l = some (.lst (iz R)) → Same H H' → IsReach (Edge ts W) p R → Q (.ref l) H'
theorem okreach (D : Def K mg "reach" sreach ["web", "place", "without"]) (B : Bs mg) (Glb : Glo mg) (WK : WebK K mg C)
    (hneed_web : Good P w K mg base "need_web" sneed_web ["web"] 3 (spneed_web K C))
    (hneed_place : Good P w K mg base "need_place" sneed_place ["web", "place"] 4 (spneed_place K C))
    (h_need_without : Good P w K mg base "_need_without" s_need_without ["web", "without"] 5 (sp_need_without K C))
    (h_places_to : Good P w K mg base "_places_to" s_places_to ["web", "without"] 3 (sp_places_to K C)) :
    Good P w K mg base "reach" sreach ["web", "place", "without"] 6 (spreach K C) := by
  refine D.good fun f fd F => ?_
  obtain ⟨fneed_web, dneed_web, Oneed_web, mneed_web, kneed_web, bneed_web, Fneed_web⟩ := hneed_web
  obtain ⟨fneed_place, dneed_place, Oneed_place, mneed_place, kneed_place, bneed_place, Fneed_place⟩ := hneed_place
  obtain ⟨f_need_without, d_need_without, O_need_without, m_need_without, k_need_without, b_need_without, F_need_without⟩ := h_need_without
  obtain ⟨f_places_to, d_places_to, O_places_to, m_places_to, k_places_to, b_places_to, F_places_to⟩ := h_places_to
  refine F.ok screach (fun vs H Q E h => ?_) (fun cdv A outer s H vs Q E hr h => ?_)
  · obtain ⟨a, N, ts, p, s, W, rfl, hw, ho, hp, hs, hW, q⟩ := h
    first | rfl | (rcases h with ⟨_, _, rfl, _⟩ | ⟨_, rfl, _⟩ <;> rfl)
  obtain ⟨a, N, ts, p, s, W, rfl, hw, ho, hp, hs, hW, q⟩ := h
  refine ⟨_, (pss_cons (ps_expr (pe_call Oneed_web (hr.mono (by decide)) rfl mneed_web kneed_web bneed_web .nil pass0 (pa_cons (pv 0) pa_nil)))
  (pss_cons (ps_expr (pe_call Oneed_place (hr.mono (by decide)) rfl mneed_place kneed_place bneed_place .nil pass0 (pa_cons (pv 0) (pa_cons (pv 1) pa_nil))))
  (pss_cons (ps_expr (pe_call O_need_without hr rfl m_need_without k_need_without b_need_without .nil pass0 (pa_cons (pv 0) (pa_cons (pv 2) pa_nil))))
  (pss_cons (ps_set (i := 3) screach.nd rfl (by first | exact Or.inl rfl | exact Or.inr rfl) (pe_call O_places_to (hr.mono (by decide)) rfl m_places_to k_places_to b_places_to .nil pass0 (pa_cons (pv 0) (pa_cons (pv 2) pa_nil))))
  (pss_cons (ps_set (i := 4) screach.nd rfl (by first | exact Or.inl rfl | exact Or.inr rfl) (pe_disp (pps_cons (pv 1) pe_bl pps_nil) (by rfl) (by rfl) (fun z => by cases z) (by decide)))
  (pss_cons (ps_set (i := 5) screach.nd rfl (by first | exact Or.inl rfl | exact Or.inr rfl) (pe_lst (pa_cons (pv 1) pa_nil)))
  (pss_cons (ps_while PassesOwn.never (pt_cmpR (op_neD hr.units) (pv 5) (pe_lst pa_nil) (nomark _))
    (pss_cons (ps_set (i := 6) screach.nd rfl (by first | exact Or.inl rfl | exact Or.inr rfl) (pe_bm0 PySem.F.plainAttrs_list PySem.F.slot_list_pop PySem.F.type_list_pop mt_pop (pv 5)))
  (pss_one (ps_for PassesOwn.never rfl (pi_list (pe_ix ix_list (pv 3) (pv 6) (fun _ _ => rfl))) (pg_name (i := 7) screach.nd rfl (by first | exact Or.inl rfl | exact Or.inr rfl))
    (pss_one (ps_if (pt_cmp (pc_dnotin (hu_of hr) (pv 7) (pv 4)))
    (pss_cons (ps_dput (hu_of hr) (pv 4) (pv 7) pe_bl rfl)
  (pss_one (ps_expr (pe_bm PySem.F.plainAttrs_list PySem.F.slot_list_append PySem.F.type_list_append mt_append (pv 5) (pa_cons (pv 7) pa_nil))))) pss_nil))))))
  (pss_one (ps_ret (pe_callB (call_sortedDI rfl) (by rfl) B.sorted (by decide +kernel) (pa_cons (pv 4) pa_nil))))))))))), ?_⟩
  have hN := ho.n1
  have hm := ho.m
  refine ⟨_, rfl, a, N, ts, rfl, hw, _, rfl, _, rfl, a, N, ts, p, rfl, hw, hp, _, rfl, _, rfl, a, N, ts, s, W, rfl, hw, hs, hW, fun H1 hS1 => ?_⟩
  refine ⟨_, rfl, _, rfl, a, N, ts, s, W, rfl, hw.same hS1, ho, hs.same hS1, fun H2 en hS2 hR => ?_⟩
  refine fun sd nsd => ⟨_, rfl, upd_same, [((Sum.inl (p : Int) : Key), V.bl true)], rfl, (by show 1 ≤ 15; decide), ?_⟩
  refine ⟨_, rfl, (by show 1 ≤ sizeLine; decide), fun wl nwl => ?_⟩
  have nsd2 : H2 sd = none := nsd
  have nws : wl ≠ sd := fun z => by rw [z, upd_same] at nwl; cases nwl
  have hm1 : mergeK [] [((Sum.inl (p : Int) : Key), V.bl true)] = dP (dS [p]) := rfl
  rw [hm1] at nwl ⊢
  have eH : upd (upd H2 sd (.dK [])) sd (.dK (dP (dS [p]))) = upd H2 sd (.dK (dP (dS [p]))) := upd_upd
  rw [eH] at nwl ⊢
  have nwl2 : H2 wl = none := by rw [upd_ne nws] at nwl; exact nwl
  have hw2 := (hw.same hS1).same hS2
  have hS02 := hS1.trans hS2
  let Pv : Nat → L2.St → Hp → Prop := fun m σ H' => ∃ (v6 v7 : Option V) (seen waiting : List Nat), σ = [some (.ref a), some (.int (p : Int)), some (.ref s), some (.ref en), some (.ref sd), some (.ref wl), v6, v7] ∧ Same H2 H' ∧ H' sd = some (.dK (dP (dS seen))) ∧ H' wl = some (.lst (iv waiting)) ∧ RInv (Edge ts W) p seen waiting ∧ (∀ x ∈ seen, x < N) ∧ (N - seen.length) + waiting.length = m ∧ m ≤ 60
  refine ⟨Pv, ⟨_, none, none, [p], [p], rfl, same_upd (same_new nsd2 _) nwl2, by rw [upd_ne nws.symm]; exact upd_same, upd_same, r_start p, fun x hx => by rw [List.mem_singleton.mp hx]; exact hp, rfl, by show (N - 1) + 1 ≤ 60; omega⟩, ?_⟩
  rintro m σ H3 ⟨v6, v7, seen, waiting, rfl, hS3, hsd, hwl, hI, hlt, hμ, hm60⟩
  refine ⟨_, rfl, (by decide), fun p0 np0 => ⟨_, _, dp_iv (same_new np0 _ _ _ hwl), dp_iz (L := []) upd_same, shaped_iz _, shaped_iz _, _, rfl, ?_⟩⟩
  have n0s : sd ≠ p0 := ne_of_none hsd np0
  have n0w : wl ≠ p0 := ne_of_none hwl np0
  have hS4 : Same H2 (upd H3 p0 (.lst [])) := fun b o e => same_new np0 _ _ _ (hS3 _ _ e)
  have hsd4 : (upd H3 p0 (.lst [])) sd = some (.dK (dP (dS seen))) := same_new np0 _ _ _ hsd
  have hwl4 : (upd H3 p0 (.lst [])) wl = some (.lst (iv waiting)) := same_new np0 _ _ _ hwl
  generalize upd H3 p0 (.lst []) = H4 at hS4 hsd4 hwl4
  rw [eqv_empty]
  rcases List.eq_nil_or_concat waiting with rfl | ⟨rest, here, rfl⟩
  · refine iteNot' (by rfl) ?_
    refine ⟨_, rfl, sd, _, seen.map fun n : Nat => (n : Int), rfl, .inl hsd4, ?_, ?_, fun ys l hperm hsort nl => ?_⟩
    · unfold dP
      rw [List.map_map, List.map_map, List.map_map]
      rfl
    · rw [List.length_map]
      have := few hI.nd hlt
      omega
    · exact q _ l ys (hS02.free (hS4.free nl)) upd_same (fun b o e => same_new nl _ _ _ (hS4 _ _ (hS02 _ _ e))) (isReach_of hI hperm hsort)
  · rw [List.concat_eq_append] at *
    refine iteNot (by simp) ?_
    have hin : here ∈ seen := hI.sub here (by simp)
    have hhere := hlt _ hin
    obtain ⟨x, xs, e1, e2, e3⟩ := (hR.same hS4).get hhere
    refine ⟨fun σ' H' => ∃ m', m' < m ∧ Pv m' σ' H', fun σ' H' h => h, ?_⟩
    refine ⟨_, rfl, .inl ⟨rfl, _, SqL.of hwl4⟩, wl, _, _, rfl, rfl, hwl4, snoc_at _ _, ?_⟩
    rw [snoc_drop]
    generalize e5 : upd H4 wl (.lst (iv rest)) = H5
    have hS5 : Same H2 H5 := by rw [← e5]; exact same_upd hS4 nwl2
    have hsd5 : H5 sd = some (.dK (dP (dS seen))) := by rw [← e5, upd_ne nws.symm]; exact hsd4
    have hwl5 : H5 wl = some (.lst (iv rest)) := by rw [← e5]; exact upd_same
    obtain ⟨x, xs, e1, e2, e3⟩ := hR.get hhere
    refine ⟨_, rfl, _, rfl, _, _, _, .ref x, rfl, rfl, SqL.of (hS5 _ _ e1), e2, x, rfl, ⟨_, SqL.of (hS5 _ _ e3)⟩, ?_⟩
    refine for_list (K := K) (a := x) (xs := iv (outs ts W here)) (fun i σ H' => ∃ (v7 : Option V) (seen waiting : List Nat), σ = [some (.ref a), some (.int (p : Int)), some (.ref s), some (.ref en), some (.ref sd), some (.ref wl), some (.int (here : Int)), v7] ∧ Same H2 H' ∧ H' sd = some (.dK (dP (dS seen))) ∧ H' wl = some (.lst (iv waiting)) ∧ RMid (Edge ts W) p here (fun v => v ∈ (outs ts W here).take i) seen waiting ∧ (∀ x ∈ seen, x < N) ∧ (N - seen.length) + waiting.length + 1 = m) ?_ ?_ ?_ ?_
    · refine ⟨v7, seen, rest, rfl, hS5, hsd5, hwl5, r_old (r_pop hI) (fun x hx => by simp at hx), hlt, ?_⟩
      rw [List.length_append, List.length_singleton] at hμ
      omega
    · rintro i σ H' hi ⟨_, _, _, rfl, hS', _⟩
      exact SqL.of (hS' _ _ e3)
    · rintro i y σ H6 hy ⟨w7, seen', waiting', rfl, hS6, hsd6, hwl6, hM, hlt', hμ'⟩
      rw [List.getElem?_map] at hy
      obtain ⟨v, hv, rfl⟩ : ∃ v, (outs ts W here)[i]? = some v ∧ y = V.int (v : Int) := by
        cases e : (outs ts W here)[i]? with
        | none => rw [e] at hy; cases hy
        | some v => rw [e] at hy; exact ⟨v, rfl, (Option.some.inj hy).symm⟩
      have hE : Edge ts W here v := outs_mem.mp (List.mem_of_getElem? hv)
      have hvN := rch_lt ho hE
      have htk : (outs ts W here).take (i + 1) = (outs ts W here).take i ++ [v] := by rw [List.take_succ, hv]; rfl
      refine ⟨_, rfl, _, rfl, sd, _, rfl, DGet.k (k := Sum.inl (v : Int)) hsd6, _, rfl, ?_⟩
      rw [dP_isSome, dS_fst]
      by_cases c : v ∈ seen'
      · refine iteNot' c ⟨_, seen', waiting', rfl, hS6, hsd6, hwl6, r_old hM (fun z hz => ?_), hlt', hμ'⟩
        rw [htk] at hz
        rcases List.mem_append.mp hz with h | h
        · exact .inl h
        · rw [List.mem_singleton.mp h]; exact .inr c
      · refine iteNot c ?_
        have c2 : v ∉ (dS seen').map Prod.fst := by rw [dS_fst]; exact c
        have hfew := few hM.nd hlt'
        have hfew2 : (seen' ++ [v]).length ≤ N := few (by rw [List.nodup_append]; exact ⟨hM.nd, by simp, fun p hp q hq => by rw [List.mem_singleton.mp hq]; rintro rfl; exact c hp⟩) (fun z hz => by
          rcases List.mem_append.mp hz with h | h
          · exact hlt' z h
          · rw [List.mem_singleton.mp h]; exact hvN)
        rw [List.length_append, List.length_singleton] at hfew2
        refine ⟨_, rfl, _, rfl, sd, _, rfl, DPut.k (k := Sum.inl (v : Int)) hsd6 (by rw [dP_len, List.length_map]; exact Nat.lt_of_le_of_lt hfew (Nat.lt_of_le_of_lt hN (by decide))), ?_⟩
        rw [dP_new _ c2]
        have hwl7 : upd H6 sd (.dK (dP (dS seen' ++ [(v, V.bl true)]))) wl = some (.lst (iv waiting')) := by rw [upd_ne nws]; exact hwl6
        refine ⟨_, rfl, .inl ⟨rfl, _, SqL.of hwl7⟩, _, rfl, wl, _, _, rfl, rfl, hwl7, ?_, ?_⟩
        · rw [List.length_map]
          exact Nat.lt_of_le_of_lt (by omega : waiting'.length ≤ 60) (by decide)
        refine ⟨_, seen' ++ [v], waiting' ++ [v], rfl, same_upd (same_upd hS6 nsd2) nwl2, ?_, ?_, r_new hM hE c (fun z hz => ?_), fun z hz => ?_, ?_⟩
        · rw [upd_ne nws.symm, upd_same]
          unfold dS
          rw [List.map_append]
          rfl
        · rw [upd_same, iv_app]
        · rw [htk] at hz
          rcases List.mem_append.mp hz with h | h
          · exact .inl h
          · exact .inr (List.mem_singleton.mp h)
        · rcases List.mem_append.mp hz with h | h
          · exact hlt' z h
          · rw [List.mem_singleton.mp h]; exact hvN
        · rw [List.length_append, List.length_append, List.length_singleton]
          omega
    · rintro σ H6 ⟨w7, seen', waiting', rfl, hS6, hsd6, hwl6, hM, hlt', hμ'⟩
      refine ⟨_, by rw [← hμ']; exact Nat.lt_succ_self _, _, _, seen', waiting', rfl, hS6, hsd6, hwl6, r_done hM (fun v hv => ?_), hlt', rfl, by omega⟩
      rw [List.length_map, List.take_length]
      exact outs_mem.mpr hv
end
end My
namespace My
open PySem L2 PyProof.Rows
def PotOk (x y : Int) : Prop := 0 ≤ x ∧ 0 ≤ y ∧ y < 2147483648
def PotAt (H : Hp) (a : Addr) : Prop := ∃ x y : Int, H a = some (.lst [.int x, .int y]) ∧ PotOk x y
theorem PotAt.new {H : Hp} {a p : Addr} {o : HO} (h : PotAt H a) (np : H p = none) : PotAt (upd H p o) a := by
  obtain ⟨x, y, e, h⟩ := h
  exact ⟨x, y, by rw [upd_ne (ne_of_none e np)]; exact e, h⟩
theorem PotAt.put {H : Hp} {a p : Addr} {o : HO} (h : PotAt H a) (np : p ≠ a) : PotAt (upd H p o) a := by
  obtain ⟨x, y, e, h⟩ := h
  exact ⟨x, y, by rw [upd_ne np.symm]; exact e, h⟩
theorem PotAt.same {H H' : Hp} {a : Addr} (h : PotAt H a) (s : Same H H') : PotAt H' a := by
  obtain ⟨x, y, e, h⟩ := h
  exact ⟨x, y, s _ _ e, h⟩
theorem PotAt.ne {H : Hp} {a p : Addr} (h : PotAt H a) (np : H p = none) : p ≠ a := by
  obtain ⟨x, y, e, h⟩ := h
  exact (ne_of_none e np).symm
theorem PotAt.ntup {H : Hp} {a p : Addr} {xs : List V} (h : PotAt H a) (hp : H p = some (.tup xs)) : p ≠ a := by
  obtain ⟨x, y, e, h⟩ := h
  exact ne_of hp e (by intro q; cases q)
theorem Kept.new {H H' : Hp} {a p : Addr} {o : HO} (h : Kept a H H') (np : H' p = none) : Kept a H (upd H' p o) := h.trans (Same.kept (same_new np o))
theorem Kept.put {H H' : Hp} {a p : Addr} {o : HO} (h : Kept a H H') (np : H p = none) : Kept a H (upd H' p o) := fun b u e n => by
  rw [upd_ne (ne_of_none e np)]
  exact h b u e n
theorem TiesAt.kept {H H' : Hp} {a t : Addr} {ts : List (Nat × Nat)} (h : TiesAt H t ts) (k : Kept a H H') (hp : PotAt H a) (hn : t ≠ a) : TiesAt H' t ts := by
  obtain ⟨tas, h1, h2⟩ := h
  exact ⟨tas, k _ _ h1 hn, paired_mono (fun p e hq => k _ _ hq (hp.ntup hq)) h2⟩
theorem paired_app {α β : Type} {F : α → β → Prop} {a : α} {b : β} : ∀ {l1 : List α} {l2 : List β}, Paired F l1 l2 → F a b → Paired F (l1 ++ [a]) (l2 ++ [b])
  | _, _, .nil, h => .cons h .nil
  | _, _, .cons r t, h => .cons r (paired_app t h)
theorem paired_apps {α β : Type} {F : α → β → Prop} : ∀ {l1 m1 : List α} {l2 m2 : List β}, Paired F l1 l2 → Paired F m1 m2 → Paired F (l1 ++ m1) (l2 ++ m2)
  | _, _, _, _, .nil, h => h
  | _, _, _, _, .cons r t, h => .cons r (paired_apps t h)
theorem paired_rev {α β : Type} {F : α → β → Prop} : ∀ {l1 : List α} {l2 : List β}, Paired F l1 l2 → Paired F l1.reverse l2.reverse
  | _, _, .nil => .nil
  | _, _, .cons r t => by
    rw [List.reverse_cons, List.reverse_cons]
    exact paired_app (paired_rev t) r
theorem TiesAt.push {H : Hp} {p tp : Addr} {ts : List (Nat × Nat)} {u v : Nat} (h : TiesAt H p ts) (nt : H tp = none) :
    ∃ xs, (upd H tp (.tup [.int (u : Int), .int (v : Int)])) p = some (.lst xs) ∧ xs.length = ts.length ∧ TiesAt (upd (upd H tp (.tup [.int (u : Int), .int (v : Int)])) p (.lst (xs ++ [.ref tp]))) p (ts ++ [(u, v)]) := by
  obtain ⟨tas, h1, h2⟩ := h
  have npt : p ≠ tp := ne_of_none h1 nt
  refine ⟨tas.map V.ref, by rw [upd_ne npt]; exact h1, by rw [List.length_map]; exact paired_len h2, tas ++ [tp], by rw [upd_same, List.map_append]; rfl, paired_app (paired_mono (fun q e hq => ?_) h2) ?_⟩
  · have nqp : q ≠ p := ne_of hq h1 (by intro z; cases z)
    show upd _ _ _ q = _
    rw [upd_ne nqp, upd_ne (ne_of_none hq nt)]
    exact hq
  · show upd _ _ _ tp = _
    rw [upd_ne npt.symm, upd_same]
theorem TiesAt.pushV {H : Hp} {p tp : Addr} {ts : List (Nat × Nat)} {u v : Nat} {x y : V} (hx : x = .int (u : Int)) (hy : y = .int (v : Int)) (h : TiesAt H p ts) (nt : H tp = none) :
    ∃ xs, (upd H tp (.tup [x, y])) p = some (.lst xs) ∧ xs.length = ts.length ∧ TiesAt (upd (upd H tp (.tup [x, y])) p (.lst (xs ++ [.ref tp]))) p (ts ++ [(u, v)]) := by
  subst hx hy
  exact h.push nt
theorem TiesAt.nil {H : Hp} {p : Addr} : TiesAt (upd H p (.lst [])) p [] := ⟨[], upd_same, .nil⟩
theorem TiesAt.cat {H : Hp} {l m p : Addr} {ts us : List (Nat × Nat)} (h : TiesAt H l ts) (k : TiesAt H m us) (np : H p = none) : ∃ xs zs, H l = some (.lst xs) ∧ H m = some (.lst zs) ∧ xs.length = ts.length ∧ zs.length = us.length ∧ TiesAt (upd H p (.lst (xs ++ zs))) p (ts ++ us) := by
  obtain ⟨tas, h1, h2⟩ := h
  obtain ⟨uas, k1, k2⟩ := k
  refine ⟨_, _, h1, k1, by rw [List.length_map]; exact paired_len h2, by rw [List.length_map]; exact paired_len k2, tas ++ uas, by rw [upd_same, List.map_append], paired_mono (fun q e hq => ?_) (paired_apps h2 k2)⟩
  exact same_new np _ _ _ hq
theorem TiesAt.get {H : Hp} {l : Addr} {ts : List (Nat × Nat)} (h : TiesAt H l ts) : ∃ xs, H l = some (.lst xs) ∧ xs.length = ts.length := by
  obtain ⟨tas, h1, h2⟩ := h
  exact ⟨_, h1, by rw [List.length_map]; exact paired_len h2⟩
section
variable {P : Program} {w : World} {K : PySem.W.Frag} {mg : Str → Option Value} {base : Heap} {C : Addr}
def sp_law_pot (K : PySem.W.Frag) (_ : Addr) : Sp := fun vs H Q _ => ∃ a, ∃ ns : List Int, vs = [.ref a, .int 0] ∧ SqL K H a (ns.map V.int) ∧ ∀ p H', PotAt H' p → Same H H' → H p = none → Q (.ref p) H'
theorem ok_law_pot (D : Def K mg "_law_pot" s_law_pot ["_law_script", "_law_k"]) (B : Bs mg) (Glb : Glo mg) (WK : WebK K mg C) :
    Good P w K mg base "_law_pot" s_law_pot ["_law_script", "_law_k"] 1 (sp_law_pot K C) := by
  refine D.good fun f fd F => ?_
  refine F.ok sc_law_pot (fun vs H Q E h => ?_) (fun cdv A outer s H vs Q E hr h => ?_)
  · obtain ⟨a, ns, rfl, hS, q⟩ := h
    first | rfl | (rcases h with ⟨_, _, rfl, _⟩ | ⟨_, rfl, _⟩ <;> rfl)
  obtain ⟨a, ns, rfl, hS, q⟩ := h
  refine ⟨_, (pss_cons (ps_set (i := 2) sc_law_pot.nd rfl (by first | exact Or.inl rfl | exact Or.inr rfl) (pe_ifExp (pt_cmpR op_lt (pv 1) (pe_callB call_len_seq (by rfl) B.len (by decide +kernel) (pa_cons (pv 0) pa_nil)) (nomark _)) (pe_callB call_abs (by rfl) B.abs (by decide +kernel) (pa_cons (pe_ix ix_list (pv 0) (pv 1) (fun _ _ => rfl)) pa_nil)) (pe_op op_add (pe_op op_mul pe_int (pv 1)) pe_int)))
  (pss_cons (ps_set (i := 3) sc_law_pot.nd rfl (by first | exact Or.inl rfl | exact Or.inr rfl) (pe_op op_add (pe_op op_mod (pe_callTy call_int1 (by rfl) B.int (by decide +kernel) (pa_cons (pe_op op_add (pe_op op_add (pe_op op_mul (pe_op op_mod (pe_callTy call_int1 (by rfl) B.int (by decide +kernel) (pa_cons (pv 2) pa_nil)) pe_int) pe_int) (pe_op op_mul pe_int (pv 1))) pe_int) pa_nil)) pe_int) pe_int))
  (pss_one (ps_ret (pe_lst (pa_cons (pe_callB (call_max2 rfl) (by rfl) B.max (by decide +kernel) (pa_cons pe_int (pa_cons (pe_op op_sub (pv 2) (pe_op op_pow pe_int pe_int)) pa_nil))) (pa_cons (pv 3) pa_nil))))))), ?_⟩
  refine ⟨_, rfl, _, rfl, _, _, rfl, .inl hS, _, _, rfl, rfl, _, rfl, ?_⟩
  refine ite2 (fun c1 => ?pos) (fun c1 => ?neg)
  case' pos =>
    obtain ⟨n, rest, rfl⟩ : ∃ n rest, ns = n :: rest := by
      cases ns with
      | nil => exact absurd (of_decide_eq_true c1) (by decide)
      | cons n rest => exact ⟨n, rest, rfl⟩
    refine ⟨_, rfl, _, rfl, _, _, _, .int n, rfl, rfl, hS, atI_nat (j := 0) rfl, _, rfl, ?_⟩
    have hz0 : (0 : Int) ≤ (if n < 0 then -n else n) := by split <;> omega
  case' neg =>
    refine ⟨_, rfl, _, _, rfl, rfl, .inl ⟨by decide, by decide⟩, _, _, rfl, rfl, ?_⟩
    have hz0 : (0 : Int) ≤ (929 * 0 + 587) := by decide
  all_goals
    refine ⟨_, rfl, .inl ⟨_, rfl, _, _, rfl, rfl, (by show (0 : Int) < 2147483549; decide), _, _, rfl, rfl, .inl ⟨?_, ?_⟩, _, rfl, _, _, rfl, rfl, .inl ⟨by decide, by decide⟩, _, _, rfl, rfl, _, _, rfl, rfl, .inl ⟨_, rfl, _, _, rfl, rfl, (by show (0 : Int) < 2147483563; decide), _, _, rfl, rfl, ?_⟩⟩⟩
    · omega
    · omega
    refine ⟨_, rfl, _, _, rfl, rfl, ⟨by decide, by decide, by decide⟩, _, _, rfl, rfl, _, _, rfl, _, rfl, (by show 2 ≤ sizeLine; decide), fun p np => q p _ ⟨_, _, upd_same, ?_, ?_, ?_⟩ (same_new np _) np⟩
    · split <;> omega
    · omega
    · omega
def sp_law_draw (_ : PySem.W.Frag) (_ : Addr) : Sp := fun vs H Q _ => ∃ a n, vs = [.ref a, .int ((n : Nat) : Int)] ∧ PotAt H a ∧ 0 < n ∧ n ≤ 1000 ∧ ∀ (d : Nat) H', d < n → Kept a H H' → PotAt H' a → Q (.int (d : Int)) H'
theorem ok_law_draw (D : Def K mg "_law_draw" s_law_draw ["_law_pot_here", "_law_many"]) (B : Bs mg) (Glb : Glo mg) (WK : WebK K mg C) :
    Good P w K mg base "_law_draw" s_law_draw ["_law_pot_here", "_law_many"] 1 (sp_law_draw K C) := by
  refine D.good fun f fd F => ?_
  refine F.ok sc_law_draw (fun vs H Q E h => ?_) (fun cdv A outer s H vs Q E hr h => ?_)
  · obtain ⟨a, n, rfl, ⟨x, y, ha, hx, hy, hy2⟩, hn, hn2, q⟩ := h
    first | rfl | (rcases h with ⟨_, _, rfl, _⟩ | ⟨_, rfl, _⟩ <;> rfl)
  obtain ⟨a, n, rfl, ⟨x, y, ha, hx, hy, hy2⟩, hn, hn2, q⟩ := h
  refine ⟨_, (pss_cons (ps_if (pt_cmpR op_gt (pe_ix ix_list (pv 0) pe_int (fun _ _ => rfl)) pe_int (nomark _))
    (pss_cons (ps_asg (pe_callB call_divmod (by rfl) B.divmod (by decide +kernel) (pa_cons (pe_ix ix_list (pv 0) pe_int (fun _ _ => rfl)) (pa_cons (pv 1) pa_nil))) (pg_tup rfl (pgs_cons (pg_sub (pv 0) pe_int set_list) (pgs_cons (pg_name (i := 2) sc_law_draw.nd rfl (by first | exact Or.inl rfl | exact Or.inr rfl)) pgs_nil))))
  (pss_one (ps_ret (pv 2)))) pss_nil)
  (pss_cons (ps_asg (pe_op op_mod (pe_callTy call_int1 (by rfl) B.int (by decide +kernel) (pa_cons (pe_op op_mul (pe_ix ix_list (pv 0) pe_int (fun _ _ => rfl)) pe_int) pa_nil)) pe_int) (pg_sub (pv 0) pe_int set_list))
  (pss_one (ps_ret (pe_op op_mod (pe_callTy call_int1 (by rfl) B.int (by decide +kernel) (pa_cons (pe_op op_fdiv (pe_ix ix_list (pv 0) pe_int (fun _ _ => rfl)) pe_int) pa_nil)) (pv 1)))))), ?_⟩
  refine ⟨_, rfl, _, _, _, .int x, rfl, rfl, SqL.of ha, rfl, _, _, rfl, rfl, _, rfl, ?_⟩
  refine ite2 (fun c1 => ?_) (fun c1 => ?_)
  · have hpos : (0 : Int) < x := of_decide_eq_true c1
    refine ⟨_, rfl, _, _, _, .int x, rfl, rfl, SqL.of ha, rfl, _, rfl, _, _, rfl, ⟨by omega, by omega⟩, fun p np => ?_⟩
    have hpa : a ≠ p := ne_of_none ha np
    have ha' : (upd H p (.tup [.int (x / (n : Int)), .int (x % (n : Int))])) a = some (.lst [.int x, .int y]) := by
      rw [upd_ne hpa]
      exact ha
    have ed : (((x % (n : Int)).toNat : Nat) : Int) = x % (n : Int) := Int.toNat_of_nonneg (Int.emod_nonneg _ (by omega))
    have el := Int.emod_lt_of_pos x (show (0 : Int) < (n : Int) by omega)
    refine ⟨_, _, rfl, SqT.of upd_same, rfl, _, _, rfl, _, rfl, _, _, _, 0, rfl, rfl, ha', rfl, _, _, rfl, rfl, ?_⟩
    refine ⟨_, rfl, ?_⟩
    have := q (x % (n : Int)).toNat (upd (upd H p (.tup [.int (x / (n : Int)), .int (x % (n : Int))])) a (.lst [.int (x / (n : Int)), .int y])) (by omega) (fun b o e nb => by rw [upd_ne nb, upd_ne (ne_of_none e np)]; exact e)
      ⟨_, _, upd_same, Int.ediv_nonneg hx (by omega), hy, hy2⟩
    rw [ed] at this
    exact this
  · refine ⟨_, rfl, _, _, _, .int y, rfl, rfl, SqL.of ha, rfl, _, _, rfl, rfl, .inl ⟨by omega, by omega⟩, .inl ⟨_, rfl, _, _, rfl, rfl, (by show (0 : Int) < 2147483647; decide), _, rfl, _, _, _, 1, rfl, rfl, ha, rfl, ?_⟩⟩
    have hz0 : (0 : Int) ≤ (y * 16807) % 2147483647 := by omega
    have hz1 : (y * 16807) % 2147483647 < (2147483647 : Int) := by omega
    have fin : ∀ z : Int, 0 ≤ z → z < 2147483647 → Q (V.int (z / 13 % (n : Int))) (upd H a (.lst [.int x, .int z])) := fun z hz0 hz1 => by
      have ed : (((z / 13 % (n : Int)).toNat : Nat) : Int) = z / 13 % (n : Int) := Int.toNat_of_nonneg (Int.emod_nonneg _ (by omega))
      have el := Int.emod_lt_of_pos (z / 13) (show (0 : Int) < (n : Int) by omega)
      have := q (z / 13 % (n : Int)).toNat (upd H a (.lst [.int x, .int z])) (by omega) (fun b o e nb => by rw [upd_ne nb]; exact e) ⟨_, _, upd_same, hx, hz0, by omega⟩
      rw [ed] at this
      exact this
    refine ⟨_, rfl, _, _, _, .int ((y * 16807) % 2147483647), rfl, rfl, SqL.of upd_same, rfl, _, _, rfl, rfl, ⟨by decide, by decide⟩, .inl ⟨_, rfl, _, rfl, _, _, rfl, rfl, (by show (0 : Int) < (n : Int); omega), ?_⟩⟩
    exact fin _ hz0 hz1
def sp_law_ties (_ : PySem.W.Frag) (_ : Addr) : Sp := fun vs H Q _ => ∃ a N m, vs = [.ref a, .int ((N : Nat) : Int), .int ((m : Nat) : Int)] ∧ PotAt H a ∧ 0 < N ∧ N ≤ 1000 ∧ m ≤ 20 ∧ ∀ l ts H', ts.length ≤ m → (∀ e ∈ ts, e.1 < N ∧ e.2 < N) → Kept a H H' → PotAt H' a → H l = none → TiesAt H' l ts → Q (.ref l) H'
theorem ok_law_ties (D : Def K mg "_law_ties" s_law_ties ["_law_pot_here", "_law_places", "_law_most"]) (B : Bs mg) (Glb : Glo mg) (WK : WebK K mg C)
    (h_law_draw : Good P w K mg base "_law_draw" s_law_draw ["_law_pot_here", "_law_many"] 1 (sp_law_draw K C)) :
    Good P w K mg base "_law_ties" s_law_ties ["_law_pot_here", "_law_places", "_law_most"] 2 (sp_law_ties K C) := by
  refine D.good fun f fd F => ?_
  obtain ⟨f_law_draw, d_law_draw, O_law_draw, m_law_draw, k_law_draw, b_law_draw, F_law_draw⟩ := h_law_draw
  refine F.ok sc_law_ties (fun vs H Q E h => ?_) (fun cdv A outer s H vs Q E hr h => ?_)
  · obtain ⟨a, N, m, rfl, hp, hN, hN2, hm, q⟩ := h
    first | rfl | (rcases h with ⟨_, _, rfl, _⟩ | ⟨_, rfl, _⟩ <;> rfl)
  obtain ⟨a, N, m, rfl, hp, hN, hN2, hm, q⟩ := h
  refine ⟨_, (pss_cons (ps_set (i := 3) sc_law_ties.nd rfl (by first | exact Or.inl rfl | exact Or.inr rfl) (pe_lst pa_nil))
  (pss_cons (ps_for PassesOwn.never rfl (pi_range1 (by rfl) B.range (pa_cons (pe_call O_law_draw hr rfl m_law_draw k_law_draw b_law_draw .nil pass0 (pa_cons (pv 0) (pa_cons (pe_op op_add (pv 2) pe_int) pa_nil))) pa_nil)) (pg_name (i := 4) sc_law_ties.nd rfl (by first | exact Or.inl rfl | exact Or.inr rfl))
    (pss_one (ps_expr (pe_bm PySem.F.plainAttrs_list PySem.F.slot_list_append PySem.F.type_list_append mt_append (pv 3) (pa_cons (pe_tup (pa_cons (pe_call O_law_draw hr rfl m_law_draw k_law_draw b_law_draw .nil pass0 (pa_cons (pv 0) (pa_cons (pv 1) pa_nil))) (pa_cons (pe_call O_law_draw hr rfl m_law_draw k_law_draw b_law_draw .nil pass0 (pa_cons (pv 0) (pa_cons (pv 1) pa_nil))) pa_nil))) pa_nil)))))
  (pss_one (ps_ret (pv 3))))), ?_⟩
  refine ⟨Nat.zero_le _, fun l nl => ?_⟩
  refine ⟨_, rfl, _, rfl, _, _, rfl, rfl, a, m + 1, rfl, hp.new nl, by omega, by omega, fun d H1 hd hk1 hp1 => ⟨_, rfl, by omega, by omega, ?_⟩⟩
  have hla : l ≠ a := hp.ne nl
  refine for_range (lo := 0) (n := d) (fun i σ H' => ∃ (v : Option V) (ts : List (Nat × Nat)), σ = [some (.ref a), some (.int (N : Int)), some (.int (m : Int)), some (.ref l), v] ∧ ts.length = i ∧ (∀ e ∈ ts, e.1 < N ∧ e.2 < N) ∧ Kept a H H' ∧ PotAt H' a ∧ TiesAt H' l ts) ?_ ?_ ?_
  · exact ⟨none, [], rfl, rfl, by simp, (Same.kept (same_new nl _)).trans hk1, hp1, TiesAt.nil.kept hk1 (hp.new nl) hla⟩
  · rintro i σ H2 hi ⟨v, ts, rfl, hlen, hts, hk, hpp, hT⟩
    refine ⟨_, rfl, ?_⟩
    obtain ⟨xs0, hxs0, _⟩ := hT.get
    refine ⟨.inl ⟨rfl, _, SqL.of hxs0⟩, _, rfl, _, rfl, a, N, rfl, hpp, hN, hN2, fun u H3 hu hk3 hp3 => ⟨_, rfl, _, rfl, a, N, rfl, hp3, hN, hN2, fun x H4 hx hk4 hp4 => ⟨(by show 2 ≤ sizeLine; decide), fun tp ntp => ?_⟩⟩⟩
    have hT4 := (hT.kept hk3 hpp hla).kept hk4 hp3 hla
    obtain ⟨xs, g1, g2, g3⟩ := hT4.push (u := u) (v := x) ntp
    refine ⟨l, _, _, rfl, rfl, g1, by rw [g2, hlen]; exact Nat.lt_of_le_of_lt (by omega : i ≤ 100) (by decide), ?_⟩
    refine ⟨_, ts ++ [(u, x)], rfl, by rw [List.length_append, hlen]; rfl, fun e he => ?_, (((hk.trans hk3).trans hk4).new ntp).put nl, (hp4.new ntp).put hla, g3⟩
    rcases List.mem_append.mp he with h | h
    · exact hts e h
    · rw [List.mem_singleton.mp h]; exact ⟨hu, hx⟩
  · rintro σ H2 ⟨v, ts, rfl, hlen, hts, hk, hpp, hT⟩
    exact ⟨_, rfl, q l ts H2 (by omega) hts hk hpp nl hT⟩
def sp_law_ring (_ : PySem.W.Frag) (_ : Addr) : Sp := fun vs H Q _ => ∃ f m, vs = [.int ((f : Nat) : Int), .int ((m : Nat) : Int)] ∧ 0 < m ∧ m ≤ 20 ∧ ∀ l ts H', ts.length = m → (∀ e ∈ ts, e.1 < f + m ∧ e.2 < f + m) → Same H H' → H l = none → TiesAt H' l ts → Q (.ref l) H'
theorem ok_law_ring (D : Def K mg "_law_ring" s_law_ring ["_law_first", "_law_many"]) (B : Bs mg) (Glb : Glo mg) (WK : WebK K mg C) :
    Good P w K mg base "_law_ring" s_law_ring ["_law_first", "_law_many"] 1 (sp_law_ring K C) := by
  refine D.good fun f fd F => ?_
  refine F.ok sc_law_ring (fun vs H Q E h => ?_) (fun cdv A outer s H vs Q E hr h => ?_)
  · obtain ⟨f, m, rfl, hm, hm2, q⟩ := h
    first | rfl | (rcases h with ⟨_, _, rfl, _⟩ | ⟨_, rfl, _⟩ <;> rfl)
  obtain ⟨f, m, rfl, hm, hm2, q⟩ := h
  refine ⟨_, (pss_cons (ps_set (i := 2) sc_law_ring.nd rfl (by first | exact Or.inl rfl | exact Or.inr rfl) (pe_lst pa_nil))
  (pss_cons (ps_for PassesOwn.never rfl (pi_range1 (by rfl) B.range (pa_cons (pv 1) pa_nil)) (pg_name (i := 3) sc_law_ring.nd rfl (by first | exact Or.inl rfl | exact Or.inr rfl))
    (pss_one (ps_expr (pe_bm PySem.F.plainAttrs_list PySem.F.slot_list_append PySem.F.type_list_append mt_append (pv 2) (pa_cons (pe_tup (pa_cons (pe_op op_add (pv 0) (pv 3)) (pa_cons (pe_op op_add (pv 0) (pe_op op_mod (pe_op op_add (pv 3) pe_int) (pv 1))) pa_nil))) pa_nil)))))
  (pss_one (ps_ret (pv 2))))), ?_⟩
  refine ⟨Nat.zero_le _, fun l nl => ?_⟩
  refine ⟨_, rfl, _, rfl, by omega, by omega, ?_⟩
  refine for_range (lo := 0) (n := m) (fun i σ H' => ∃ (v : Option V) (ts : List (Nat × Nat)), σ = [some (.int (f : Int)), some (.int (m : Int)), some (.ref l), v] ∧ ts.length = i ∧ (∀ e ∈ ts, e.1 < f + m ∧ e.2 < f + m) ∧ Same H H' ∧ TiesAt H' l ts) ?_ ?_ ?_
  · exact ⟨none, [], rfl, rfl, by simp, same_new nl _, TiesAt.nil⟩
  · rintro i σ H2 hi ⟨v, ts, rfl, hlen, hts, hk, hT⟩
    obtain ⟨xs0, hxs0, _⟩ := hT.get
    have e1 : (f : Int) + (0 + (i : Int)) = ((f + i : Nat) : Int) := by omega
    have e2 : (f : Int) + ((0 + (i : Int)) + 1) % (m : Int) = ((f + (i + 1) % m : Nat) : Int) := by
      rw [show (0 : Int) + (i : Int) + 1 = ((i + 1 : Nat) : Int) by omega]
      rfl
    refine ⟨_, rfl, .inl ⟨rfl, _, SqL.of hxs0⟩, _, rfl, _, rfl, _, _, rfl, rfl, _, rfl, _, rfl, _, _, rfl, rfl, _, rfl, _, _, rfl, rfl, (by show (0 : Int) < (m : Int); omega), _, _, rfl, rfl, (by show 2 ≤ sizeLine; decide), fun tp ntp => ?_⟩
    obtain ⟨xs, g1, g2, g3⟩ := hT.pushV (congrArg V.int e1) (congrArg V.int e2) ntp
    refine ⟨l, _, _, rfl, rfl, g1, by rw [g2, hlen]; exact Nat.lt_of_le_of_lt (by omega : i ≤ 100) (by decide), ?_⟩
    refine ⟨_, ts ++ [(f + i, f + (i + 1) % m)], rfl, by rw [List.length_append, hlen]; rfl, fun e he => ?_, same_upd (fun b o z => same_new ntp _ _ _ (hk _ _ z)) nl, g3⟩
    rcases List.mem_append.mp he with h | h
    · exact hts e h
    · rw [List.mem_singleton.mp h]
      have := Nat.mod_lt (i + 1) hm
      exact ⟨by show f + i < f + m; omega, by show f + (i + 1) % m < f + m; omega⟩
  · rintro σ H2 ⟨v, ts, rfl, hlen, hts, hk, hT⟩
    exact ⟨_, rfl, q l ts H2 hlen hts hk nl hT⟩
end
end My
namespace My
open PySem L2 PyProof.Rows
theorem TiesAt.new {H : Hp} {l p : Addr} {ts : List (Nat × Nat)} {o : HO} (h : TiesAt H l ts) (np : H p = none) : TiesAt (upd H p o) l ts := h.same (same_new np o)
theorem TiesAt.rev {H : Hp} {l p : Addr} {ts : List (Nat × Nat)} (h : TiesAt H l ts) (np : H p = none) : ∃ xs, H l = some (.lst xs) ∧ TiesAt (upd H p (.lst xs.reverse)) p ts.reverse := by
  obtain ⟨tas, h1, h2⟩ := h
  refine ⟨_, h1, tas.reverse, by rw [upd_same, List.map_reverse], paired_mono (fun q e hq => same_new np _ _ _ hq) (paired_rev h2)⟩
theorem TiesAt.catOne {H : Hp} {l p : Addr} {ts : List (Nat × Nat)} {tp : Addr} {u v : Nat} (h : TiesAt H l ts) (ht : H tp = some (.tup [.int (u : Int), .int (v : Int)])) (np : H p = none) :
    ∃ xs, H l = some (.lst xs) ∧ xs.length = ts.length ∧ TiesAt (upd H p (.lst (xs ++ [.ref tp]))) p (ts ++ [(u, v)]) := by
  obtain ⟨tas, h1, h2⟩ := h
  refine ⟨_, h1, by rw [List.length_map]; exact paired_len h2, tas ++ [tp], by rw [upd_same, List.map_append]; rfl, paired_app (paired_mono (fun q e hq => same_new np _ _ _ hq) h2) (same_new np _ _ _ ht)⟩
theorem Kept.free {a p : Addr} {H H' : Hp} (h : Kept a H H') (hn : H' p = none) (np : p ≠ a) : H p = none := by
  cases e : H p with
  | none => rfl
  | some o =>
    have := h p o e np
    rw [hn] at this
    cases this
theorem ok_app {N : Nat} {ts us : List (Nat × Nat)} (h : ∀ e ∈ ts, e.1 < N ∧ e.2 < N) (k : ∀ e ∈ us, e.1 < N ∧ e.2 < N) : ∀ e ∈ ts ++ us, e.1 < N ∧ e.2 < N := fun e he => (List.mem_append.mp he).elim (h e) (k e)
theorem ok_one {N u v : Nat} (h1 : u < N) (h2 : v < N) : ∀ e ∈ [(u, v)], e.1 < N ∧ e.2 < N := fun e he => by rw [List.mem_singleton.mp he]; exact ⟨h1, h2⟩
theorem ok_up {N M : Nat} {ts : List (Nat × Nat)} (h : ∀ e ∈ ts, e.1 < N ∧ e.2 < N) (hm : N ≤ M) : ∀ e ∈ ts, e.1 < M ∧ e.2 < M := fun e he => ⟨Nat.lt_of_lt_of_le (h e he).1 hm, Nat.lt_of_lt_of_le (h e he).2 hm⟩
section
variable {P : Program} {w : World} {K : PySem.W.Frag} {mg : Str → Option Value} {base : Heap} {C : Addr}
def sp_law_made (_ : PySem.W.Frag) (_ : Addr) : Sp := fun vs H Q _ => ∃ a, vs = [.ref a] ∧ PotAt H a ∧ ∀ t l N ts H', Kept a H H' → PotAt H' a → H' t = some (.tup [.int ((N : Nat) : Int), .ref l]) → TiesAt H' l ts → OkWeb N ts → l ≠ a → Q (.ref t) H'
theorem ok_law_made (D : Def K mg "_law_made" s_law_made ["_law_pot_here"]) (B : Bs mg) (Glb : Glo mg) (WK : WebK K mg C)
    (h_law_draw : Good P w K mg base "_law_draw" s_law_draw ["_law_pot_here", "_law_many"] 1 (sp_law_draw K C))
    (h_law_ring : Good P w K mg base "_law_ring" s_law_ring ["_law_first", "_law_many"] 1 (sp_law_ring K C))
    (h_law_ties : Good P w K mg base "_law_ties" s_law_ties ["_law_pot_here", "_law_places", "_law_most"] 2 (sp_law_ties K C)) :
    Good P w K mg base "_law_made" s_law_made ["_law_pot_here"] 3 (sp_law_made K C) := by
  refine D.good fun f fd F => ?_
  obtain ⟨f_law_draw, d_law_draw, O_law_draw, m_law_draw, k_law_draw, b_law_draw, F_law_draw⟩ := h_law_draw
  obtain ⟨f_law_ring, d_law_ring, O_law_ring, m_law_ring, k_law_ring, b_law_ring, F_law_ring⟩ := h_law_ring
  obtain ⟨f_law_ties, d_law_ties, O_law_ties, m_law_ties, k_law_ties, b_law_ties, F_law_ties⟩ := h_law_ties
  refine F.ok sc_law_made (fun vs H Q E h => ?_) (fun cdv A outer s H vs Q E hr h => ?_)
  · obtain ⟨a, rfl, hp, q⟩ := h
    first | rfl | (rcases h with ⟨_, _, rfl, _⟩ | ⟨_, rfl, _⟩ <;> rfl)
  obtain ⟨a, rfl, hp, q⟩ := h
  refine ⟨_, (pss_cons (ps_set (i := 1) sc_law_made.nd rfl (by first | exact Or.inl rfl | exact Or.inr rfl) (pe_call O_law_draw (hr.mono (by decide)) rfl m_law_draw k_law_draw b_law_draw .nil pass0 (pa_cons (pv 0) (pa_cons pe_int pa_nil))))
  (pss_cons (ps_if (pt_cmpR op_lt (pv 1) pe_int (nomark _))
    (pss_cons (ps_set (i := 2) sc_law_made.nd rfl (by first | exact Or.inl rfl | exact Or.inr rfl) (pe_op op_add pe_int (pe_call O_law_draw (hr.mono (by decide)) rfl m_law_draw k_law_draw b_law_draw .nil pass0 (pa_cons (pv 0) (pa_cons pe_int pa_nil)))))
  (pss_one (ps_ret (pe_tup (pa_cons (pv 2) (pa_cons (pe_call O_law_ties hr rfl m_law_ties k_law_ties b_law_ties .nil pass0 (pa_cons (pv 0) (pa_cons (pv 2) (pa_cons pe_int pa_nil)))) pa_nil)))))) pss_nil)
  (pss_cons (ps_par (i := 3) (j := 4) (by rfl) sc_law_made.nd rfl rfl (by decide) rfl rfl (pa_cons (pe_op op_add pe_int (pe_call O_law_draw (hr.mono (by decide)) rfl m_law_draw k_law_draw b_law_draw .nil pass0 (pa_cons (pv 0) (pa_cons pe_int pa_nil)))) (pa_cons (pe_op op_add pe_int (pe_call O_law_draw (hr.mono (by decide)) rfl m_law_draw k_law_draw b_law_draw .nil pass0 (pa_cons (pv 0) (pa_cons pe_int pa_nil)))) pa_nil)) (by rfl))
  (pss_cons (ps_if (pt_cmpR op_eq (pv 1) pe_int (nomark _))
    (pss_one (ps_ret (pe_tup (pa_cons (pv 3) (pa_cons (pe_call O_law_ring (hr.mono (by decide)) rfl m_law_ring k_law_ring b_law_ring .nil pass0 (pa_cons pe_int (pa_cons (pv 3) pa_nil))) pa_nil))))) pss_nil)
  (pss_cons (ps_set (i := 5) sc_law_made.nd rfl (by first | exact Or.inl rfl | exact Or.inr rfl) (pe_op op_cat (pe_call O_law_ring (hr.mono (by decide)) rfl m_law_ring k_law_ring b_law_ring .nil pass0 (pa_cons pe_int (pa_cons (pv 3) pa_nil))) (pe_call O_law_ring (hr.mono (by decide)) rfl m_law_ring k_law_ring b_law_ring .nil pass0 (pa_cons (pv 3) (pa_cons (pv 4) pa_nil)))))
  (pss_cons (ps_if (pt_cmpR op_eq (pv 1) pe_int (nomark _))
    (pss_one (ps_ret (pe_tup (pa_cons (pe_op op_add (pv 3) (pv 4)) (pa_cons (pe_op op_cat (pv 5) (pe_call O_law_ties hr rfl m_law_ties k_law_ties b_law_ties .nil pass0 (pa_cons (pv 0) (pa_cons (pe_op op_add (pv 3) (pv 4)) (pa_cons pe_int pa_nil))))) pa_nil))))) pss_nil)
  (pss_cons (ps_set (i := 5) sc_law_made.nd rfl (by first | exact Or.inl rfl | exact Or.inr rfl) (pe_op op_cat (pv 5) (pe_lst (pa_cons (pe_tup (pa_cons (pe_call O_law_draw (hr.mono (by decide)) rfl m_law_draw k_law_draw b_law_draw .nil pass0 (pa_cons (pv 0) (pa_cons (pv 3) pa_nil))) (pa_cons (pe_op op_add (pv 3) (pe_call O_law_draw (hr.mono (by decide)) rfl m_law_draw k_law_draw b_law_draw .nil pass0 (pa_cons (pv 0) (pa_cons (pv 4) pa_nil)))) pa_nil))) pa_nil))))
  (pss_cons (ps_if (pt_cmpR op_eq (pv 1) pe_int (nomark _))
    (pss_one (ps_expr (pe_bm PySem.F.plainAttrs_list PySem.F.slot_list_append PySem.F.type_list_append mt_append (pv 5) (pa_cons (pe_tup (pa_cons (pe_op op_add (pv 3) (pe_call O_law_draw (hr.mono (by decide)) rfl m_law_draw k_law_draw b_law_draw .nil pass0 (pa_cons (pv 0) (pa_cons (pv 4) pa_nil)))) (pa_cons (pe_call O_law_draw (hr.mono (by decide)) rfl m_law_draw k_law_draw b_law_draw .nil pass0 (pa_cons (pv 0) (pa_cons (pv 3) pa_nil))) pa_nil))) pa_nil)))) pss_nil)
  (pss_one (ps_ret (pe_tup (pa_cons (pe_op op_add (pv 3) (pv 4)) (pa_cons (pe_ifExp (pt_cmpR op_eq (pe_call O_law_draw (hr.mono (by decide)) rfl m_law_draw k_law_draw b_law_draw .nil pass0 (pa_cons (pv 0) (pa_cons pe_int pa_nil))) pe_int (nomark _)) (pe_revL (pv 5)) (pv 5)) pa_nil))))))))))))), ?_⟩
  refine ⟨_, rfl, a, 6, rfl, hp, by decide, by decide, fun k H1 hk hk1 hp1 => ?_⟩
  refine ⟨_, rfl, _, _, rfl, rfl, _, rfl, ?_⟩
  refine ite2 (fun c1 => ?_) (fun c1 => ?_)
  · refine ⟨_, rfl, a, 5, rfl, hp1, by decide, by decide, fun d H2 hd hk2 hp2 => ⟨_, _, rfl, rfl, ?_⟩⟩
    refine ⟨_, rfl, _, rfl, _, rfl, a, 1 + d, 9, rfl, hp2, by omega, by omega, by decide, fun l ts H3 h1 h2 hk3 hp3 nl hT => ⟨(by show 2 ≤ sizeLine; decide), fun tp ntp => ?_⟩⟩
    exact q tp l (1 + d) ts _ (((hk1.trans hk2).trans hk3).new ntp) (hp3.new ntp) upd_same (hT.new ntp) ⟨by omega, by omega, by omega, h2⟩ (hp2.ne nl)
  refine ⟨_, rfl, a, 3, rfl, hp1, by decide, by decide, fun d1 H2 hd1 hk2 hp2 => ⟨_, _, rfl, rfl, _, rfl, a, 2, rfl, hp2, by decide, by decide, fun d2 H3 hd2 hk3 hp3 => ⟨_, _, rfl, rfl, _, _, rfl, ?_⟩⟩⟩
  have hk03 := (hk1.trans hk2).trans hk3
  refine ⟨_, rfl, rfl, _, rfl, ?_⟩
  refine ite2 (fun c2 => ?_) (fun c2 => ?_)
  · refine ⟨_, rfl, _, rfl, 0, 1 + d1, rfl, by omega, by omega, fun l ts H4 h1 h2 hS4 nl hT => ⟨(by show 2 ≤ sizeLine; decide), fun tp ntp => ?_⟩⟩
    exact q tp l (1 + d1) ts _ ((hk03.trans (Same.kept hS4)).new ntp) ((hp3.same hS4).new ntp) upd_same (hT.new ntp) ⟨by omega, by omega, by omega, ok_up h2 (by omega)⟩ (hp3.ne nl)
  refine ⟨_, rfl, 0, 1 + d1, rfl, by omega, by omega, fun l1 ts1 H4 len1 b1 hS4 nl1 hT1 => ⟨_, rfl, _, rfl, 1 + d1, 1 + d2, rfl, by omega, by omega, fun l2 ts2 H5 len2 b2 hS5 nl2 hT2 => ?_⟩⟩
  have hT15 := hT1.same hS5
  obtain ⟨xs0, hxs0, hln0⟩ := hT15.get
  obtain ⟨zs0, hzs0, hlz0⟩ := hT2.get
  refine ⟨l1, l2, _, _, rfl, rfl, hxs0, hzs0, by rw [hln0, hlz0, len1, len2]; exact Nat.le_trans (by omega : 1 + d1 + (1 + d2) ≤ 100) (by decide), fun l3 nl3 => ?_⟩
  have hp5 := (hp3.same hS4).same hS5
  have hk05 := (hk03.trans (Same.kept hS4)).trans (Same.kept hS5)
  obtain ⟨xs, zs, g1, g2, g3, g4, hT3⟩ := hT15.cat hT2 nl3
  rw [hxs0] at g1
  cases g1
  rw [hzs0] at g2
  cases g2
  have hb3 : ∀ e ∈ ts1 ++ ts2, e.1 < 1 + d1 + (1 + d2) ∧ e.2 < 1 + d1 + (1 + d2) := ok_app (ok_up b1 (by omega)) b2
  have hl3 : (ts1 ++ ts2).length ≤ 10 := by rw [List.length_append]; omega
  have n3a : l3 ≠ a := hp5.ne nl3
  have hk06 := hk05.new (o := .lst (xs0 ++ zs0)) nl3
  have hp6 := hp5.new (o := .lst (xs0 ++ zs0)) nl3
  generalize upd H5 l3 (.lst (xs0 ++ zs0)) = H6 at hT3 hk06 hp6
  generalize ts1 ++ ts2 = ts3 at hT3 hb3 hl3
  refine ⟨_, rfl, rfl, _, rfl, ?_⟩
  refine ite2 (fun c3 => ?_) (fun c3 => ?_)
  · refine ⟨_, rfl, _, rfl, _, _, rfl, rfl, _, rfl, _, rfl, _, rfl, _, rfl, _, _, rfl, rfl, a, 1 + d1 + (1 + d2), 3, rfl, hp6, by omega, by omega, by decide, fun l4 ts4 H7 len4 b4 hk7 hp7 nl4 hT4 => ?_⟩
    have hT37 := hT3.kept hk7 hp6 n3a
    obtain ⟨xs, hxs, hln⟩ := hT37.get
    obtain ⟨zs, hzs, hlz⟩ := hT4.get
    refine ⟨l3, l4, _, _, rfl, rfl, hxs, hzs, by rw [hln, hlz]; exact Nat.le_trans (by omega : ts3.length + ts4.length ≤ 100) (by decide), fun l5 nl5 => ⟨(by show 2 ≤ sizeLine; decide), fun tp ntp => ?_⟩⟩
    obtain ⟨xs', zs', g1, g2, g3, g4, hT5⟩ := hT37.cat hT4 nl5
    rw [hxs] at g1
    cases g1
    rw [hzs] at g2
    cases g2
    exact q tp l5 (1 + d1 + (1 + d2)) _ _ (((hk06.trans hk7).new nl5).new ntp) ((hp7.new nl5).new ntp) upd_same (hT5.new ntp) ⟨by omega, by omega, by rw [List.length_append]; omega, ok_app hb3 b4⟩ (hp7.ne nl5)
  refine ⟨_, rfl, _, rfl, _, rfl, a, 1 + d1, rfl, hp6, by omega, by omega, fun u H7 hu hk7 hp7 => ⟨_, rfl, _, rfl, _, rfl, a, 1 + d2, rfl, hp7, by omega, by omega, fun v H8 hv hk8 hp8 => ⟨_, _, rfl, rfl, (by show 2 ≤ sizeLine; decide), fun tp ntp => ⟨(by show 1 ≤ sizeLine; decide), fun lp nlp => ?_⟩⟩⟩⟩
  have hT38 := (hT3.kept hk7 hp6 n3a).kept hk8 hp7 n3a
  have ev : (fun i j => V.int (i + j)) (((1 + d1 : Nat) : Int)) ((v : Nat) : Int) = V.int ((1 + d1 + v : Nat) : Int) := rfl
  have hT39 := (hT38.new (o := .tup [.int (u : Int), .int ((1 + d1 + v : Nat) : Int)]) ntp).new (o := .lst [.ref tp]) nlp
  obtain ⟨xs1, hxs1, hln1⟩ := hT39.get
  have nlt : lp ≠ tp := fun z => by rw [z, upd_same] at nlp; cases nlp
  refine ⟨l3, lp, _, _, rfl, rfl, hxs1, upd_same, by rw [hln1]; exact Nat.le_trans (by show ts3.length + 1 ≤ 100; omega) (by decide), fun l6 nl6 => ?_⟩
  dsimp only at nl6 ⊢
  rw [show (1 + (d1 : Int)) + (v : Int) = ((1 + d1 + v : Nat) : Int) by omega] at nl6 ⊢
  obtain ⟨xs', g1, g2, hT6⟩ := hT39.catOne (u := u) (v := 1 + d1 + v) (tp := tp) (by rw [upd_ne nlt.symm, upd_same]) nl6
  rw [hxs1] at g1
  cases g1
  have hp9 : PotAt _ a := (hp8.new (o := .tup [.int (u : Int), .int ((1 + d1 + v : Nat) : Int)]) ntp).new (o := .lst [.ref tp]) nlp
  have n6a : l6 ≠ a := hp9.ne nl6
  have hk09 := ((((hk06.trans hk7).trans hk8).new (o := .tup [.int (u : Int), .int ((1 + d1 + v : Nat) : Int)]) ntp).new (o := .lst [.ref tp]) nlp).new (o := .lst (xs1 ++ [.ref tp])) nl6
  have hp10 := hp9.new (o := .lst (xs1 ++ [.ref tp])) nl6
  have hb6 : ∀ e ∈ ts3 ++ [(u, 1 + d1 + v)], e.1 < 1 + d1 + (1 + d2) ∧ e.2 < 1 + d1 + (1 + d2) := ok_app hb3 (ok_one (by omega) (by omega))
  have hl6 : (ts3 ++ [(u, 1 + d1 + v)]).length ≤ 11 := by rw [List.length_append, List.length_singleton]; omega
  generalize ts3 ++ [(u, 1 + d1 + v)] = ts6 at hT6 hb6 hl6
  have hn6 : H l6 = none := ((((hk06.trans hk7).trans hk8).new (o := .tup [.int (u : Int), .int ((1 + d1 + v : Nat) : Int)]) ntp).new (o := .lst [.ref tp]) nlp).free nl6 n6a
  generalize upd (upd (upd H8 tp (.tup [.int (u : Int), .int ((1 + d1 + v : Nat) : Int)])) lp (.lst [.ref tp])) l6 (.lst (xs1 ++ [.ref tp])) = H10 at hT6 hk09 hp10
  refine ⟨_, rfl, rfl, _, rfl, ?_⟩
  refine ite2 (fun c4 => ?pos) (fun c4 => ?neg)
  case' pos =>
    obtain ⟨xs0', hxs0', _⟩ := hT6.get
    refine ⟨_, rfl, .inl ⟨rfl, _, SqL.of hxs0'⟩, _, rfl, _, rfl, _, rfl, a, 1 + d2, rfl, hp10, by omega, by omega, fun v2 H11 hv2 hk11 hp11 => ⟨_, _, rfl, rfl, _, rfl, _, rfl, a, 1 + d1, rfl, hp11, by omega, by omega, fun u2 H12 hu2 hk12 hp12 => ⟨(by show 2 ≤ sizeLine; decide), fun tp2 ntp2 => ?_⟩⟩⟩
    obtain ⟨xs2, g1, g2, hTf⟩ := ((hT6.kept hk11 hp10 n6a).kept hk12 hp11 n6a).push (u := 1 + d1 + v2) (v := u2) ntp2
    refine ⟨l6, _, _, rfl, rfl, g1, by rw [g2]; exact Nat.lt_of_le_of_lt (by omega : ts6.length ≤ 100) (by decide), ?_⟩
    have hkf := (((hk09.trans hk11).trans hk12).new (o := .tup [.int ((1 + d1 + v2 : Nat) : Int), .int (u2 : Int)]) ntp2).put (o := .lst (xs2 ++ [.ref tp2])) hn6
    have hpf := (hp12.new (o := .tup [.int ((1 + d1 + v2 : Nat) : Int), .int (u2 : Int)]) ntp2).put (o := .lst (xs2 ++ [.ref tp2])) n6a
    have hbf : ∀ e ∈ ts6 ++ [(1 + d1 + v2, u2)], e.1 < 1 + d1 + (1 + d2) ∧ e.2 < 1 + d1 + (1 + d2) := ok_app hb6 (ok_one (by omega) (by omega))
    have hlf : (ts6 ++ [(1 + d1 + v2, u2)]).length ≤ 12 := by rw [List.length_append, List.length_singleton]; omega
    generalize ts6 ++ [(1 + d1 + v2, u2)] = tsf at hTf hbf hlf
  case' neg =>
    obtain ⟨tsf, hTf, hbf, hlf⟩ : ∃ tsf, TiesAt H10 l6 tsf ∧ (∀ e ∈ tsf, e.1 < 1 + d1 + (1 + d2) ∧ e.2 < 1 + d1 + (1 + d2)) ∧ tsf.length ≤ 12 := ⟨ts6, hT6, hb6, by omega⟩
    have hkf := hk09
    have hpf := hp10
  all_goals
    refine ⟨_, rfl, _, rfl, _, _, rfl, rfl, _, rfl, a, 2, rfl, hpf, by decide, by decide, fun z Hz hz hkz hpz => ⟨rfl, _, rfl, ?_⟩⟩
    have hTz := hTf.kept hkz hpf n6a
    refine ite2 (fun c5 => ?_) (fun c5 => ?_)
    · obtain ⟨xs0', hxs0', _⟩ := hTz.get
      refine ⟨_, rfl, l6, _, rfl, SqL.of hxs0', fun l7 nl7 => ⟨(by show 2 ≤ sizeLine; decide), fun tpz ntpz => ?_⟩⟩
      obtain ⟨xs, g1, hTr⟩ := hTz.rev nl7
      rw [hxs0'] at g1
      cases g1
      exact q tpz l7 (1 + d1 + (1 + d2)) _ _ (((hkf.trans hkz).new nl7).new ntpz) ((hpz.new nl7).new ntpz) upd_same (hTr.new ntpz) ⟨by omega, by omega, by rw [List.length_reverse]; omega, fun e he => hbf e (List.mem_reverse.mp he)⟩ (hpz.ne nl7)
    · refine ⟨_, rfl, (by show 2 ≤ sizeLine; decide), fun tpz ntpz => ?_⟩
      exact q tpz l6 (1 + d1 + (1 + d2)) tsf _ ((hkf.trans hkz).new ntpz) (hpz.new ntpz) upd_same (hTz.new ntpz) ⟨by omega, by omega, by omega, hbf⟩ n6a
end
end My
namespace My
open PySem L2 PyProof.Rows
/-! ### lists of ties compared with the empty list -/
abbrev tzD (e : Nat × Nat) : PyData := .tuple [.int (e.1 : Int), .int (e.2 : Int)]
abbrev tz (ts : List (Nat × Nat)) : PyData := .list (ts.map tzD)
theorem dpAll_tz {K : PySem.W.Frag} {H : Hp} : ∀ {tas : List Addr} {ts : List (Nat × Nat)}, Paired (TupAt H) tas ts → DpAll K H (tas.map V.ref) (ts.map tzD)
  | _, _, .nil => .nil
  | _, _, .cons h r => .cons (.tup (SqT.of h) (.cons (.int _) (.cons (.int _) .nil))) (dpAll_tz r)
theorem dp_tz {K : PySem.W.Frag} {H : Hp} {t : Addr} {ts : List (Nat × Nat)} (h : TiesAt H t ts) : Dp K H (.ref t) (tz ts) := by
  obtain ⟨tas, h1, h2⟩ := h
  exact .lst (SqL.of h1) (dpAll_tz h2)
theorem layAll_tz : ∀ ts : List (Nat × Nat), PyData.canLayAll0 (ts.map tzD) = true
  | [] => rfl
  | e :: r => by
    show (PyData.canLay0 (tzD e) && PyData.canLayAll0 (r.map tzD)) = true
    rw [layAll_tz r]
    rfl
theorem depthAll_tz (e : Nat × Nat) : ∀ r : List (Nat × Nat), PyData.depthAll ((e :: r).map tzD) = 1
  | [] => rfl
  | f :: r => by
    show max (PyData.depth (tzD e)) (PyData.depthAll ((f :: r).map tzD)) = 1
    rw [depthAll_tz f r]
    rfl
theorem shaped_tz : ∀ ts : List (Nat × Nat), SeqAt.shaped (tz ts) = true
  | [] => shaped_iz []
  | e :: r => by
    unfold SeqAt.shaped
    have h1 : PyData.canLay0 (tz (e :: r)) = true := by
      show PyData.canLay0 (.list ((e :: r).map tzD)) = true
      unfold PyData.canLay0
      exact layAll_tz _
    have h2 : PyData.depth (tz (e :: r)) = 2 := by
      show PyData.depth (.list ((e :: r).map tzD)) = 2
      unfold PyData.depth
      rw [depthAll_tz]
    rw [h1, h2]
    rfl
theorem eqv_tz (ts : List (Nat × Nat)) : PyData.eqv (tz ts) (dz []) = decide (ts = []) := by
  cases ts with
  | nil => rfl
  | cons n r => rfl
section
variable {P : Program} {w : World} {K : PySem.W.Frag} {mg : Str → Option Value} {base : Heap} {C : Addr}
def sp_law_reach (_ : PySem.W.Frag) (_ : Addr) : Sp := fun vs H Q _ => ∃ t ts p s W N, vs = [.ref t, .int ((p : Nat) : Int), .ref s] ∧ TiesAt H t ts ∧ OkWeb N ts ∧ p < N ∧ SeqAt H s W ∧ ∀ H' l R, H l = none → H' l = some (.lst (iz R)) → Same H H' → IsReach (Edge ts W) p R → Q (.ref l) H'
theorem ok_law_reach (D : Def K mg "_law_reach" s_law_reach ["_law_ties_here", "_law_place", "_law_without"]) (B : Bs mg) (Glb : Glo mg) (WK : WebK K mg C) :
    Good P w K mg base "_law_reach" s_law_reach ["_law_ties_here", "_law_place", "_law_without"] 1 (sp_law_reach K C) := by
  refine D.good fun f fd F => ?_
  refine F.ok sc_law_reach (fun vs H Q E h => ?_) (fun cdv A outer s H vs Q E hr h => ?_)
  · obtain ⟨t, ts, p, s, W, N, rfl, hT, ho, hp, hs, q⟩ := h
    first | rfl | (rcases h with ⟨_, _, rfl, _⟩ | ⟨_, rfl, _⟩ <;> rfl)
  obtain ⟨t, ts, p, s, W, N, rfl, hT, ho, hp, hs, q⟩ := h
  refine ⟨_, (pss_cons (ps_par (i := 3) (j := 4) (by rfl) sc_law_reach.nd rfl rfl (by decide) rfl rfl (pa_cons (pe_lst (pa_cons (pv 1) pa_nil)) (pa_cons (pe_lst (pa_cons (pv 1) pa_nil)) pa_nil)) (by rfl))
  (pss_cons (ps_while PassesOwn.never (pt_cmpR (op_neD hr.units) (pv 4) (pe_lst pa_nil) (nomark _))
    (pss_cons (ps_set (i := 5) sc_law_reach.nd rfl (by first | exact Or.inl rfl | exact Or.inr rfl) (pe_bm0 PySem.F.plainAttrs_list PySem.F.slot_list_pop PySem.F.type_list_pop mt_pop (pv 4)))
  (pss_one (ps_for PassesOwn.never rfl (pi_enum (by rfl) B.enumerate (pa_cons (pv 0) pa_nil)) (pg_tup rfl (pgs_cons (pg_name (i := 6) sc_law_reach.nd rfl (by first | exact Or.inl rfl | exact Or.inr rfl)) (pgs_cons (pg_name (i := 7) sc_law_reach.nd rfl (by first | exact Or.inl rfl | exact Or.inr rfl)) pgs_nil)))
    (pss_one (ps_if (PW.pt (pw_and (pt_cmpR op_eq (pe_ix ix_tup (pv 7) pe_int (fun _ _ => rfl)) (pv 5) (nomark _)) (pw_and (pt_cmpR op_notIn_seq (pv 6) (pv 2) (by rfl)) (pw_and1 (pt_cmpR op_notIn_seq (pe_ix ix_tup (pv 7) pe_int (fun _ _ => rfl)) (pv 3) (by rfl))))))
    (pss_cons (ps_expr (pe_bm PySem.F.plainAttrs_list PySem.F.slot_list_append PySem.F.type_list_append mt_append (pv 3) (pa_cons (pe_ix ix_tup (pv 7) pe_int (fun _ _ => rfl)) pa_nil)))
  (pss_one (ps_expr (pe_bm PySem.F.plainAttrs_list PySem.F.slot_list_append PySem.F.type_list_append mt_append (pv 4) (pa_cons (pe_ix ix_tup (pv 7) pe_int (fun _ _ => rfl)) pa_nil))))) pss_nil))))))
  (pss_one (ps_ret (pe_callB cr_sortedI (by rfl) B.sorted (by decide +kernel) (pa_cons (pv 3) pa_nil)))))), ?_⟩
  have hN := ho.n1
  have hm := ho.m
  refine ⟨_, rfl, (by show 1 ≤ sizeLine; decide), fun sd nsd => ⟨_, rfl, (by show 1 ≤ sizeLine; decide), fun wl nwl => ⟨_, _, rfl, ?_⟩⟩⟩
  have nws : wl ≠ sd := fun z => by rw [z, upd_same] at nwl; cases nwl
  have nwl2 : H wl = none := by rw [upd_ne nws] at nwl; exact nwl
  let Pv : Nat → L2.St → Hp → Prop := fun m σ H' => ∃ (v5 v6 v7 : Option V) (seen waiting : List Nat), σ = [some (.ref t), some (.int (p : Int)), some (.ref s), some (.ref sd), some (.ref wl), v5, v6, v7] ∧ Same H H' ∧ H' sd = some (.lst (iv seen)) ∧ H' wl = some (.lst (iv waiting)) ∧ RInv (Edge ts W) p seen waiting ∧ (∀ x ∈ seen, x < N) ∧ (N - seen.length) + waiting.length = m ∧ m ≤ 60
  refine ⟨Pv, ⟨_, none, none, none, [p], [p], rfl, same_upd (same_new nsd _) nwl2, by rw [upd_ne nws.symm]; exact upd_same, upd_same, r_start p, fun x hx => by rw [List.mem_singleton.mp hx]; exact hp, rfl, by show (N - 1) + 1 ≤ 60; omega⟩, ?_⟩
  rintro m σ H3 ⟨v5, v6, v7, seen, waiting, rfl, hS3, hsd, hwl, hI, hlt, hμ, hm60⟩
  refine ⟨_, rfl, Nat.zero_le _, fun p0 np0 => ⟨_, _, dp_iv (same_new np0 _ _ _ hwl), dp_iz (L := []) upd_same, shaped_iz _, shaped_iz _, _, rfl, ?_⟩⟩
  have hS4 : Same H (upd H3 p0 (.lst [])) := fun b o e => same_new np0 _ _ _ (hS3 _ _ e)
  have hsd4 : (upd H3 p0 (.lst [])) sd = some (.lst (iv seen)) := same_new np0 _ _ _ hsd
  have hwl4 : (upd H3 p0 (.lst [])) wl = some (.lst (iv waiting)) := same_new np0 _ _ _ hwl
  generalize upd H3 p0 (.lst []) = H4 at hS4 hsd4 hwl4
  rw [eqv_empty]
  rcases List.eq_nil_or_concat waiting with rfl | ⟨rest, here, rfl⟩
  · refine iteNot' (by rfl) ?_
    refine ⟨_, rfl, sd, seen.map fun n : Nat => (n : Int), rfl, SqL.of (by rw [hsd4, iv_iz]), fun ys l hperm hsort nl => ?_⟩
    exact q _ l ys (hS4.free nl) upd_same (fun b o e => same_new nl _ _ _ (hS4 _ _ e)) (isReach_of hI hperm hsort)
  · rw [List.concat_eq_append] at *
    refine iteNot (by simp) ?_
    have hin : here ∈ seen := hI.sub here (by simp)
    have hhere := hlt _ hin
    refine ⟨fun σ' H' => ∃ m', m' < m ∧ Pv m' σ' H', fun σ' H' h => h, ?_⟩
    refine ⟨_, rfl, .inl ⟨rfl, _, SqL.of hwl4⟩, wl, _, _, rfl, rfl, hwl4, snoc_at _ _, ?_⟩
    rw [snoc_drop]
    generalize e5 : upd H4 wl (.lst (iv rest)) = H5
    have hS5 : Same H H5 := by rw [← e5]; exact same_upd hS4 nwl2
    have hsd5 : H5 sd = some (.lst (iv seen)) := by rw [← e5, upd_ne nws.symm]; exact hsd4
    have hwl5 : H5 wl = some (.lst (iv rest)) := by rw [← e5]; exact upd_same
    obtain ⟨tas, ht0, hP0⟩ := hT
    refine ⟨_, rfl, t, _, rfl, SqL.of (hS5 _ _ ht0), ?_⟩
    refine for_it (walk_enum (K := K) (a := t) (xs := tas.map V.ref)) (fun i σ H' => ∃ (v6 v7 : Option V) (seen waiting : List Nat), σ = [some (.ref t), some (.int (p : Int)), some (.ref s), some (.ref sd), some (.ref wl), some (.int (here : Int)), v6, v7] ∧ Same H H' ∧ H' sd = some (.lst (iv seen)) ∧ H' wl = some (.lst (iv waiting)) ∧ RMid (Edge ts W) p here (fun v => ∃ j, j < i ∧ ts[j]? = some (here, v) ∧ j ∉ W) seen waiting ∧ (∀ x ∈ seen, x < N) ∧ (N - seen.length) + waiting.length + 1 = m) ?_ ?_ ?_ ?_
    · refine ⟨v6, v7, seen, rest, rfl, hS5, hsd5, hwl5, r_old (r_pop hI) (fun x hx => by obtain ⟨j, hj, _⟩ := hx; omega), hlt, ?_⟩
      rw [List.length_append, List.length_singleton] at hμ
      omega
    · rintro i σ H' hi ⟨_, _, _, _, rfl, hS', _⟩
      exact SqL.of (hS' _ _ ht0)
    · rintro i x σ H6 H7 hi ⟨w6, w7, seen', waiting', rfl, hS6, hsd6, hwl6, hM, hlt', hμ'⟩ ⟨T0, x1, x2, rfl, nT0, rfl, e1, e2⟩
      cases e1
      rw [List.length_map] at hi
      replace e2 : (tas.map V.ref)[i]? = some x2 := e2
      rw [List.getElem?_map, List.getElem?_eq_getElem hi] at e2
      cases e2
      obtain ⟨⟨u, v⟩, he, hpe⟩ := paired_get hP0 (List.getElem?_eq_getElem hi)
      have hvN := (ho.ok _ (List.mem_of_getElem? he)).2
      have hS7 : Same H (upd H6 T0 (.tup [.int (i : Int), .ref tas[i]])) := fun b o e => same_new nT0 _ _ _ (hS6 _ _ e)
      have hT7 : (upd H6 T0 (.tup [.int (i : Int), .ref tas[i]])) T0 = some (.tup [.int (i : Int), .ref tas[i]]) := upd_same
      have hsd7 := same_new nT0 (.tup [.int (i : Int), .ref tas[i]]) _ _ hsd6
      have hwl7 := same_new nT0 (.tup [.int (i : Int), .ref tas[i]]) _ _ hwl6
      generalize upd H6 T0 (.tup [.int (i : Int), .ref tas[i]]) = H7 at hS7 hT7 hsd7 hwl7
      have hp7 : H7 tas[i] = some (.tup [.int (u : Int), .int (v : Int)]) := hS7 _ _ hpe
      have split : ∀ z : Nat, (∃ j, j < i + 1 ∧ ts[j]? = some (here, z) ∧ j ∉ W) → (∃ j, j < i ∧ ts[j]? = some (here, z) ∧ j ∉ W) ∨ (u = here ∧ z = v ∧ i ∉ W) := by
        rintro z ⟨j, hj, e1, e2⟩
        by_cases cj : j = i
        · subst cj
          rw [he] at e1
          have := Option.some.inj e1
          exact .inr ⟨congrArg Prod.fst this, (congrArg Prod.snd this).symm, e2⟩
        · exact .inl ⟨j, by omega, e1, e2⟩
      refine ⟨T0, _, rfl, SqT.of hT7, rfl, _, _, rfl, _, _, rfl, rfl, ?_⟩
      refine ⟨_, rfl, _, _, _, .int (u : Int), rfl, rfl, SqT.of hp7, rfl, _, rfl, rfl, _, rfl, ?_⟩
      by_cases cu : u = here
      case' neg =>
        refine iteNo (fun z => cu (by have := int_eq.mp z; omega)) (iteF ⟨_, _, seen', waiting', rfl, hS7, hsd7, hwl7, r_old hM (fun z hz => ?_), hlt', hμ'⟩)
        rcases split z hz with h | h
        · exact .inl h
        · exact absurd h.1 cu
      refine iteYes (int_eq.mpr (by rw [cu])) ⟨_, rfl, _, rfl, s, _, rfl, (hs.same hS7).seq, rfl, flat_iv _, _, rfl, ?_⟩
      rw [inV_iv]
      by_cases cW : i ∈ W
      · refine iteNot' cW (iteF ⟨_, _, seen', waiting', rfl, hS7, hsd7, hwl7, r_old hM (fun z hz => ?_), hlt', hμ'⟩)
        rcases split z hz with h | h
        · exact .inl h
        · exact absurd cW h.2.2
      refine iteNot cW ⟨_, rfl, _, _, _, .int (v : Int), rfl, rfl, SqT.of hp7, rfl, _, rfl, sd, _, rfl, .inl (SqL.of hsd7), rfl, flat_iv _, _, rfl, ?_⟩
      rw [inV_iv]
      by_cases c : v ∈ seen'
      · refine iteNot' c ⟨_, _, seen', waiting', rfl, hS7, hsd7, hwl7, r_old hM (fun z hz => ?_), hlt', hμ'⟩
        rcases split z hz with h | h
        · exact .inl h
        · rw [h.2.1]; exact .inr c
      refine iteNot c ?_
      have hfew := few hM.nd hlt'
      have hE : Edge ts W here v := ⟨i, by rw [he, cu], cW⟩
      have hfew2 : (seen' ++ [v]).length ≤ N := few (by rw [List.nodup_append]; exact ⟨hM.nd, by simp, fun p hp q hq => by rw [List.mem_singleton.mp hq]; rintro rfl; exact c hp⟩) (fun z hz => by
        rcases List.mem_append.mp hz with h | h
        · exact hlt' z h
        · rw [List.mem_singleton.mp h]; exact hvN)
      rw [List.length_append, List.length_singleton] at hfew2
      refine ⟨_, rfl, .inl ⟨rfl, _, SqL.of hsd7⟩, _, rfl, _, _, _, .int (v : Int), rfl, rfl, SqT.of hp7, rfl, sd, _, _, rfl, rfl, hsd7, by rw [List.length_map]; exact Nat.lt_of_le_of_lt (by omega : seen'.length ≤ 60) (by decide), ?_⟩
      have nts : tas[i] ≠ sd := ne_of hp7 hsd7 (by intro z; cases z)
      have hwl8 : upd H7 sd (.lst (iv seen' ++ [.int (v : Int)])) wl = some (.lst (iv waiting')) := by rw [upd_ne nws]; exact hwl7
      have hp8 : upd H7 sd (.lst (iv seen' ++ [.int (v : Int)])) tas[i] = some (.tup [.int (u : Int), .int (v : Int)]) := by rw [upd_ne nts]; exact hp7
      refine ⟨_, rfl, .inl ⟨rfl, _, SqL.of hwl8⟩, _, rfl, _, _, _, .int (v : Int), rfl, rfl, SqT.of hp8, rfl, wl, _, _, rfl, rfl, hwl8, by rw [List.length_map]; exact Nat.lt_of_le_of_lt (by omega : waiting'.length ≤ 60) (by decide), ?_⟩
      refine ⟨_, _, seen' ++ [v], waiting' ++ [v], rfl, same_upd (same_upd hS7 nsd) nwl2, ?_, ?_, r_new hM hE c (fun z hz => ?_), fun z hz => ?_, ?_⟩
      · rw [upd_ne nws.symm, upd_same, iv_app]
      · rw [upd_same, iv_app]
      · rcases split z hz with h | h
        · exact .inl h
        · exact .inr h.2.1
      · rcases List.mem_append.mp hz with h | h
        · exact hlt' z h
        · rw [List.mem_singleton.mp h]; exact hvN
      · rw [List.length_append, List.length_append, List.length_singleton]
        omega
    · rintro σ H6 ⟨w6, w7, seen', waiting', rfl, hS6, hsd6, hwl6, hM, hlt', hμ'⟩
      refine ⟨_, by rw [← hμ']; exact Nat.lt_succ_self _, _, _, _, seen', waiting', rfl, hS6, hsd6, hwl6, r_done hM (fun v hv => ?_), hlt', rfl, by omega⟩
      obtain ⟨j, h1, h2⟩ := hv
      refine ⟨j, ?_, h1, h2⟩
      rw [List.length_map, paired_len hP0]
      exact (List.getElem?_eq_some_iff.mp h1).1
end
end My
namespace My
open PySem L2 PyProof.Rows
def StepsAt (H : Hp) (l : Addr) (ts : List (Nat × Nat)) : Prop := ∃ sas : List Addr, H l = some (.lst (sas.map V.ref)) ∧ sas.length = ts.length ∧ ∀ (i u v : Nat), ts[i]? = some (u, v) → ∃ p : Addr, sas[i]? = some p ∧ H p = some (.tup [.int (u : Int), .int (v : Int), .int (i : Int)])
def swaps (ts : List (Nat × Nat)) : List (Nat × Nat) := ts.map fun e => (e.2, e.1)
def BackAt (H0 : Hp) (l : Addr) (ts : List (Nat × Nat)) (i : Nat) (H : Hp) : Prop := Same H0 H ∧ TiesAt H l (swaps (ts.take i))
theorem take_snocE {α : Type} {L : List α} {i : Nat} {e : α} (h : L[i]? = some e) : L.take (i + 1) = L.take i ++ [e] := by
  rw [List.take_succ, h]
  rfl
theorem steps_nil {H : Hp} {l : Addr} : StepsAt (upd H l (.lst [])) l [] := ⟨[], upd_same, rfl, fun i u v h => by simp at h⟩
theorem StepsAt.same {H H' : Hp} {l : Addr} {ts : List (Nat × Nat)} (h : StepsAt H l ts) (s : Same H H') : StepsAt H' l ts := by
  obtain ⟨sas, h1, h2, h3⟩ := h
  exact ⟨sas, s _ _ h1, h2, fun i u v e => by obtain ⟨p, a, b⟩ := h3 i u v e; exact ⟨p, a, s _ _ b⟩⟩
theorem StepsAt.push {H : Hp} {l tp : Addr} {ts : List (Nat × Nat)} {u v : Nat} (h : StepsAt H l ts) (nt : H tp = none) :
    ∃ xs, (upd H tp (.tup [.int (u : Int), .int (v : Int), .int (ts.length : Int)])) l = some (.lst xs) ∧ xs.length = ts.length ∧ StepsAt (upd (upd H tp (.tup [.int (u : Int), .int (v : Int), .int (ts.length : Int)])) l (.lst (xs ++ [.ref tp]))) l (ts ++ [(u, v)]) := by
  obtain ⟨sas, h1, h2, h3⟩ := h
  have nlt : l ≠ tp := ne_of_none h1 nt
  refine ⟨sas.map V.ref, by rw [upd_ne nlt]; exact h1, by rw [List.length_map]; exact h2, sas ++ [tp], by rw [upd_same, List.map_append]; rfl, by simp [h2], fun i a b e => ?_⟩
  by_cases c : i < ts.length
  · rw [List.getElem?_append_left c] at e
    obtain ⟨p, g1, g2⟩ := h3 i a b e
    have np : p ≠ l := ne_of g2 h1 (by intro z; cases z)
    refine ⟨p, by rw [List.getElem?_append_left (by omega)]; exact g1, ?_⟩
    rw [upd_ne np, upd_ne (ne_of_none g2 nt)]
    exact g2
  · have hl := (List.getElem?_eq_some_iff.mp e).1
    rw [List.length_append, List.length_singleton] at hl
    have ei : i = ts.length := by omega
    subst ei
    rw [List.getElem?_append_right (Nat.le_refl _), Nat.sub_self] at e
    cases e
    refine ⟨tp, by rw [← h2, List.getElem?_append_right (Nat.le_refl _), Nat.sub_self]; rfl, ?_⟩
    rw [upd_ne nlt.symm, upd_same]
theorem okWeb_swaps {N : Nat} {ts : List (Nat × Nat)} (h : OkWeb N ts) : OkWeb N (swaps ts) := by
  refine ⟨h.n0, h.n1, by unfold swaps; rw [List.length_map]; exact h.m, fun e he => ?_⟩
  obtain ⟨f, hf, rfl⟩ := List.mem_map.mp he
  exact ⟨(h.ok f hf).2, (h.ok f hf).1⟩
section
variable {P : Program} {w : World} {K : PySem.W.Frag} {mg : Str → Option Value} {base : Heap} {C : Addr}
def spweb_steps (_ : PySem.W.Frag) (C : Addr) : Sp := fun vs H Q _ => ∃ a N ts, vs = [.ref a] ∧ WebAt C a N ts H ∧ OkWeb N ts ∧ ∀ H' l, H l = none → Same H H' → StepsAt H' l ts → Q (.ref l) H'
theorem okweb_steps (D : Def K mg "web_steps" sweb_steps ["web"]) (B : Bs mg) (Glb : Glo mg) (WK : WebK K mg C)
    (hWeb_ties : GoodM P w K mg base C "ties" "Web.ties" sWeb_ties ["self"] 1 (spWeb_ties K C)) :
    Good P w K mg base "web_steps" sweb_steps ["web"] 3 (spweb_steps K C) := by
  refine D.good fun f fd F => ?_
  obtain ⟨fWeb_ties, dWeb_ties, OWeb_ties, tWeb_ties, bWeb_ties, FWeb_ties⟩ := hWeb_ties
  refine F.ok scweb_steps (fun vs H Q E h => ?_) (fun cdv A outer s H vs Q E hr h => ?_)
  · obtain ⟨a, N, ts, rfl, hw, ho, q⟩ := h
    first | rfl | (rcases h with ⟨_, _, rfl, _⟩ | ⟨_, rfl, _⟩ <;> rfl)
  obtain ⟨a, N, ts, rfl, hw, ho, q⟩ := h
  refine ⟨_, (pss_one (ps_ret (pe_lc (own := [("tie", 1), ("near", 2), ("far", 3)]) (g := gTup K 2 (gCons (gName 1) (gCons (gTup K 2 (gCons (gName 2) (gCons (gName 3) gNil))) gNil))) (by rfl) scweb_steps.nd (pi_enum (by rfl) B.enumerate (pa_cons (pe_meth0 (pv 0) WK.cl tWeb_ties OWeb_ties (hr.mono (by decide)) bWeb_ties .nil pass0) pa_nil)) (blkOk_by (own := [("tie", 1), ("near", 2), ("far", 3)]) (N := ["web", "tie", "near", "far"]) (sc := defScope sweb_steps) (by decide +kernel)) (fun _ _ _ _ _ => (pg_tup rfl (pgs_cons (pg_name (i := 1) scweb_steps.nd rfl (by first | exact Or.inl rfl | exact Or.inr rfl)) (pgs_cons (pg_tup rfl (pgs_cons (pg_name (i := 2) scweb_steps.nd rfl (by first | exact Or.inl rfl | exact Or.inr rfl)) (pgs_cons (pg_name (i := 3) scweb_steps.nd rfl (by first | exact Or.inl rfl | exact Or.inr rfl)) pgs_nil))) pgs_nil)))) (fun _ _ _ _ _ => pts_nil) (fun _ _ _ _ _ => (pe_tup (pa_cons (pv 2) (pa_cons (pv 3) (pa_cons (pv 1) pa_nil)))))))), ?_⟩
  obtain ⟨dx, tl, fl, ol, h1, h23⟩ := id hw
  refine ⟨_, rfl, a, dx, _, rfl, h1, (by rfl), a, N, ts, rfl, hw, fun H1 l nl hS1 ⟨tas, hl, hP⟩ => ?_⟩
  refine ⟨l, _, rfl, SqL.of hl, fun D nD => ?_⟩
  have nD0 : H D = none := hS1.free nD
  refine lc_it (walk_enum (K := K) (a := l) (xs := tas.map V.ref)) (fun i H' => Same H1 H' ∧ StepsAt H' D (ts.take i)) ⟨same_new nD _, steps_nil⟩ (fun i H' _ ⟨hS', _⟩ => SqL.of (hS' _ _ hl)) ?_ ?_
  · rintro i x H3 H4 hi ⟨hS3, hD3⟩ ⟨T0, x1, x2, rfl, nT0, rfl, e1, e2⟩
    cases e1
    rw [List.length_map] at hi
    replace e2 : (tas.map V.ref)[i]? = some x2 := e2
    rw [List.getElem?_map, List.getElem?_eq_getElem hi] at e2
    cases e2
    obtain ⟨⟨u, v⟩, he, hpe⟩ := paired_get hP (List.getElem?_eq_getElem hi)
    have hlt := (List.getElem?_eq_some_iff.mp he).1
    have hm := ho.m
    have hS4 : Same H1 (upd H3 T0 (.tup [.int (i : Int), .ref tas[i]])) := fun b o e => same_new nT0 _ _ _ (hS3 _ _ e)
    have hD4 := hD3.same (same_new nT0 (.tup [.int (i : Int), .ref tas[i]]))
    have hT4 : (upd H3 T0 (.tup [.int (i : Int), .ref tas[i]])) T0 = some (.tup [.int (i : Int), .ref tas[i]]) := upd_same
    generalize upd H3 T0 (.tup [.int (i : Int), .ref tas[i]]) = H4 at hS4 hD4 hT4
    have hp4 : H4 tas[i] = some (.tup [.int (u : Int), .int (v : Int)]) := hS4 _ _ hpe
    refine ⟨T0, _, rfl, SqT.of hT4, rfl, _, _, rfl, _, _, rfl, ⟨tas[i], _, rfl, SqT.of hp4, rfl, _, _, rfl, _, _, rfl, rfl, rfl, ?_⟩⟩
    refine ⟨rfl, _, rfl, _, rfl, _, rfl, (by show 3 ≤ sizeLine; decide), fun tp ntp => ?_⟩
    have hlen : (ts.take i).length = i := by rw [List.length_take]; omega
    obtain ⟨xs, g1, g2, g3⟩ := hD4.push (u := u) (v := v) ntp
    rw [hlen] at g1 g2 g3
    refine ⟨xs, g1, by rw [g2]; exact Nat.lt_of_lt_of_le (by omega : i < 1000) (by decide), same_upd (fun b o e => same_new ntp _ _ _ (hS4 _ _ e)) nD, ?_⟩
    rw [take_snocE he]
    exact g3
  · rintro H3 ⟨hS3, hD3⟩
    rw [List.length_map, paired_len hP, List.take_length] at hD3
    exact q H3 D nD0 (fun b o e => hS3 _ _ (hS1 _ _ e)) hD3
def spback_web (_ : PySem.W.Frag) (C : Addr) : Sp := fun vs H Q _ => ∃ a N ts, vs = [.ref a] ∧ WebAt C a N ts H ∧ OkWeb N ts ∧ ∀ H' b, H b = none → Same H H' → WebAt C b N (swaps ts) H' → Q (.ref b) H'
theorem okback_web (D : Def K mg "back_web" sback_web ["web"]) (B : Bs mg) (Glb : Glo mg) (WK : WebK K mg C)
    (hneed_web : Good P w K mg base "need_web" sneed_web ["web"] 3 (spneed_web K C))
    (hWeb___init__ : GoodI P w K mg base C "__init__" "Web.__init__" sWeb___init__ ["self", "places", "ties"] 5 (spWeb___init__ K C))
    (hWeb_places : GoodP P w K mg base C "places" "Web.places" sWeb_places ["self"] 1 (spWeb_places K C))
    (hWeb_ties : GoodM P w K mg base C "ties" "Web.ties" sWeb_ties ["self"] 1 (spWeb_ties K C)) :
    Good P w K mg base "back_web" sback_web ["web"] 7 (spback_web K C) := by
  refine D.good fun f fd F => ?_
  obtain ⟨fneed_web, dneed_web, Oneed_web, mneed_web, kneed_web, bneed_web, Fneed_web⟩ := hneed_web
  obtain ⟨fWeb___init__, dWeb___init__, OWeb___init__, MK, bWeb___init__⟩ := hWeb___init__
  obtain ⟨qWeb_places, fWeb_places, dWeb_places, OWeb_places, pWeb_places, bWeb_places⟩ := hWeb_places
  obtain ⟨fWeb_ties, dWeb_ties, OWeb_ties, tWeb_ties, bWeb_ties, FWeb_ties⟩ := hWeb_ties
  refine F.ok scback_web (fun vs H Q E h => ?_) (fun cdv A outer s H vs Q E hr h => ?_)
  · obtain ⟨a, N, ts, rfl, hw, ho, q⟩ := h
    first | rfl | (rcases h with ⟨_, _, rfl, _⟩ | ⟨_, rfl, _⟩ <;> rfl)
  obtain ⟨a, N, ts, rfl, hw, ho, q⟩ := h
  refine ⟨_, (pss_cons (ps_expr (pe_call Oneed_web (hr.mono (by decide)) rfl mneed_web kneed_web bneed_web .nil pass0 (pa_cons (pv 0) pa_nil)))
  (pss_one (ps_ret (pe_make MK OWeb___init__ (hr.mono (by decide)) rfl WK.mgC bWeb___init__ .nil pass0 (pa_cons (pe_prop (pv 0) WK.cl pWeb_places OWeb_places (hr.mono (by decide)) bWeb_places .nil pass0 (by rfl)) (pa_cons (pe_lc (own := [("near", 1), ("far", 2)]) (g := gTup K 2 (gCons (gName 1) (gCons (gName 2) gNil))) (by rfl) scback_web.nd (pi_list (pe_meth0 (pv 0) WK.cl tWeb_ties OWeb_ties (hr.mono (by decide)) bWeb_ties .nil pass0)) (blkOk_by (own := [("near", 1), ("far", 2)]) (N := ["web", "near", "far"]) (sc := defScope sback_web) (by decide +kernel)) (fun _ _ _ _ _ => (pg_tup rfl (pgs_cons (pg_name (i := 1) scback_web.nd rfl (by first | exact Or.inl rfl | exact Or.inr rfl)) (pgs_cons (pg_name (i := 2) scback_web.nd rfl (by first | exact Or.inl rfl | exact Or.inr rfl)) pgs_nil)))) (fun _ _ _ _ _ => pts_nil) (fun _ _ _ _ _ => (pe_tup (pa_cons (pv 2) (pa_cons (pv 1) pa_nil))))) pa_nil)))))), ?_⟩
  obtain ⟨dx, tl, fl, ol, h1, h23⟩ := id hw
  refine ⟨_, rfl, a, N, ts, rfl, hw, ?_⟩
  refine ⟨_, rfl, a, dx, _, rfl, h1, a, N, ts, rfl, hw, ?_⟩
  refine ⟨_, rfl, a, dx, _, rfl, h1, (by rfl), a, N, ts, rfl, hw, fun H1 l nl hS1 ⟨tas, hl, hP⟩ => ?_⟩
  refine ⟨l, rfl, ⟨_, SqL.of hl⟩, fun D nD => ?_⟩
  have nD0 : H D = none := hS1.free nD
  refine lc_list (K := K) (a := l) (xs := tas.map V.ref) (fun i H' => Same H1 H' ∧ TiesAt H' D (swaps (ts.take i))) ⟨same_new nD _, TiesAt.nil⟩ (fun i H' _ ⟨hS', _⟩ => SqL.of (hS' _ _ hl)) ?_ ?_
  · rintro i x H3 hx ⟨hS3, hD3⟩
    rw [List.getElem?_map] at hx
    obtain ⟨p, hp, rfl⟩ : ∃ p, tas[i]? = some p ∧ x = V.ref p := by
      cases e : tas[i]? with
      | none => rw [e] at hx; cases hx
      | some p => rw [e] at hx; exact ⟨p, rfl, (Option.some.inj hx).symm⟩
    obtain ⟨⟨u, v⟩, he, hpe⟩ := paired_get hP hp
    have hlt := (List.getElem?_eq_some_iff.mp he).1
    have hm := ho.m
    have hp3 : H3 p = some (.tup [.int (u : Int), .int (v : Int)]) := hS3 _ _ hpe
    refine ⟨p, _, rfl, SqT.of hp3, rfl, _, _, rfl, _, _, rfl, rfl, rfl, ?_⟩
    refine ⟨_, rfl, _, rfl, (by show 2 ≤ sizeLine; decide), fun tp ntp => ?_⟩
    obtain ⟨xs, g1, g2, g3⟩ := hD3.push (u := v) (v := u) ntp
    have hlen : (swaps (ts.take i)).length = i := by unfold swaps; rw [List.length_map, List.length_take]; omega
    rw [hlen] at g2
    refine ⟨xs, g1, by rw [g2]; exact Nat.lt_of_lt_of_le (by omega : i < 1000) (by decide), same_upd (fun b o e => same_new ntp _ _ _ (hS3 _ _ e)) nD, ?_⟩
    rw [take_snocE he, show swaps (ts.take i ++ [(u, v)]) = swaps (ts.take i) ++ [(v, u)] by unfold swaps; rw [List.map_append]; rfl]
    exact g3
  · rintro H3 ⟨hS3, hD3⟩
    rw [List.length_map, paired_len hP, List.take_length] at hD3
    have hS03 : Same H H3 := fun b o e => hS3 _ _ (hS1 _ _ e)
    intro x dx' nx ndx ndxx
    have hS4 : Same H3 (upd (upd H3 dx' (.own x)) x (.ins C dx' [])) := fun b o e => by
      rw [upd_ne (ne_of_none e nx), upd_ne (ne_of_none e ndx)]
      exact e
    refine ⟨x, dx', N, D, swaps ts, rfl, okWeb_swaps ho, hD3.same hS4, upd_same, fun H5 hk5 hw5 => ⟨rfl, ?_⟩⟩
    have hS5 : Same H3 H5 := fun b o e => hk5 _ _ (hS4 _ _ e) (ne_of_none e nx)
    exact q H5 x (hS03.free nx) (hS03.trans hS5) (hw5.same Sub.same)
end
end My
namespace My
open PySem L2 PyProof.Rows
/-- the booleans that tell what was seen -/
abbrev bv (L : List Bool) : List V := L.map V.bl
abbrev Got (L : List Bool) (x : Nat) : Prop := L[x]? = some true
structure LfOk (adj : Nat → List Nat) (N : Nat) : Prop where
  n1 : N ≤ 60
  lt : ∀ u, ∀ v ∈ adj u, v < N
  sz : ∀ u, (adj u).length ≤ 80
structure LfRes (adj : Nat → List Nat) (N p : Nat) (S S' : List Bool) (L : List Nat) : Prop where
  nd : L.Nodup
  ln : S'.length = N
  lt : ∀ x ∈ L, x < N
  got : ∀ x, Got S' x ↔ Got S x ∨ x ∈ L
  mem : ∀ x, x ∈ L ↔ Rch (fun u v => v ∈ adj u) p x ∧ ¬ Got S x
  cl : ∀ u v, Got S' u → v ∈ adj u → Got S' v
  star : ∀ A q B, L = A ++ q :: B → ∀ x, Rch (fun u v => v ∈ adj u) q x → Got S x ∨ x ∈ A ∨ x = q ∨ ∃ y ∈ B, Rch (fun u v => v ∈ adj u) q y ∧ Rch (fun u v => v ∈ adj u) y q ∧ Rch (fun u v => v ∈ adj u) y x
theorem paired_end1 {α β : Type} {F : α → β → Prop} : ∀ {l1 : List α} {l2 : List β} {b : β}, Paired F l1 (l2 ++ [b]) → ∃ m a, l1 = m ++ [a] ∧ Paired F m l2 ∧ F a b
  | _, [], _, .cons r .nil => ⟨[], _, rfl, .nil, r⟩
  | _, _ :: l2, b, .cons r t => by
    obtain ⟨m, a, e, h1, h2⟩ := paired_end1 (l2 := l2) t
    exact ⟨_ :: m, a, by rw [e]; rfl, .cons r h1, h2⟩
theorem TiesAt.pop {H : Hp} {l : Addr} {tr : List (Nat × Nat)} {f : Nat × Nat} (h : TiesAt H l (tr ++ [f])) :
    ∃ xs p, H l = some (.lst xs) ∧ xs[xs.length - 1]? = some (.ref p) ∧ H p = some (.tup [.int (f.1 : Int), .int (f.2 : Int)]) ∧ TiesAt (upd H l (.lst xs.dropLast)) l tr := by
  obtain ⟨tas, h1, h2⟩ := h
  obtain ⟨m, a, rfl, h3, h4⟩ := paired_end1 h2
  refine ⟨_, a, h1, ?_, h4, m, ?_, paired_mono (fun q e hq => ?_) h3⟩
  · rw [List.map_append, List.length_append, List.length_map, List.getElem?_append_right (by simp), List.length_map]
    simp
  · rw [upd_same, List.map_append]
    show some (HO.lst (List.dropLast (m.map V.ref ++ [V.ref a]))) = _
    rw [List.dropLast_concat]
  · have nq : q ≠ l := ne_of hq h1 (by intro z; cases z)
    show upd _ _ _ q = _
    rw [upd_ne nq]
    exact hq
theorem bv_at {L : List Bool} {j : Nat} {b : Bool} (h : L[j]? = some b) : atI (bv L) (j : Int) = some (.bl b) := by
  refine atI_nat ?_
  rw [bv, List.getElem?_map, h]
  rfl
theorem ix_at {n j : Nat} (hj : j < n) : ixN n (j : Int) = some j := by
  unfold ixN
  rw [if_pos (by omega), if_pos (by omega)]
  simp
theorem bv_set (L : List Bool) (j : Nat) : (bv L).set j (.bl true) = bv (L.set j true) := by
  unfold bv
  rw [List.map_set]
theorem got_set {L : List Bool} {j : Nat} (hj : j < L.length) (x : Nat) : Got (L.set j true) x ↔ Got L x ∨ x = j := by
  unfold Got
  by_cases c : x = j
  · subst c
    simp [hj]
  · rw [List.getElem?_set_ne (fun z => c z.symm)]
    simp [c]
theorem bl_of {L : List Bool} {j : Nat} (hj : j < L.length) : L[j]? = some true ∨ L[j]? = some false := by
  rw [List.getElem?_eq_getElem hj]
  cases L[j] <;> simp
section
variable {P : Program} {w : World} {K : PySem.W.Frag} {mg : Str → Option Value} {base : Heap} {C : Addr}
def sp_left_from (_ : PySem.W.Frag) (C : Addr) : Sp := fun vs H Q _ => ∃ e p s adj N S, vs = [.ref e, .int ((p : Nat) : Int), .ref s] ∧ RowsAt H e N adj ∧ LfOk adj N ∧ p < N ∧ H s = some (.lst (bv S)) ∧ S.length = N ∧ ¬ Got S p ∧ (∀ u v, Got S u → v ∈ adj u → Got S v) ∧ ∀ H' l L S', H l = none → H' l = some (.lst (iv L)) → H' s = some (.lst (bv S')) → Kept s H H' → LfRes adj N p S S' L → Q (.ref l) H'
theorem ok_left_from (D : Def K mg "_left_from" s_left_from ["ends", "point", "seen"]) (B : Bs mg) (Glb : Glo mg) (WK : WebK K mg C) :
    Good P w K mg base "_left_from" s_left_from ["ends", "point", "seen"] 1 (sp_left_from K C) := by
  refine D.good fun f fd F => ?_
  refine F.ok sc_left_from (fun vs H Q E h => ?_) (fun cdv A outer s H vs Q E hr h => ?_)
  · obtain ⟨e, p, s, adj, N, S, rfl, hR, hA, hp, hs, hSl, hnp, hcl, q⟩ := h
    first | rfl | (rcases h with ⟨_, _, rfl, _⟩ | ⟨_, rfl, _⟩ <;> rfl)
  obtain ⟨e, p, s, adj, N, S, rfl, hR, hA, hp, hs, hSl, hnp, hcl, q⟩ := h
  refine ⟨_, (pss_cons (ps_set (i := 3) sc_left_from.nd rfl (by first | exact Or.inl rfl | exact Or.inr rfl) (pe_lst pa_nil))
  (pss_cons (ps_asg pe_bl (pg_sub (pv 2) (pv 1) set_list))
  (pss_cons (ps_set (i := 4) sc_left_from.nd rfl (by first | exact Or.inl rfl | exact Or.inr rfl) (pe_lst (pa_cons (pe_tup (pa_cons (pv 1) (pa_cons pe_int pa_nil))) pa_nil)))
  (pss_cons (ps_while PassesOwn.never (pt_cmpR (op_neD hr.units) (pv 4) (pe_lst pa_nil) (nomark _))
    (pss_cons (ps_asg (pe_bm0 PySem.F.plainAttrs_list PySem.F.slot_list_pop PySem.F.type_list_pop mt_pop (pv 4)) (pg_tup rfl (pgs_cons (pg_name (i := 5) sc_left_from.nd rfl (by first | exact Or.inl rfl | exact Or.inr rfl)) (pgs_cons (pg_name (i := 6) sc_left_from.nd rfl (by first | exact Or.inl rfl | exact Or.inr rfl)) pgs_nil))))
  (pss_cons (ps_if (pt_cmpR op_eq (pv 6) (pe_callB call_len_seq (by rfl) B.len (by decide +kernel) (pa_cons (pe_ix ix_list (pv 0) (pv 5) (fun _ _ => rfl)) pa_nil)) (nomark _))
    (pss_cons (ps_expr (pe_bm PySem.F.plainAttrs_list PySem.F.slot_list_append PySem.F.type_list_append mt_append (pv 3) (pa_cons (pv 5) pa_nil)))
  (pss_one ps_continue)) pss_nil)
  (pss_cons (ps_expr (pe_bm PySem.F.plainAttrs_list PySem.F.slot_list_append PySem.F.type_list_append mt_append (pv 4) (pa_cons (pe_tup (pa_cons (pv 5) (pa_cons (pe_op op_add (pv 6) pe_int) pa_nil))) pa_nil)))
  (pss_cons (ps_set (i := 7) sc_left_from.nd rfl (by first | exact Or.inl rfl | exact Or.inr rfl) (pe_ix ix_list (pe_ix ix_list (pv 0) (pv 5) (fun _ _ => rfl)) (pv 6) (fun _ _ => rfl)))
  (pss_one (ps_if (pt_not (pt_val (pe_ix ix_list (pv 2) (pv 7) (fun _ _ => rfl))))
    (pss_cons (ps_asg pe_bl (pg_sub (pv 2) (pv 7) set_list))
  (pss_one (ps_expr (pe_bm PySem.F.plainAttrs_list PySem.F.slot_list_append PySem.F.type_list_append mt_append (pv 4) (pa_cons (pe_tup (pa_cons (pv 7) (pa_cons pe_int pa_nil))) pa_nil))))) pss_nil)))))))
  (pss_one (ps_ret (pv 3))))))), ?_⟩
  have hN := hA.n1
  have hRk : ∀ H', Kept s H H' → RowsAt H' e N adj := fun H' k => by
    obtain ⟨fas, r1, r2, r3⟩ := hR
    have nes : ∀ b (L : List Nat), H b = some (.lst (iv L)) → b ≠ s := fun b L hb z => by
      rw [z, hs] at hb
      have hb := HO.lst.inj (Option.some.inj hb)
      cases S with
      | nil => simp at hSl; omega
      | cons t r =>
        cases L with
        | nil => cases hb
        | cons n r' => cases (List.cons.inj hb).1
    have ees : e ≠ s := fun z => by
      rw [z, hs] at r1
      have r1 := HO.lst.inj (Option.some.inj r1)
      cases S with
      | nil => simp at hSl; omega
      | cons t r =>
        cases fas with
        | nil => cases r1
        | cons n r' => cases (List.cons.inj r1).1
    exact ⟨fas, k _ _ r1 ees, r2, fun j x ej => k _ _ (r3 j x ej) (nes _ _ (r3 j x ej))⟩
  refine ⟨Nat.zero_le _, fun ll nll => ?_⟩
  have nls : ll ≠ s := (ne_of_none hs nll).symm
  refine ⟨_, rfl, _, rfl, s, _, _, p, rfl, rfl, (by rw [upd_ne nls.symm]; exact hs), ix_at (by rw [List.length_map, hSl]; exact hp), ?_⟩
  rw [bv_set]
  generalize e1 : upd (upd H ll (.lst [])) s (.lst (bv (S.set p true))) = H1
  have hs1 : H1 s = some (.lst (bv (S.set p true))) := by rw [← e1]; exact upd_same
  have hll1 : H1 ll = some (.lst (iv [])) := by rw [← e1, upd_ne nls]; exact upd_same
  have hk1 : Kept s H H1 := fun b o z n => by rw [← e1, upd_ne n]; exact same_new nll _ _ _ z
  refine ⟨_, rfl, (by show 2 ≤ sizeLine; decide), fun tp ntp => ⟨(by show 1 ≤ sizeLine; decide), fun tl ntl => ?_⟩⟩
  have nts : tp ≠ s := (ne_of_none hs1 ntp).symm
  have htl0 : TiesAt (upd (upd H1 tp (.tup [.int (p : Int), .int 0])) tl (.lst [.ref tp])) tl [(p, 0)] := ⟨[tp], upd_same, .cons (by show upd _ _ _ tp = _; rw [upd_ne (fun z => by rw [z] at ntl; rw [upd_same] at ntl; cases ntl), upd_same]; rfl) .nil⟩
  have hk2 : Kept s H (upd (upd H1 tp (.tup [.int (p : Int), .int 0])) tl (.lst [.ref tp])) := (hk1.new ntp).new ntl
  have hs2 := same_new ntl (.lst [.ref tp]) _ _ (same_new ntp (.tup [.int (p : Int), .int 0]) _ _ hs1)
  have hll2 := same_new ntl (.lst [.ref tp]) _ _ (same_new ntp (.tup [.int (p : Int), .int 0]) _ _ hll1)
  have ntl1 : H1 tl = none := by
    by_cases c : tl = tp
    · rw [c]; exact ntp
    · rw [upd_ne c] at ntl; exact ntl
  have ntls : tl ≠ s := (ne_of_none hs1 ntl1).symm
  have ntll : tl ≠ ll := (ne_of_none hll1 ntl1).symm
  have ntlH : H tl = none := by
    cases z : H tl with
    | none => rfl
    | some o => rw [hk1 _ _ z ntls] at ntl1; cases ntl1
  generalize upd (upd H1 tp (.tup [.int (p : Int), .int 0])) tl (.lst [.ref tp]) = H2 at htl0 hk2 hs2 hll2
  have hpS : p < S.length := by omega
  let Pv : Nat → L2.St → Hp → Prop := fun m σ H' => ∃ (v5 v6 v7 : Option V) (left : List Nat) (tr : List (Nat × Nat)) (Sc : List Bool), σ = [some (.ref e), some (.int (p : Int)), some (.ref s), some (.ref ll), some (.ref tl), v5, v6, v7] ∧ Kept s H H' ∧ H' ll = some (.lst (iv left)) ∧ TiesAt H' tl tr ∧ H' s = some (.lst (bv Sc)) ∧ Sc.length = N ∧ Dfs adj p (Got S) (Got Sc) left tr ∧ (∀ f ∈ tr, f.2 ≤ (adj f.1).length) ∧ todo adj Sc N + owed adj tr = m
  refine ⟨Pv, ⟨_, none, none, none, [], [(p, 0)], S.set p true, rfl, hk2, hll2, htl0, hs2, by rw [List.length_set]; exact hSl, dfs_start hnp (got_set hpS), fun f hf => by rw [List.mem_singleton.mp hf]; exact Nat.zero_le _, rfl⟩, ?_⟩
  rintro m σ H3 ⟨v5, v6, v7, left, tr, Sc, rfl, hk3, hll3, htl3, hs3, hSc, hD, hle, hμ⟩
  refine ⟨_, rfl, Nat.zero_le _, fun p0 np0 => ⟨_, _, dp_tz (htl3.same (same_new np0 _)), dp_iz (L := []) upd_same, shaped_tz _, shaped_iz _, _, rfl, ?_⟩⟩
  rw [eqv_tz]
  have hk4 := hk3.new (o := .lst []) np0
  have hll4 := same_new np0 (.lst []) _ _ hll3
  have htl4 := htl3.same (same_new np0 (.lst []))
  have hs4 := same_new np0 (.lst []) _ _ hs3
  generalize upd H3 p0 (.lst []) = H4 at hk4 hll4 htl4 hs4
  rcases List.eq_nil_or_concat tr with rfl | ⟨rest, ⟨x, i⟩, rfl⟩
  · refine iteNot' rfl ⟨_, rfl, ?_⟩
    obtain ⟨d1, d2, d3, d4, d5⟩ := dfs_end hD hcl
    exact q _ ll left Sc nll hll4 hs4 hk4 ⟨d1, hSc, fun x hx => by have := (List.getElem?_eq_some_iff.mp ((d2 x).mpr (.inr hx))).1; omega, d2, d3, d4, d5⟩
  rw [List.concat_eq_append] at *
  refine iteNot (by simp) ?_
  refine ⟨fun σ' H' => ∃ m', m' < m ∧ Pv m' σ' H', fun σ' H' h => h, ?_⟩
  obtain ⟨xs, pt, g1, g2, g3, g4⟩ := htl4.pop
  refine ⟨_, rfl, .inl ⟨rfl, _, SqL.of g1⟩, tl, _, _, rfl, rfl, g1, g2, ?_⟩
  have nptl : pt ≠ tl := ne_of g3 g1 (by intro z; cases z)
  have hk5 : Kept s H (upd H4 tl (.lst xs.dropLast)) := hk4.put ntlH
  have hll5 : (upd H4 tl (.lst xs.dropLast)) ll = some (.lst (iv left)) := by rw [upd_ne ntll.symm]; exact hll4
  have hs5 : (upd H4 tl (.lst xs.dropLast)) s = some (.lst (bv Sc)) := by rw [upd_ne ntls.symm]; exact hs4
  have hp5 : (upd H4 tl (.lst xs.dropLast)) pt = some (.tup [.int (x : Int), .int (i : Int)]) := by rw [upd_ne nptl]; exact g3
  generalize upd H4 tl (.lst xs.dropLast) = H5 at hk5 hll5 hs5 hp5 g4
  refine ⟨pt, _, rfl, SqT.of hp5, rfl, _, _, rfl, _, _, rfl, rfl, ?_⟩
  have hgx : Got Sc x := (hD.iff_ x).mpr (.inr (.inr (by simp)))
  have hxN : x < N := by have := (List.getElem?_eq_some_iff.mp hgx).1; omega
  have hix : i ≤ (adj x).length := hle (x, i) (by simp)
  have hszx := hA.sz x
  have hmany : left.length + rest.length + 1 ≤ N := by
    have h1 := few (N := N) hD.nd (fun z hz => by
      have hg : Got Sc z := by
        rw [hD.iff_]
        rcases List.mem_append.mp hz with c | c
        · exact .inr (.inl c)
        · exact .inr (.inr c)
      have := (List.getElem?_eq_some_iff.mp hg).1
      omega)
    rw [List.length_append, List.length_map, List.length_append, List.length_singleton] at h1
    omega
  have how : owed adj (rest ++ [(x, i)]) = owed adj rest + ((adj x).length - i + 1) := by
    rw [owed_app]
    show owed adj rest + (((adj x).length - i + 1) + 0) = _
    omega
  obtain ⟨rx, rxs, e1, e2, e3⟩ := (hRk _ hk5).get hxN
  refine ⟨_, rfl, _, rfl, _, rfl, _, _, _, .ref rx, rfl, rfl, SqL.of e1, e2, rx, _, rfl, .inl (SqL.of e3), rfl, _, rfl, ?_⟩
  by_cases c : i = (adj x).length
  · refine iteYes (int_eq.mpr (by rw [List.length_map, c])) ?_
    refine ⟨_, rfl, .inl ⟨rfl, _, SqL.of hll5⟩, _, rfl, ll, _, _, rfl, rfl, hll5, ?_, ?_⟩
    · rw [List.length_map]
      exact Nat.lt_of_lt_of_le (by omega : left.length < 1000) (by decide)
    refine ⟨_, ?_, _, _, v7, left ++ [x], rest, Sc, rfl, hk5.put nll, by rw [upd_same, iv_app], ?_, ?_, hSc, dfs_leave hD (by omega) hcl, fun f hf => hle f (List.mem_append_left _ hf), rfl⟩
    · rw [← hμ, how]
      omega
    · obtain ⟨tas, t1, t2⟩ := g4
      refine ⟨tas, by rw [upd_ne ntll]; exact t1, paired_mono (fun q' e' hq => ?_) t2⟩
      have : q' ≠ ll := ne_of hq hll5 (by intro z; cases z)
      show upd _ _ _ q' = _
      rw [upd_ne this]
      exact hq
    · rw [upd_ne nls.symm]
      exact hs5
  refine iteNo (fun z => c (by have := int_eq.mp z; rw [List.length_map] at this; omega)) ?_
  have hil : i < (adj x).length := by omega
  obtain ⟨xs1, hx1, hx1l⟩ := g4.get
  refine ⟨_, rfl, .inl ⟨rfl, _, SqL.of hx1⟩, _, rfl, _, rfl, _, _, rfl, rfl, (by show 2 ≤ sizeLine; decide), fun tq ntq => ?_⟩
  obtain ⟨ys, k1, k2, k3⟩ := g4.pushV (u := x) (v := i + 1) (x := V.int (x : Int)) (y := V.int ((i : Int) + 1)) rfl rfl ntq
  refine ⟨tl, _, _, rfl, rfl, k1, by rw [k2]; exact Nat.lt_of_lt_of_le (by omega : rest.length < 1000) (by decide), ?_⟩
  have hk6 : Kept s H (upd (upd H5 tq (.tup [.int (x : Int), .int ((i : Int) + 1)])) tl (.lst (ys ++ [.ref tq]))) := (hk5.new ntq).put ntlH
  have hll6 : (upd (upd H5 tq (.tup [.int (x : Int), .int ((i : Int) + 1)])) tl (.lst (ys ++ [.ref tq]))) ll = some (.lst (iv left)) := by rw [upd_ne ntll.symm]; exact same_new ntq _ _ _ hll5
  have hs6 : (upd (upd H5 tq (.tup [.int (x : Int), .int ((i : Int) + 1)])) tl (.lst (ys ++ [.ref tq]))) s = some (.lst (bv Sc)) := by rw [upd_ne ntls.symm]; exact same_new ntq _ _ _ hs5
  dsimp only
  generalize upd (upd H5 tq (.tup [.int (x : Int), .int ((i : Int) + 1)])) tl (.lst (ys ++ [.ref tq])) = H6 at hk6 hll6 hs6 k3
  obtain ⟨rx6, rxs6, f1, f2, f3⟩ := (hRk _ hk6).get hxN
  have hy : (adj x)[i]? = some ((adj x)[i]'hil) := List.getElem?_eq_getElem hil
  generalize (adj x)[i]'hil = y at hy
  have hyN : y < N := hA.lt x y (List.mem_of_getElem? hy)
  refine ⟨_, rfl, _, rfl, _, _, _, .ref rx6, rfl, rfl, SqL.of f1, f2, _, rfl, _, _, _, .int (y : Int), rfl, rfl, SqL.of f3, iv_at hy, ?_⟩
  have how2 : owed adj (rest ++ [(x, i + 1)]) = owed adj rest + ((adj x).length - (i + 1) + 1) := by
    rw [owed_app]
    show owed adj rest + (((adj x).length - (i + 1) + 1) + 0) = _
    omega
  have hle2 : ∀ f ∈ rest ++ [(x, i + 1)], f.2 ≤ (adj f.1).length := fun f hf => by
    rcases List.mem_append.mp hf with z | z
    · exact hle f (List.mem_append_left _ z)
    · rw [List.mem_singleton.mp z]
      exact hil
  rcases bl_of (L := Sc) (j := y) (by omega) with hb | hb
  · refine ⟨_, rfl, _, rfl, _, _, _, _, rfl, rfl, SqL.of hs6, bv_at hb, _, rfl, iteF ?_⟩
    refine ⟨_, ?_, _, _, _, left, rest ++ [(x, i + 1)], Sc, rfl, hk6, hll6, k3, hs6, hSc, dfs_old hD hy hb, hle2, rfl⟩
    rw [← hμ, how, how2]
    omega
  · refine ⟨_, rfl, _, rfl, _, _, _, _, rfl, rfl, SqL.of hs6, bv_at hb, _, rfl, iteT ?_⟩
    have hnew : ¬ Got Sc y := fun z => by unfold Got at z; rw [hb] at z; cases z
    refine ⟨_, rfl, _, rfl, s, _, _, y, rfl, rfl, hs6, ix_at (by rw [List.length_map, hSc]; exact hyN), ?_⟩
    rw [bv_set]
    have hk7 : Kept s H (upd H6 s (.lst (bv (Sc.set y true)))) := fun b o z n => by rw [upd_ne n]; exact hk6 _ _ z n
    have hll7 : (upd H6 s (.lst (bv (Sc.set y true)))) ll = some (.lst (iv left)) := by rw [upd_ne nls]; exact hll6
    have hs7 : (upd H6 s (.lst (bv (Sc.set y true)))) s = some (.lst (bv (Sc.set y true))) := upd_same
    have hT7 : TiesAt (upd H6 s (.lst (bv (Sc.set y true)))) tl (rest ++ [(x, i + 1)]) := by
      obtain ⟨tas, t1, t2⟩ := k3
      refine ⟨tas, by rw [upd_ne ntls]; exact t1, paired_mono (fun q' e' hq => ?_) t2⟩
      have : q' ≠ s := ne_of hq hs6 (by intro z; cases z)
      show upd _ _ _ q' = _
      rw [upd_ne this]
      exact hq
    generalize upd H6 s (.lst (bv (Sc.set y true))) = H7 at hk7 hll7 hs7 hT7
    obtain ⟨xs7, hx7, hx7l⟩ := hT7.get
    refine ⟨_, rfl, .inl ⟨rfl, _, SqL.of hx7⟩, _, rfl, (by show 2 ≤ sizeLine; decide), fun tr2 ntr => ?_⟩
    obtain ⟨zs, m1, m2, m3⟩ := hT7.pushV (u := y) (v := 0) (x := V.int (y : Int)) (y := V.int 0) rfl rfl ntr
    refine ⟨tl, _, _, rfl, rfl, m1, by rw [m2, List.length_append, List.length_singleton]; exact Nat.lt_of_lt_of_le (by omega : rest.length + 1 < 1000) (by decide), ?_⟩
    have hset := todo_set adj hb N
    rw [if_pos hyN] at hset
    have how3 : owed adj (rest ++ [(x, i + 1)] ++ [(y, 0)]) = owed adj (rest ++ [(x, i + 1)]) + ((adj y).length + 1) := by
      rw [owed_app]
      show _ + (((adj y).length - 0 + 1) + 0) = _
      omega
    refine ⟨_, ?_, _, _, _, left, rest ++ [(x, i + 1)] ++ [(y, 0)], Sc.set y true, rfl, (hk7.new ntr).put ntlH, by rw [upd_ne ntll.symm]; exact same_new ntr _ _ _ hll7, m3, by rw [upd_ne ntls.symm]; exact same_new ntr _ _ _ hs7, by rw [List.length_set]; exact hSc, dfs_new hD hy hnew (got_set (by omega)), fun f hf => ?_, rfl⟩
    · rw [← hμ, how, how3, how2]
      omega
    · rcases List.mem_append.mp hf with z | z
      · exact hle2 f z
      · rw [List.mem_singleton.mp z]
        exact Nat.zero_le _
end
end My
namespace My
open PySem L2 PyProof.Rows
abbrev cn (L : List Nat) : List Int := L.map fun n : Nat => (n : Int)
theorem cn_rising {L : List Nat} (h : L.Pairwise (· < ·)) : (cn L).Pairwise (· < ·) := List.Pairwise.map _ (fun a b hab => by show (a : Int) < (b : Int); omega) h
theorem cn_nodup {L : List Nat} (h : L.Nodup) : (cn L).Nodup := List.Pairwise.map (R := (· ≠ ·)) _ (fun a b hab z => hab (by omega)) h
theorem cls_sorted {E : Nat → Nat → Prop} {N q : Nat} {M : List Nat} {ys : List Int} (hn : M.Nodup) (hm : ∀ x, x ∈ M ↔ x < N ∧ Mut E q x) (hp : ys.Perm (cn M)) (hs : ys.Pairwise (· ≤ ·)) : ys = cn (clsL E N q) := by
  refine rising_ext (rising_of hs ((hp.nodup_iff).mpr (cn_nodup hn))) (cn_rising clsL_rising) fun z => ?_
  rw [hp.mem_iff, List.mem_map, List.mem_map]
  constructor
  · rintro ⟨x, hx, rfl⟩
    exact ⟨x, clsL_mem.mpr ((hm x).mp hx), rfl⟩
  · rintro ⟨x, hx, rfl⟩
    exact ⟨x, (hm x).mpr (clsL_mem.mp hx), rfl⟩
noncomputable def headO (E : Nat → Nat → Prop) (N p : Nat) : Nat := @dite _ (p < N) (Classical.propDecidable _) (fun h => Classical.choose (head_of (E := E) h)) fun _ => 0
theorem headO_spec {E : Nat → Nat → Prop} {N p : Nat} (h : p < N) : headO E N p ∈ headsL E N ∧ Mut E p (headO E N p) := by
  unfold headO
  rw [dif_pos h]
  exact Classical.choose_spec (head_of (E := E) h)
theorem reps_heads {E : Nat → Nat → Prop} {N : Nat} {HS : List Nat} (hR : HS.Pairwise fun a b => ¬ Mut E a b) (hlt : ∀ q ∈ HS, q < N) (hall : ∀ x, x < N → ∃ q ∈ HS, Mut E x q) : ∃ hs : List Nat, hs.Perm (headsL E N) ∧ HS.map (clsL E N) = hs.map (clsL E N) := by
  refine ⟨HS.map (headO E N), ?_, ?_⟩
  · have hnd : (HS.map (headO E N)).Nodup := by
      rw [List.Nodup, List.pairwise_map]
      refine List.Pairwise.imp_of_mem ?_ hR
      intro a b ha hb h e
      have h1 := (headO_spec (E := E) (hlt a ha)).2
      have h2 := (headO_spec (E := E) (hlt b hb)).2
      rw [e] at h1
      exact h (h1.trans h2.symm)
    refine (List.perm_ext_iff_of_nodup hnd (headsL_rising.imp fun h => Nat.ne_of_lt h)).mpr fun x => ?_
    rw [List.mem_map]
    constructor
    · rintro ⟨q, hq, rfl⟩
      exact (headO_spec (hlt q hq)).1
    · intro hx
      have hx0 := headsL_mem.mp hx
      obtain ⟨q, hq, hm⟩ := hall x hx0.1
      have h2 := headO_spec (E := E) (hlt q hq)
      exact ⟨q, hq, (head_unique hx h2.1 (hm.trans h2.2)).symm⟩
  · rw [List.map_map]
    refine List.map_congr_left fun q hq => ?_
    exact clsL_same (headO_spec (hlt q hq)).2
abbrev Ed (ts : List (Nat × Nat)) : Nat → Nat → Prop := Edge ts []
theorem ed_low {ts : List (Nat × Nat)} {N : Nat} (ho : OkWeb N ts) {a b : Nat} (e : Ed ts a b) : a < N ∧ b < N := by
  obtain ⟨i, h, _⟩ := e
  exact ho.ok _ (List.mem_of_getElem? h)
theorem ed_swaps {ts : List (Nat × Nat)} (a b : Nat) : Ed (swaps ts) a b ↔ Ed ts b a := by
  unfold Ed Edge swaps
  constructor
  · rintro ⟨i, h, n⟩
    rw [List.getElem?_map] at h
    cases e : ts[i]? with
    | none => rw [e] at h; cases h
    | some p =>
      rw [e] at h
      cases h
      exact ⟨i, e, n⟩
  · rintro ⟨i, h, n⟩
    refine ⟨i, ?_, n⟩
    rw [List.getElem?_map, h]
    rfl
theorem edf {ts : List (Nat × Nat)} : (fun u v => v ∈ outs ts [] u) = Ed ts := by
  funext u v
  exact propext outs_mem
theorem lf_ok {ts : List (Nat × Nat)} {N : Nat} (ho : OkWeb N ts) : LfOk (outs ts []) N :=
  ⟨ho.n1, fun u v h => (ed_low ho (outs_mem.mp h)).2, fun u => Nat.le_trans (outN_len ts [] u ts.length) ho.m⟩
def LolAt (H : Hp) (l : Addr) (LL : List (List Nat)) : Prop := ∃ as : List Addr, H l = some (.lst (as.map V.ref)) ∧ Paired (fun (p : Addr) (L : List Nat) => H p = some (.lst (iv L))) as LL
theorem LolAt.same {H H' : Hp} {l : Addr} {LL : List (List Nat)} (h : LolAt H l LL) (s : Same H H') : LolAt H' l LL := by
  obtain ⟨as, h1, h2⟩ := h
  exact ⟨as, s _ _ h1, paired_mono (fun p e hp => s _ _ hp) h2⟩
theorem outN_at {ts : List (Nat × Nat)} {i u v : Nat} (h : ts[i]? = some (u, v)) (j : Nat) : outN ts [] j (i + 1) = if u = j then outN ts [] j i ++ [v] else outN ts [] j i := by
  show (match ts[i]? with | some e => if e.1 = j ∧ i ∉ [] then outN ts [] j i ++ [e.2] else outN ts [] j i | none => outN ts [] j i) = _
  rw [h]
  by_cases c : u = j
  · show (if u = j ∧ i ∉ [] then _ else _) = _
    rw [if_pos c, if_pos ⟨c, by simp⟩]
  · show (if u = j ∧ i ∉ [] then _ else _) = _
    rw [if_neg c, if_neg (fun z => c z.1)]
theorem swaps_at {ts : List (Nat × Nat)} {i u v : Nat} (h : ts[i]? = some (u, v)) : (swaps ts)[i]? = some (v, u) := by
  unfold swaps
  rw [List.getElem?_map, h]
  rfl
theorem swaps_len (ts : List (Nat × Nat)) : (swaps ts).length = ts.length := by
  unfold swaps
  rw [List.length_map]
/-- rows that grow -/
theorem row_put {H : Hp} {fas : List Addr} {f g : Nat → List Nat} {u v : Nat} {xu : Addr} (hn : fas.Nodup) (eu : fas[u]? = some xu) (h : ∀ (j : Nat) (x : Addr), fas[j]? = some x → H x = some (.lst (iv (f j)))) (hg : ∀ j, g j = if u = j then f j ++ [v] else f j) :
    ∀ (j : Nat) (x : Addr), fas[j]? = some x → (upd H xu (.lst (iv (f u) ++ [.int (v : Int)]))) x = some (.lst (iv (g j))) := fun j x e => by
  by_cases c : u = j
  · subst c
    rw [eu] at e
    cases e
    rw [upd_same, hg, if_pos rfl, iv_app]
  · have nx : x ≠ xu := fun z => c (nodup_get hn eu (by rw [← z]; exact e))
    rw [upd_ne nx, hg, if_neg c]
    exact h j x e
structure Pass1 (ts : List (Nat × Nat)) (N i : Nat) (L : List Nat) (S : List Bool) : Prop where
  nd : L.Nodup
  lt : ∀ x ∈ L, x < N
  got : ∀ x, Got S x ↔ x ∈ L
  ln : S.length = N
  cl : ∀ u v, Got S u → v ∈ outs ts [] u → Got S v
  up : ∀ x, x < i → x ∈ L
  star : StarL (Ed ts) L
theorem rep_false (N : Nat) : (List.replicate (N : Int).toNat [V.bl false]).flatten = bv (List.replicate N false) := by
  rw [Int.toNat_natCast]
  induction N with
  | zero => rfl
  | succ n ih =>
    rw [List.replicate_succ, List.replicate_succ, List.flatten_cons, ih]
    rfl
theorem no_got (N x : Nat) : ¬ Got (List.replicate N false) x := fun h => by
  unfold Got at h
  rw [List.getElem?_replicate] at h
  split at h
  · cases h
  · cases h
theorem pass1_start (ts : List (Nat × Nat)) (N : Nat) : Pass1 ts N 0 [] (List.replicate N false) :=
  ⟨by simp, by simp, fun x => ⟨fun h => absurd h (no_got N x), fun h => by simp at h⟩, by simp, fun u v h => absurd h (no_got N u), fun x h => by omega, star_nil⟩
theorem pass1_old {ts : List (Nat × Nat)} {N i : Nat} {L : List Nat} {S : List Bool} (h : Pass1 ts N i L S) (hi : Got S i) : Pass1 ts N (i + 1) L S :=
  ⟨h.nd, h.lt, h.got, h.ln, h.cl, fun x hx => by
    by_cases c : x = i
    · rw [c]; exact (h.got i).mp hi
    · exact h.up x (by omega), h.star⟩
theorem pass1_new {ts : List (Nat × Nat)} {N i : Nat} {L M : List Nat} {S S' : List Bool} (h : Pass1 ts N i L S) (r : LfRes (outs ts []) N i S S' M) (hi : ¬ Got S i) : Pass1 ts N (i + 1) (L ++ M) S' := by
  refine ⟨?_, fun x hx => ?_, fun x => ?_, r.ln, r.cl, fun x hx => ?_, star_app h.star fun A q B e x rr => ?_⟩
  · rw [List.nodup_append]
    refine ⟨h.nd, r.nd, fun a ha b hb e => ?_⟩
    rw [← e] at hb
    exact ((r.mem a).mp hb).2 ((h.got a).mpr ha)
  · rcases List.mem_append.mp hx with z | z
    · exact h.lt x z
    · exact r.lt x z
  · rw [r.got, h.got, List.mem_append]
  · by_cases c : x = i
    · rw [c]
      exact List.mem_append_right _ ((r.mem i).mpr ⟨rch_refl i, hi⟩)
    · exact List.mem_append_left _ (h.up x (by omega))
  · have hr := r.star A q B e x (by rw [edf]; exact rr)
    rw [edf] at hr
    rcases hr with z | z
    · exact .inl ((h.got x).mp z)
    · exact .inr z
theorem iv_bv {L : List Nat} {S : List Bool} (h : iv L = bv S) : S = [] := by
  cases S with
  | nil => rfl
  | cons b r =>
    cases L with
    | nil => cases h
    | cons n t => cases (List.cons.inj h).1
theorem LolAt.put {H : Hp} {l p : Addr} {LL : List (List Nat)} {S S2 : List Bool} (h : LolAt H l LL) (hl : l ≠ p) (hp : H p = some (.lst (bv S))) (hS : S ≠ []) {H' : Hp} (k : Kept p H H') : LolAt H' l LL := by
  obtain ⟨as, h1, h2⟩ := h
  refine ⟨as, k _ _ h1 hl, paired_mono (fun q L hq => k _ _ hq fun z => ?_) h2⟩
  rw [z, hp] at hq
  exact hS (iv_bv (HO.lst.inj (Option.some.inj hq)).symm)
theorem LolAt.push {H : Hp} {l p : Addr} {LL : List (List Nat)} {L : List Nat} (h : LolAt H l LL) (np : H p = none) : ∃ xs, (upd H p (.lst (iv L))) l = some (.lst xs) ∧ xs.length = LL.length ∧ LolAt (upd (upd H p (.lst (iv L))) l (.lst (xs ++ [.ref p]))) l (LL ++ [L]) := by
  obtain ⟨as, h1, h2⟩ := h
  have nl : l ≠ p := ne_of_none h1 np
  refine ⟨as.map V.ref, by rw [upd_ne nl]; exact h1, by rw [List.length_map]; exact paired_len h2, as ++ [p], by rw [upd_same, List.map_append]; rfl, paired_app ?_ (by rw [upd_ne nl.symm, upd_same])⟩
  have key : ∀ (q : Addr) (M : List Nat), q ∈ as → H q = some (.lst (iv M)) → q ≠ l := fun q M hq e z => by
    rw [z, h1] at e
    have e := HO.lst.inj (Option.some.inj e)
    have hm : V.ref q ∈ iv M := by rw [← e]; exact List.mem_map.mpr ⟨q, hq, rfl⟩
    obtain ⟨n, _, z2⟩ := List.mem_map.mp hm
    cases z2
  clear h1
  have go : ∀ {bs : List Addr} {MM : List (List Nat)}, (∀ q ∈ bs, q ∈ as) → Paired (fun (p : Addr) (L : List Nat) => H p = some (.lst (iv L))) bs MM → Paired (fun (q : Addr) (M : List Nat) => (upd (upd H p (.lst (iv L))) l (.lst (as.map V.ref ++ [.ref p]))) q = some (.lst (iv M))) bs MM := by
    intro bs MM hb hp
    induction hp with
    | nil => exact .nil
    | @cons q M bs MM r t ih =>
      refine .cons ?_ (ih fun x hx => hb x (List.mem_cons_of_mem _ hx))
      rw [upd_ne (key q M (hb q List.mem_cons_self) r), upd_ne (ne_of_none r np)]
      exact r
  exact go (fun q hq => hq) h2
/-- what a list tells is new -/
def NewIn (H H' : Hp) (l : Addr) : Prop := ∀ xs q, H' l = some (.lst xs) → V.ref q ∈ xs → H q = none
theorem NewIn.keep {H H' H2 : Hp} {l : Addr} (h : NewIn H H' l) (e : H2 l = H' l) : NewIn H H2 l := fun xs q hx hq => h xs q (e ▸ hx) hq
structure Pass2 (ts : List (Nat × Nat)) (N : Nat) (B : List Nat) (S : List Bool) (HS : List Nat) : Prop where
  ln : S.length = N
  got : ∀ x, Got S x ↔ ∃ y ∈ B, Mut (Ed ts) y x
  cl : ∀ u v, Got S u → v ∈ outs (swaps ts) [] u → Got S v
  rep : HS.Pairwise fun a b => ¬ Mut (Ed ts) a b
  sub : ∀ q ∈ HS, q ∈ B
  all : ∀ y ∈ B, ∃ q ∈ HS, Mut (Ed ts) y q
theorem pass2_start (ts : List (Nat × Nat)) (N : Nat) : Pass2 ts N [] (List.replicate N false) [] :=
  ⟨by simp, fun x => ⟨fun h => absurd h (no_got N x), fun ⟨y, hy, _⟩ => by simp at hy⟩, fun u v h => absurd h (no_got N u), by simp, by simp, by simp⟩
theorem pass2_old {ts : List (Nat × Nat)} {N q : Nat} {B : List Nat} {S : List Bool} {HS : List Nat} (h : Pass2 ts N B S HS) (hq : Got S q) : Pass2 ts N (B ++ [q]) S HS := by
  obtain ⟨y0, hy0, m0⟩ := (h.got q).mp hq
  refine ⟨h.ln, fun x => ?_, h.cl, h.rep, fun z hz => List.mem_append_left _ (h.sub z hz), fun y hy => ?_⟩
  · rw [h.got]
    constructor
    · rintro ⟨y, hy, m⟩
      exact ⟨y, List.mem_append_left _ hy, m⟩
    · rintro ⟨y, hy, m⟩
      rcases List.mem_append.mp hy with z | z
      · exact ⟨y, z, m⟩
      · rw [List.mem_singleton.mp z] at m
        exact ⟨y0, hy0, m0.trans m⟩
  · rcases List.mem_append.mp hy with z | z
    · exact h.all y z
    · rw [List.mem_singleton.mp z]
      obtain ⟨r, hr, m⟩ := h.all y0 hy0
      exact ⟨r, hr, m0.symm.trans m⟩
theorem pass2_mem {ts : List (Nat × Nat)} {N q : Nat} {A B L : List Nat} {S S' : List Bool} {HS M : List Nat} (ho : OkWeb N ts) (h : Pass2 ts N B S HS) (hL : L = A ++ q :: B.reverse) (hst : StarL (Ed ts) L) (hnd : L.Nodup) (hall : ∀ x, x < N → x ∈ L) (hqN : q < N) (hq : ¬ Got S q) (r : LfRes (outs (swaps ts) []) N q S S' M) (x : Nat) : x ∈ M ↔ x < N ∧ Mut (Ed ts) q x := by
  subst hL
  have hc := class_of hst hnd (fun y hy => hall y (rch_low (fun a b e => (ed_low ho e).1) hqN hy)) (S := Got S) (fun y => by rw [h.got]; simp) hq x
  rw [r.mem, edf, rch_back (fun a b => ed_swaps a b), hc]
  exact ⟨fun z => ⟨rch_low (fun a b e => (ed_low ho e).1) hqN z.2, z⟩, fun z => z.2⟩
theorem pass2_new {ts : List (Nat × Nat)} {N q : Nat} {B : List Nat} {S S' : List Bool} {HS M : List Nat} (ho : OkWeb N ts) (h : Pass2 ts N B S HS) (hq : ¬ Got S q) (hqN : q < N) (r : LfRes (outs (swaps ts) []) N q S S' M) (hm : ∀ x, x ∈ M ↔ x < N ∧ Mut (Ed ts) q x) : Pass2 ts N (B ++ [q]) S' (HS ++ [q]) := by
  refine ⟨r.ln, fun x => ?_, r.cl, ?_, fun z hz => ?_, fun y hy => ?_⟩
  · rw [r.got, h.got, hm]
    constructor
    · rintro (⟨y, hy, m⟩ | ⟨_, m⟩)
      · exact ⟨y, List.mem_append_left _ hy, m⟩
      · exact ⟨q, by simp, m⟩
    · rintro ⟨y, hy, m⟩
      rcases List.mem_append.mp hy with z | z
      · exact .inl ⟨y, z, m⟩
      · rw [List.mem_singleton.mp z] at m
        exact .inr ⟨rch_low (fun a b e => (ed_low ho e).1) hqN m.2, m⟩
  · rw [List.pairwise_append]
    refine ⟨h.rep, by simp, fun a ha b hb m => ?_⟩
    rw [List.mem_singleton.mp hb] at m
    exact hq ((h.got q).mpr ⟨a, h.sub a ha, m⟩)
  · rcases List.mem_append.mp hz with w | w
    · exact List.mem_append_left _ (h.sub z w)
    · exact List.mem_append_right _ w
  · rcases List.mem_append.mp hy with z | z
    · obtain ⟨p, hp, m⟩ := h.all y z
      exact ⟨p, List.mem_append_left _ hp, m⟩
    · rw [List.mem_singleton.mp z]
      exact ⟨q, by simp, mut_refl q⟩
section
variable {P : Program} {w : World} {K : PySem.W.Frag} {mg : Str → Option Value} {base : Heap} {C : Addr}
def spparts_in_turn (_ : PySem.W.Frag) (_ : Addr) : Sp := fun vs H Q _ => ∃ N s ts, vs = [.int ((N : Nat) : Int), .ref s] ∧ StepsAt H s ts ∧ OkWeb N ts ∧ ∀ H' l (hs : List Nat), H l = none → Same H H' → hs.Perm (headsL (Ed ts) N) → LolAt H' l (hs.map (clsL (Ed ts) N)) → NewIn H H' l → Q (.ref l) H'
theorem okparts_in_turn (D : Def K mg "parts_in_turn" sparts_in_turn ["points", "steps"]) (B : Bs mg) (Glb : Glo mg) (WK : WebK K mg C)
    (h_left_from : Good P w K mg base "_left_from" s_left_from ["ends", "point", "seen"] 1 (sp_left_from K C)) :
    Good P w K mg base "parts_in_turn" sparts_in_turn ["points", "steps"] 2 (spparts_in_turn K C) := by
  refine D.good fun f fd F => ?_
  obtain ⟨f_left_from, d_left_from, O_left_from, m_left_from, k_left_from, b_left_from, F_left_from⟩ := h_left_from
  refine F.ok scparts_in_turn (fun vs H Q E h => ?_) (fun cdv A outer s H vs Q E hr h => ?_)
  · obtain ⟨N, s, ts, rfl, hs, ho, q⟩ := h
    first | rfl | (rcases h with ⟨_, _, rfl, _⟩ | ⟨_, rfl, _⟩ <;> rfl)
  obtain ⟨N, s, ts, rfl, hs, ho, q⟩ := h
  refine ⟨_, (pss_cons (ps_setLc (i := 2) (own := [("_", 6)]) (g := gName 6) (by rfl) scparts_in_turn.nd rfl rfl (sw_true rfl rfl rfl (by decide +kernel)) (pi_range1 (by rfl) B.range (pa_cons (pv 0) pa_nil)) (blkOk_by (own := [("_", 6)]) (N := ["points", "steps", "ahead", "behind", "near", "far", "_", "left", "seen", "point", "parts"]) (sc := defScope sparts_in_turn) (by decide +kernel)) (fun _ _ _ _ _ => (pg_name (i := 6) scparts_in_turn.nd rfl (by first | exact Or.inl rfl | exact Or.inr rfl))) (fun _ _ _ _ _ => pts_nil) (fun _ _ _ _ _ => (pe_lst pa_nil)))
  (pss_cons (ps_setLc (i := 3) (own := [("_", 6)]) (g := gName 6) (by rfl) scparts_in_turn.nd rfl rfl (sw_true rfl rfl rfl (by decide +kernel)) (pi_range1 (by rfl) B.range (pa_cons (pv 0) pa_nil)) (blkOk_by (own := [("_", 6)]) (N := ["points", "steps", "ahead", "behind", "near", "far", "_", "left", "seen", "point", "parts"]) (sc := defScope sparts_in_turn) (by decide +kernel)) (fun _ _ _ _ _ => (pg_name (i := 6) scparts_in_turn.nd rfl (by first | exact Or.inl rfl | exact Or.inr rfl))) (fun _ _ _ _ _ => pts_nil) (fun _ _ _ _ _ => (pe_lst pa_nil)))
  (pss_cons (ps_for PassesOwn.never rfl (pi_list (pv 1)) (pg_tup rfl (pgs_cons (pg_name (i := 4) scparts_in_turn.nd rfl (by first | exact Or.inl rfl | exact Or.inr rfl)) (pgs_cons (pg_name (i := 5) scparts_in_turn.nd rfl (by first | exact Or.inl rfl | exact Or.inr rfl)) (pgs_cons (pg_name (i := 6) scparts_in_turn.nd rfl (by first | exact Or.inl rfl | exact Or.inr rfl)) pgs_nil))))
    (pss_cons (ps_expr (pe_bm PySem.F.plainAttrs_list PySem.F.slot_list_append PySem.F.type_list_append mt_append (pe_ix ix_list (pv 2) (pv 4) (fun _ _ => rfl)) (pa_cons (pv 5) pa_nil)))
  (pss_one (ps_expr (pe_bm PySem.F.plainAttrs_list PySem.F.slot_list_append PySem.F.type_list_append mt_append (pe_ix ix_list (pv 3) (pv 5) (fun _ _ => rfl)) (pa_cons (pv 4) pa_nil))))))
  (pss_cons (ps_set (i := 7) scparts_in_turn.nd rfl (by first | exact Or.inl rfl | exact Or.inr rfl) (pe_lst pa_nil))
  (pss_cons (ps_set (i := 8) scparts_in_turn.nd rfl (by first | exact Or.inl rfl | exact Or.inr rfl) (pe_op op_rep (pe_lst (pa_cons pe_bl pa_nil)) (pv 0)))
  (pss_cons (ps_for PassesOwn.never rfl (pi_range1 (by rfl) B.range (pa_cons (pv 0) pa_nil)) (pg_name (i := 9) scparts_in_turn.nd rfl (by first | exact Or.inl rfl | exact Or.inr rfl))
    (pss_one (ps_if (pt_not (pt_val (pe_ix ix_list (pv 8) (pv 9) (fun _ _ => rfl))))
    (pss_one (ps_expr (pe_bm PySem.F.plainAttrs_list PySem.F.slot_list_extend PySem.F.type_list_extend mt_extend (pv 7) (pa_cons (pe_call O_left_from hr rfl m_left_from k_left_from b_left_from .nil pass0 (pa_cons (pv 2) (pa_cons (pv 9) (pa_cons (pv 8) pa_nil)))) pa_nil)))) pss_nil)))
  (pss_cons (ps_set (i := 10) scparts_in_turn.nd rfl (by first | exact Or.inl rfl | exact Or.inr rfl) (pe_lst pa_nil))
  (pss_cons (ps_set (i := 8) scparts_in_turn.nd rfl (by first | exact Or.inl rfl | exact Or.inr rfl) (pe_op op_rep (pe_lst (pa_cons pe_bl pa_nil)) (pv 0)))
  (pss_cons (ps_for PassesOwn.never rfl (pi_list (pe_revL (pv 7))) (pg_name (i := 9) scparts_in_turn.nd rfl (by first | exact Or.inl rfl | exact Or.inr rfl))
    (pss_one (ps_if (pt_not (pt_val (pe_ix ix_list (pv 8) (pv 9) (fun _ _ => rfl))))
    (pss_one (ps_expr (pe_bm PySem.F.plainAttrs_list PySem.F.slot_list_append PySem.F.type_list_append mt_append (pv 10) (pa_cons (pe_callB cr_sortedI (by rfl) B.sorted (by decide +kernel) (pa_cons (pe_call O_left_from hr rfl m_left_from k_left_from b_left_from .nil pass0 (pa_cons (pv 3) (pa_cons (pv 9) (pa_cons (pv 8) pa_nil)))) pa_nil)) pa_nil)))) pss_nil)))
  (pss_one (ps_ret (pv 10)))))))))))), ?_⟩
  have hN := ho.n1
  have hm := ho.m
  refine ⟨_, rfl, _, rfl, by omega, by omega, fun D1 nD1 => ?_⟩
  refine lc_range (lo := 0) (n := N) (fun i H' => Fresh H D1 i H') (Fresh.zero nD1) ?_ ?_
  · intro i H' hi hf
    exact ⟨rfl, Nat.zero_le _, fun p np => hf.step nD1 (by omega) np⟩
  rintro H1 ⟨fas, f1, f2, f3, f4, f5, f6⟩
  refine ⟨_, rfl, _, rfl, by omega, by omega, fun D2 nD2 => ?_⟩
  refine lc_range (lo := 0) (n := N) (fun i H' => Fresh H1 D2 i H') (Fresh.zero nD2) ?_ ?_
  · intro i H' hi hf
    exact ⟨rfl, Nat.zero_le _, fun p np => hf.step nD2 (by omega) np⟩
  rintro H2 ⟨os, g1, g2, g3, g4, g5, g6⟩
  obtain ⟨sas, s1, s2, s3⟩ := hs
  have fo : ∀ x ∈ fas, x ∉ os := fun x hx z => by
    have h := (g3 x z).1
    rw [f6 x hx] at h
    cases h
  have D1f : D1 ∉ fas := fun z => (f3 D1 z).2 rfl
  have D1o : D1 ∉ os := fun z => by
    have h := (g3 D1 z).1
    rw [f5] at h
    cases h
  have D2o : D2 ∉ os := fun z => (g3 D2 z).2 rfl
  have D2f : D2 ∉ fas := fun z => by
    have h := f6 D2 z
    rw [nD2] at h
    cases h
  have nin : ∀ {b : Addr}, b ∉ fas → b ∉ os → b ∉ fas ++ os := fun h1 h2 z => (List.mem_append.mp z).elim h1 h2
  have old : ∀ b o, H b = some o → H2 b = some o ∧ b ∉ fas ++ os := fun b o e => by
    have h5 := f4 _ _ e
    refine ⟨g4 _ _ h5, nin (fun z => ?_) (fun z => ?_)⟩
    · rw [(f3 b z).1] at e; cases e
    · rw [(g3 b z).1] at h5; cases h5
  have hD12 : H2 D1 = some (.lst (fas.map V.ref)) := g4 _ _ f5
  refine ⟨_, rfl, s, rfl, ⟨_, SqL.of (old _ _ s1).1⟩, ?_⟩
  refine for_list (K := K) (a := s) (xs := sas.map V.ref) (fun i σ H' => ∃ v4 v5 v6 : Option V, σ = [some (.int (N : Int)), some (.ref s), some (.ref D1), some (.ref D2), v4, v5, v6, none, none, none, none] ∧ KeptR (fas ++ os) H2 H' ∧ (∀ (j : Nat) (x : Addr), fas[j]? = some x → H' x = some (.lst (iv (outN ts [] j i)))) ∧ (∀ (j : Nat) (x : Addr), os[j]? = some x → H' x = some (.lst (iv (outN (swaps ts) [] j i))))) ?_ ?_ ?_ ?_
  · exact ⟨_, _, _, rfl, .refl _ _, fun j x e => g4 _ _ (f6 x (List.mem_of_getElem? e)), fun j x e => g6 x (List.mem_of_getElem? e)⟩
  · rintro i σ H' hi ⟨v4, v5, v6, rfl, hk, _⟩
    exact SqL.of (hk _ _ (old _ _ s1).1 (old _ _ s1).2)
  · rintro i x σ H3 hx ⟨v4, v5, v6, rfl, hk, hf, hos⟩
    have hi := (List.getElem?_eq_some_iff.mp hx).1
    rw [List.length_map] at hi
    obtain ⟨⟨u, v⟩, he⟩ : ∃ e, ts[i]? = some e := ⟨ts[i]'(by omega), List.getElem?_eq_getElem _⟩
    obtain ⟨p, e1, e2⟩ := s3 i u v he
    rw [List.getElem?_map, e1] at hx
    cases hx
    obtain ⟨hu, hv⟩ := ho.ok _ (List.mem_of_getElem? he)
    have hp3 : H3 p = some (.tup [.int (u : Int), .int (v : Int), .int (i : Int)]) := hk _ _ (old _ _ e2).1 (old _ _ e2).2
    obtain ⟨xu, eu⟩ : ∃ x, fas[u]? = some x := ⟨fas[u]'(by omega), List.getElem?_eq_getElem _⟩
    obtain ⟨xv, ev⟩ : ∃ x, os[v]? = some x := ⟨os[v]'(by omega), List.getElem?_eq_getElem _⟩
    have mu := List.mem_of_getElem? eu
    have mv := List.mem_of_getElem? ev
    have hxu := hf u xu eu
    have hbi : i < 1000 := by omega
    refine ⟨p, _, rfl, SqT.of hp3, rfl, _, _, rfl, _, _, rfl, _, _, rfl, rfl, ?_⟩
    refine ⟨_, rfl, _, rfl, _, _, _, .ref xu, rfl, rfl, SqL.of (hk _ _ hD12 (nin D1f D1o)), atI_nat (by rw [List.getElem?_map, eu]; rfl), .inl ⟨rfl, _, SqL.of hxu⟩, _, rfl, xu, _, _, rfl, rfl, hxu, ?_, ?_⟩
    · rw [List.length_map]
      exact Nat.lt_of_le_of_lt (outN_len ts [] u i) (Nat.lt_trans hbi (by decide))
    have hk4 : KeptR (fas ++ os) H2 (upd H3 xu (.lst (iv (outN ts [] u i) ++ [.int (v : Int)]))) := hk.put (List.mem_append_left _ mu)
    have hf4 := row_put f2 eu hf (g := fun j => outN ts [] j (i + 1)) (v := v) (outN_at he)
    have ho4 : ∀ (j : Nat) (x : Addr), os[j]? = some x → (upd H3 xu (.lst (iv (outN ts [] u i) ++ [.int (v : Int)]))) x = some (.lst (iv (outN (swaps ts) [] j i))) := fun j x e => by
      rw [upd_ne (fun z => fo xu mu (by rw [← z]; exact List.mem_of_getElem? e))]
      exact hos j x e
    generalize upd H3 xu (.lst (iv (outN ts [] u i) ++ [.int (v : Int)])) = H4 at hk4 hf4 ho4
    have hxv := ho4 v xv ev
    refine ⟨_, rfl, _, rfl, _, _, _, .ref xv, rfl, rfl, SqL.of (hk4 _ _ g5 (nin D2f D2o)), atI_nat (by rw [List.getElem?_map, ev]; rfl), .inl ⟨rfl, _, SqL.of hxv⟩, _, rfl, xv, _, _, rfl, rfl, hxv, ?_, ?_⟩
    · rw [List.length_map]
      exact Nat.lt_of_le_of_lt (outN_len (swaps ts) [] v i) (Nat.lt_trans hbi (by decide))
    refine ⟨_, _, _, rfl, hk4.put (List.mem_append_right _ mv), fun j x e => ?_, row_put (u := v) (v := u) (f := fun j => outN (swaps ts) [] j i) (g := fun j => outN (swaps ts) [] j (i + 1)) g2 ev ho4 (outN_at (swaps_at he))⟩
    rw [upd_ne (fun z => fo x (List.mem_of_getElem? e) (by rw [z]; exact mv))]
    exact hf4 j x e
  rintro σ H3 ⟨v4, v5, v6, rfl, hk, hf, hos⟩
  rw [List.length_map, s2] at hf hos
  rw [← swaps_len ts] at hos
  have hS03 : Same H H3 := fun b o e => hk _ _ (old _ _ e).1 (old _ _ e).2
  have hR1 : RowsAt H3 D1 N (outs ts []) := ⟨fas, hk _ _ hD12 (nin D1f D1o), f1, hf⟩
  have hR2 : RowsAt H3 D2 N (outs (swaps ts) []) := ⟨os, hk _ _ g5 (nin D2f D2o), g1, hos⟩
  clear hk hf hos hD12
  refine ⟨Nat.zero_le _, fun ll nll => ⟨(by show 1 ≤ sizeLine; decide), fun b1 nb1 => ⟨_, rfl, b1, _, _, rfl, rfl, upd_same, by omega, by omega, ?_, fun sl nsl => ?_⟩⟩⟩
  · show 1 * (N : Int).toNat ≤ sizeLine
    rw [Int.toNat_natCast, Nat.one_mul]
    exact Nat.le_trans hN (by decide)
  rw [rep_false]
  have hS34 : Same H3 (upd (upd (upd H3 ll (.lst [])) b1 (.lst [.bl false])) sl (.lst (bv (List.replicate N false)))) := fun b o e => same_new nsl _ _ _ (same_new nb1 _ _ _ (same_new nll _ _ _ e))
  have hsl4 : (upd (upd (upd H3 ll (.lst [])) b1 (.lst [.bl false])) sl (.lst (bv (List.replicate N false)))) sl = some (.lst (bv (List.replicate N false))) := upd_same
  have hll4 : (upd (upd (upd H3 ll (.lst [])) b1 (.lst [.bl false])) sl (.lst (bv (List.replicate N false)))) ll = some (.lst (iv [])) := same_new nsl _ _ _ (same_new nb1 _ _ _ upd_same)
  have nls : ll ≠ sl := ne_of_none (same_new nb1 (.lst [.bl false]) _ _ (upd_same (H := H3) (a := ll) (o := .lst []))) nsl
  have nsl3 : H3 sl = none := by
    have h1 : Same H3 (upd (upd H3 ll (.lst [])) b1 (.lst [.bl false])) := fun b o e => same_new nb1 _ _ _ (same_new nll _ _ _ e)
    exact h1.free nsl
  generalize upd (upd (upd H3 ll (.lst [])) b1 (.lst [.bl false])) sl (.lst (bv (List.replicate N false))) = H4 at hS34 hsl4 hll4
  refine ⟨_, rfl, _, rfl, by omega, by omega, ?_⟩
  refine for_range (lo := 0) (n := N) (fun i σ H' => ∃ (v9 : Option V) (L : List Nat) (S : List Bool), σ = [some (.int (N : Int)), some (.ref s), some (.ref D1), some (.ref D2), v4, v5, v6, some (.ref ll), some (.ref sl), v9, none] ∧ Same H3 H' ∧ H' ll = some (.lst (iv L)) ∧ H' sl = some (.lst (bv S)) ∧ Pass1 ts N i L S) ⟨_, [], _, rfl, hS34, hll4, hsl4, pass1_start ts N⟩ ?_ ?_
  · rintro i σ H5 hi ⟨v9, L, S, rfl, hS5, hll5, hsl5, p1⟩
    rw [Int.zero_add]
    rcases bl_of (L := S) (j := i) (by rw [p1.ln]; exact hi) with hb | hb
    · exact ⟨_, rfl, _, rfl, _, _, _, _, rfl, rfl, SqL.of hsl5, bv_at hb, _, rfl, iteF ⟨_, L, S, rfl, hS5, hll5, hsl5, pass1_old p1 hb⟩⟩
    · refine ⟨_, rfl, _, rfl, _, _, _, _, rfl, rfl, SqL.of hsl5, bv_at hb, _, rfl, iteT ?_⟩
      have hno : ¬ Got S i := fun z => by unfold Got at z; rw [hb] at z; cases z
      refine ⟨_, rfl, .inl ⟨rfl, _, SqL.of hll5⟩, _, rfl, _, rfl, _, rfl, D1, i, sl, outs ts [], N, S, rfl, hR1.same hS5, lf_ok ho, hi, hsl5, p1.ln, hno, p1.cl, fun H6 m M S' nm hm6 hs6 hk6 res => ?_⟩
      have hll6 := hk6 _ _ hll5 nls
      have p1' := pass1_new p1 res hno
      have hfew := few p1'.nd p1'.lt
      rw [List.length_append] at hfew
      refine ⟨ll, m, _, _, rfl, rfl, hll6, hm6, ?_, ?_⟩
      · rw [List.length_map, List.length_map]
        exact Nat.le_trans hfew (Nat.le_trans hN (by decide))
      refine ⟨_, L ++ M, S', rfl, fun b o e => ?_, by rw [upd_same, iv, iv, iv, List.map_append], by rw [upd_ne nls.symm]; exact hs6, p1'⟩
      rw [upd_ne (ne_of_none e nll)]
      exact hk6 _ _ (hS5 _ _ e) (ne_of_none e nsl3)
  rintro σ H5 ⟨v9, L, S1, rfl, hS5, hll5, hsl5, p1⟩
  have hS05 := hS03.trans hS5
  have pN : ∀ x, x < N → x ∈ L := p1.up
  refine ⟨Nat.zero_le _, fun pl npl => ⟨(by show 1 ≤ sizeLine; decide), fun b2 nb2 => ⟨_, rfl, b2, _, _, rfl, rfl, upd_same, by omega, by omega, ?_, fun tl ntl => ?_⟩⟩⟩
  · show 1 * (N : Int).toNat ≤ sizeLine
    rw [Int.toNat_natCast, Nat.one_mul]
    exact Nat.le_trans hN (by decide)
  rw [rep_false]
  have hSq : Same H5 (upd (upd H5 pl (.lst [])) b2 (.lst [.bl false])) := fun b o e => same_new nb2 _ _ _ (same_new npl _ _ _ e)
  have hS56 : Same H5 (upd (upd (upd H5 pl (.lst [])) b2 (.lst [.bl false])) tl (.lst (bv (List.replicate N false)))) := fun b o e => same_new ntl _ _ _ (hSq _ _ e)
  have hpl6 : LolAt (upd (upd (upd H5 pl (.lst [])) b2 (.lst [.bl false])) tl (.lst (bv (List.replicate N false)))) pl [] := ⟨[], same_new ntl _ _ _ (same_new nb2 _ _ _ upd_same), .nil⟩
  have htl6 : (upd (upd (upd H5 pl (.lst [])) b2 (.lst [.bl false])) tl (.lst (bv (List.replicate N false)))) tl = some (.lst (bv (List.replicate N false))) := upd_same
  have npt : pl ≠ tl := ne_of_none (same_new nb2 (.lst [.bl false]) _ _ (upd_same (H := H5) (a := pl) (o := .lst []))) ntl
  have ntl5 : H5 tl = none := hSq.free ntl
  have npl0 : H pl = none := hS05.free npl
  generalize upd (upd (upd H5 pl (.lst [])) b2 (.lst [.bl false])) tl (.lst (bv (List.replicate N false))) = H6 at hS56 hpl6 htl6
  refine ⟨_, rfl, ll, _, rfl, SqL.of (hS56 _ _ hll5), fun rl nrl => ⟨rl, rfl, ⟨_, SqL.of upd_same⟩, ?_⟩⟩
  have hS57 : Same H5 (upd H6 rl (.lst (iv L).reverse)) := fun b o e => same_new nrl _ _ _ (hS56 _ _ e)
  have hpl7 := hpl6.same (same_new nrl (.lst (iv L).reverse))
  have htl7 := same_new nrl (.lst (iv L).reverse) _ _ htl6
  have hrl7 : (upd H6 rl (.lst (iv L).reverse)) rl = some (.lst (iv L.reverse)) := by rw [upd_same, iv, iv, List.map_reverse]
  have nrt : rl ≠ tl := (ne_of_none htl6 nrl).symm
  have nrp : rl ≠ pl := by
    obtain ⟨as, e, _⟩ := hpl6
    exact (ne_of_none e nrl).symm
  have hni7 : NewIn H (upd H6 rl (.lst (iv L).reverse)) pl := fun xs q hx hq => by
    obtain ⟨as, e, hp⟩ := hpl7
    cases hp
    rw [e] at hx
    cases hx
    simp at hq
  generalize upd H6 rl (.lst (iv L).reverse) = H7 at hni7 hS57 hpl7 htl7 hrl7
  refine for_list (K := K) (a := rl) (xs := iv L.reverse) (fun i σ H' => ∃ (v9 : Option V) (S : List Bool) (HS : List Nat), σ = [some (.int (N : Int)), some (.ref s), some (.ref D1), some (.ref D2), v4, v5, v6, some (.ref ll), some (.ref tl), v9, some (.ref pl)] ∧ Same H5 H' ∧ H' rl = some (.lst (iv L.reverse)) ∧ H' tl = some (.lst (bv S)) ∧ LolAt H' pl (HS.map (clsL (Ed ts) N)) ∧ NewIn H H' pl ∧ Pass2 ts N (L.reverse.take i) S HS) ⟨_, _, [], rfl, hS57, hrl7, htl7, hpl7, hni7, pass2_start ts N⟩ (fun i σ H' _ ⟨_, _, _, _, _, h, _⟩ => SqL.of h) ?_ ?_
  · rintro i x σ H8 hx ⟨v9', S, HS, rfl, hS8, hrl8, htl8, hpl8, hni8, p2⟩
    rw [List.getElem?_map] at hx
    obtain ⟨q0, hq0, rfl⟩ : ∃ q, L.reverse[i]? = some q ∧ x = V.int (q : Int) := by
      cases e : L.reverse[i]? with
      | none => rw [e] at hx; cases hx
      | some q => rw [e] at hx; exact ⟨q, rfl, (Option.some.inj hx).symm⟩
    have hqN : q0 < N := p1.lt q0 (List.mem_reverse.mp (List.mem_of_getElem? hq0))
    have htk := take_snocE hq0
    have hL : L = (L.reverse.drop (i + 1)).reverse ++ q0 :: (L.reverse.take i).reverse := by
      have e1 : L.reverse = L.reverse.take i ++ q0 :: L.reverse.drop (i + 1) := by
        conv => lhs; rw [← List.take_append_drop (i + 1) L.reverse, htk]
        simp
      have e2 := congrArg List.reverse e1
      rw [List.reverse_reverse] at e2
      exact e2.trans (by rw [List.reverse_append, List.reverse_cons, List.append_assoc]; rfl)
    rcases bl_of (L := S) (j := q0) (by rw [p2.ln]; exact hqN) with hb | hb
    · exact ⟨_, rfl, _, rfl, _, _, _, _, rfl, rfl, SqL.of htl8, bv_at hb, _, rfl, iteF ⟨_, S, HS, rfl, hS8, hrl8, htl8, hpl8, hni8, by rw [htk]; exact pass2_old p2 hb⟩⟩
    · refine ⟨_, rfl, _, rfl, _, _, _, _, rfl, rfl, SqL.of htl8, bv_at hb, _, rfl, iteT ?_⟩
      have hno : ¬ Got S q0 := fun z => by unfold Got at z; rw [hb] at z; cases z
      have hSne : S ≠ [] := fun z => by have := p2.ln; rw [z] at this; simp at this; omega
      obtain ⟨as8, hpl8a, hpl8b⟩ := id hpl8
      refine ⟨_, rfl, .inl ⟨rfl, _, SqL.of hpl8a⟩, _, rfl, _, rfl, _, rfl, D2, q0, tl, outs (swaps ts) [], N, S, rfl, hR2.same (hS5.trans hS8), lf_ok (okWeb_swaps ho), hqN, htl8, p2.ln, hno, p2.cl, fun H9 m M S' nm hm9 hs9 hk9 res => ?_⟩
      have hmm := pass2_mem ho p2 hL p1.star p1.nd pN hqN hno res
      have p2' := pass2_new ho p2 hno hqN res hmm
      refine ⟨m, cn M, rfl, SqL.of (by rw [hm9, iv_iz]), fun ys yl hperm hsort nyl => ?_⟩
      have hys := cls_sorted (E := Ed ts) (N := N) (q := q0) res.nd hmm hperm hsort
      subst hys
      have hpl9 := hpl8.put (S2 := S) npt htl8 hSne hk9
      obtain ⟨xs, g1', g2', g3'⟩ := hpl9.push (L := clsL (Ed ts) N q0) nyl
      rw [show (cn (clsL (Ed ts) N q0)).map V.int = iv (clsL (Ed ts) N q0) from (iv_iz _).symm]
      refine ⟨pl, _, _, rfl, rfl, g1', ?_, ?_⟩
      · rw [g2', List.length_map]
        have hnd : HS.Nodup := p2.rep.imp fun {a b} h e => h (by rw [e]; exact mut_refl b)
        have := few (N := N) hnd (fun y hy => p1.lt y (List.mem_reverse.mp (List.mem_of_mem_take (p2.sub y hy))))
        exact Nat.lt_of_le_of_lt (Nat.le_trans this hN) (by decide)
      refine ⟨_, S', HS ++ [q0], rfl, fun b o e => ?_, ?_, ?_, by rw [List.map_append]; exact g3', ?_, by rw [htk]; exact p2'⟩
      · rw [upd_ne (ne_of_none e npl)]
        exact same_new nyl _ _ _ (hk9 _ _ (hS8 _ _ e) (ne_of_none e ntl5))
      · rw [upd_ne nrp]
        exact same_new nyl _ _ _ (hk9 _ _ hrl8 nrt)
      · rw [upd_ne npt.symm]
        exact same_new nyl _ _ _ hs9
      · intro zs q1 hz hq1
        rw [upd_same] at hz
        cases hz
        have hpl8k : H9 pl = H8 pl := by
          rw [hpl8a]
          exact hk9 _ _ hpl8a npt
        rcases List.mem_append.mp hq1 with z | z
        · refine hni8 xs q1 ?_ z
          rw [← hpl8k]
          rw [upd_ne (ne_of_none (hk9 _ _ hpl8a npt) nyl)] at g1'
          exact g1'
        · have z := V.ref.inj (List.mem_singleton.mp z)
          rw [z]
          exact hS05.free (hS8.free (by
            cases e : H8 yl with
            | none => rfl
            | some o =>
              by_cases c : yl = tl
              · rw [c, hs9] at nyl; cases nyl
              · rw [hk9 _ _ e c] at nyl; cases nyl))
  rintro σ H8 ⟨v9', S, HS, rfl, hS8, hrl8, htl8, hpl8, hni8, p2⟩
  rw [List.length_map, List.take_length] at p2
  obtain ⟨hs, hperm, heq⟩ := reps_heads (N := N) p2.rep (fun q hq => p1.lt q (List.mem_reverse.mp (p2.sub q hq))) (fun x hx => p2.all x (List.mem_reverse.mpr (pN x hx)))
  rw [heq] at hpl8
  exact ⟨_, rfl, q H8 pl hs npl0 (hS05.trans hS8) hperm hpl8 hni8⟩
end
end My
namespace My
open PySem L2 PyProof.Rows
theorem ix_listK {X : Cx} {K : PySem.W.Frag} (h : X.K = K) : IxR X (rIxL K) := h ▸ ix_list
theorem ix_tupK {X : Cx} {K : PySem.W.Frag} (h : X.K = K) : IxR X (rIxT K) := h ▸ ix_tup
theorem op_in_seqK {X : Cx} {K : PySem.W.Frag} (h : X.K = K) : OpR X (compareOp .In) (rIn K false) := h ▸ op_in_seq
theorem op_notIn_seqK {X : Cx} {K : PySem.W.Frag} (h : X.K = K) : OpR X (compareOp .NotIn) (rIn K true) := h ▸ op_notIn_seq
/-! ### lists of lists as data -/
theorem dn_dz (L : List Nat) : dn L = dz (cn L) := by
  show PyData.list _ = PyData.list _
  rw [List.map_map]
  rfl
theorem dn_inj {L M : List Nat} (h : dn L = dn M) : L = M := by
  have h := PyData.list.inj h
  exact (List.map_inj_right (fun a b e => by have := PyData.int.inj e; omega)).mp h
theorem dpAll_lol {K : PySem.W.Frag} {H : Hp} : ∀ {as : List Addr} {LL : List (List Nat)}, Paired (fun (p : Addr) (L : List Nat) => H p = some (.lst (iv L))) as LL → DpAll K H (as.map V.ref) (LL.map dn)
  | _, _, .nil => .nil
  | _, _, .cons (b := L) h r => .cons (by rw [dn_dz]; exact dp_iv h) (dpAll_lol r)
theorem alikeAll_dn : ∀ L M : List Nat, PySem.W.alikeAll (L.map fun n : Nat => PyData.int (n : Int)) (M.map fun n : Nat => PyData.int (n : Int)) = true
  | [], _ => by rw [List.map_nil, PySem.W.alikeAll]
  | _ :: _, [] => by simp [PySem.W.alikeAll]
  | a :: L, b :: M => by
    rw [List.map_cons, List.map_cons, PySem.W.alikeAll, alikeAll_dn L M]
    simp [PySem.W.alike]
theorem lol_alike (LL : List (List Nat)) : PySem.W.AllAlike (LL.map dn) := by
  intro d hd e he
  obtain ⟨L, _, rfl⟩ := List.mem_map.mp hd
  obtain ⟨M, _, rfl⟩ := List.mem_map.mp he
  rw [PySem.W.alike]
  exact alikeAll_dn L M
theorem lol_sortable (LL : List (List Nat)) : PySem.W.Sortable (LL.map dn) := .others (enc := dn) fun b => ⟨fun z => (by cases z), fun xs z => (by cases z)⟩
theorem dn_depth (L : List Nat) : (dn L).depth ≤ 8 := by
  rw [dn_dz]
  show PyData.depth (.list ((cn L).map PyData.int)) ≤ 8
  unfold PyData.depth
  rw [depthAll_iz]
  omega
theorem lol_pick {H : Hp} {as : List Addr} {LL : List (List Nat)} (hp : Paired (fun (p : Addr) (L : List Nat) => H p = some (.lst (iv L))) as LL) : ∀ {zs : List V} {PP : List (List Nat)}, Paired (fun (z : V) (d : PyData) => ∃ j : Nat, (as.map V.ref)[j]? = some z ∧ (LL.map dn)[j]? = some d) zs (PP.map dn) →
    ∃ bs : List Addr, zs = bs.map V.ref ∧ Paired (fun (p : Addr) (L : List Nat) => H p = some (.lst (iv L))) bs PP ∧ ∀ b ∈ bs, b ∈ as
  | _, [], .nil => ⟨[], rfl, .nil, fun b hb => by simp at hb⟩
  | _, L :: PP, .cons ⟨j, h1, h2⟩ t => by
    obtain ⟨bs, e1, e2, e3⟩ := lol_pick hp t
    rw [List.getElem?_map] at h1 h2
    cases ea : as[j]? with
    | none => rw [ea] at h1; cases h1
    | some a =>
      cases el : LL[j]? with
      | none => rw [el] at h2; cases h2
      | some M =>
        rw [ea] at h1
        rw [el] at h2
        have eM : M = L := dn_inj (Option.some.inj h2)
        obtain ⟨M', k1, k2⟩ := paired_get hp ea
        rw [el] at k1
        cases k1
        subst eM
        have ez := Option.some.inj h1
        refine ⟨a :: bs, by rw [e1, ← ez]; rfl, .cons k2 e2, fun b hb => ?_⟩
        rcases List.mem_cons.mp hb with z | z
        · rw [z]; exact List.mem_of_getElem? ea
        · exact e3 b z
theorem LolAt.add {H : Hp} {l x : Addr} {LL : List (List Nat)} {L : List Nat} (h : LolAt H l LL) (hx : H x = some (.lst (iv L))) (nx : x ≠ l) : ∃ xs, H l = some (.lst xs) ∧ xs.length = LL.length ∧ LolAt (upd H l (.lst (xs ++ [.ref x]))) l (LL ++ [L]) := by
  obtain ⟨as, h1, h2⟩ := h
  refine ⟨as.map V.ref, h1, by rw [List.length_map]; exact paired_len h2, as ++ [x], by rw [upd_same, List.map_append]; rfl, paired_app ?_ (by rw [upd_ne nx]; exact hx)⟩
  have key : ∀ (q : Addr) (M : List Nat), q ∈ as → H q = some (.lst (iv M)) → q ≠ l := fun q M hq e z => by
    rw [z, h1] at e
    have e := HO.lst.inj (Option.some.inj e)
    have hm : V.ref q ∈ iv M := by rw [← e]; exact List.mem_map.mpr ⟨q, hq, rfl⟩
    obtain ⟨n, _, z2⟩ := List.mem_map.mp hm
    cases z2
  clear h1
  have go : ∀ {bs : List Addr} {MM : List (List Nat)}, (∀ q ∈ bs, q ∈ as) → Paired (fun (p : Addr) (L : List Nat) => H p = some (.lst (iv L))) bs MM → Paired (fun (q : Addr) (M : List Nat) => (upd H l (.lst (as.map V.ref ++ [.ref x]))) q = some (.lst (iv M))) bs MM := by
    intro bs MM hb hp
    induction hp with
    | nil => exact .nil
    | @cons q M bs MM r t ih =>
      refine .cons ?_ (ih fun y hy => hb y (List.mem_cons_of_mem _ hy))
      rw [upd_ne (key q M (hb q List.mem_cons_self) r)]
      exact r
  exact go (fun q hq => hq) h2
theorem LolAt.get {H : Hp} {l : Addr} {LL : List (List Nat)} (h : LolAt H l LL) {i : Nat} {L : List Nat} (e : LL[i]? = some L) : ∃ xs x, H l = some (.lst xs) ∧ atI xs (i : Int) = some (.ref x) ∧ H x = some (.lst (iv L)) := by
  obtain ⟨as, h1, h2⟩ := h
  have hi : i < as.length := by rw [paired_len h2]; exact (List.getElem?_eq_some_iff.mp e).1
  obtain ⟨M, k1, k2⟩ := paired_get h2 (List.getElem?_eq_getElem hi)
  rw [e] at k1
  cases k1
  exact ⟨_, as[i], h1, atI_nat (by rw [List.getElem?_map, List.getElem?_eq_getElem hi]; rfl), k2⟩
theorem range_map_at {α : Type} (f : Nat → α) {N i : Nat} (h : i < N) : ((List.range N).map f)[i]? = some (f i) := by
  rw [List.getElem?_map, List.getElem?_range h]
  rfl
/-! ### what is come to, as a list -/
noncomputable def rchL (E : Nat → Nat → Prop) (N p : Nat) : List Nat := (List.range N).filter fun x => bdec (Rch E p x)
theorem rchL_mem {E : Nat → Nat → Prop} {N p x : Nat} : x ∈ rchL E N p ↔ x < N ∧ Rch E p x := by
  unfold rchL
  rw [List.mem_filter, List.mem_range, bdec_iff]
theorem rchL_rising {E : Nat → Nat → Prop} {N p : Nat} : (rchL E N p).Pairwise (· < ·) := by
  unfold rchL
  exact List.Pairwise.filter _ List.pairwise_lt_range
theorem rch_up {E : Nat → Nat → Prop} {N : Nat} (h : ∀ a b, E a b → b < N) {u v : Nat} (hu : u < N) (r : Rch E u v) : v < N := by
  obtain ⟨k, r⟩ := r
  cases r with
  | nil => exact hu
  | snoc _ e => exact h _ _ e
theorem reach_cn {ts : List (Nat × Nat)} {N p : Nat} {R : List Int} (ho : OkWeb N ts) (hp : p < N) (h : IsReach (Edge ts []) p R) : R = cn (rchL (Ed ts) N p) := by
  refine rising_ext h.1 (cn_rising rchL_rising) fun z => ?_
  rw [h.2, List.mem_map]
  constructor
  · rintro ⟨x, rfl, hx⟩
    exact ⟨x, rchL_mem.mpr ⟨rch_up (fun a b e => (ed_low ho e).2) hp hx, hx⟩, rfl⟩
  · rintro ⟨x, hx, rfl⟩
    exact ⟨x, rfl, (rchL_mem.mp hx).2⟩
theorem filter_cls {ts : List (Nat × Nat)} {N p : Nat} (hp : p < N) : (rchL (Ed ts) N p).filter (fun o => decide (p ∈ rchL (Ed ts) N o)) = clsL (Ed ts) N p := by
  unfold rchL clsL
  rw [List.filter_filter]
  refine List.filter_congr fun x hx => ?_
  rw [Bool.eq_iff_iff, Bool.and_eq_true, bdec_iff, bdec_iff, decide_eq_true_iff]
  show p ∈ rchL (Ed ts) N x ∧ Rch (Ed ts) p x ↔ Mut (Ed ts) p x
  rw [rchL_mem]
  exact ⟨fun z => ⟨z.2, z.1.2⟩, fun z => ⟨⟨hp, z.2⟩, z.1⟩⟩
noncomputable def headsN (E : Nat → Nat → Prop) (i : Nat) : List Nat := (List.range i).filter fun p => bdec (∀ x, x < p → ¬ Mut E p x)
theorem headsN_yes {E : Nat → Nat → Prop} {N i : Nat} (hi : i < N) (h : i ∈ headsL E N) : headsN E (i + 1) = headsN E i ++ [i] := by
  unfold headsN
  rw [List.range_succ, List.filter_append]
  congr 1
  rw [List.filter_cons, List.filter_nil]
  exact if_pos (bdec_iff.mpr (headsL_mem.mp h).2)
theorem headsN_no {E : Nat → Nat → Prop} {N i : Nat} (hi : i < N) (h : i ∉ headsL E N) : headsN E (i + 1) = headsN E i := by
  unfold headsN
  rw [List.range_succ, List.filter_append, List.filter_cons, List.filter_nil, if_neg (fun z => h (headsL_mem.mpr ⟨hi, bdec_iff.mp z⟩)), List.append_nil]
theorem cls_first {E : Nat → Nat → Prop} {N p : Nat} (hp : p < N) : ∃ a r, clsL E N p = a :: r ∧ (a = p ↔ p ∈ headsL E N) := by
  have hm : p ∈ clsL E N p := clsL_mem.mpr ⟨hp, mut_refl p⟩
  have hr := clsL_rising (E := E) (N := N) (p := p)
  cases e : clsL E N p with
  | nil => rw [e] at hm; simp at hm
  | cons a r =>
    refine ⟨a, r, rfl, ?_, ?_⟩
    · rintro rfl
      refine headsL_mem.mpr ⟨hp, fun x hx hmx => ?_⟩
      have hx2 : x ∈ clsL E N a := clsL_mem.mpr ⟨by omega, hmx⟩
      rw [e] at hx2 hr
      rcases List.mem_cons.mp hx2 with z | z
      · omega
      · have := (List.pairwise_cons.mp hr).1 x z
        omega
    · intro h
      obtain ⟨r', e'⟩ := clsL_head h
      rw [e] at e'
      exact (List.cons.inj e').1
theorem nodup_len {N : Nat} {L : List Nat} (h : L.Pairwise (· < ·)) (hl : ∀ x ∈ L, x < N) : L.length ≤ N := few (h.imp fun z => Nat.ne_of_lt z) hl
theorem parts_len {E : Nat → Nat → Prop} {N : Nat} : (partsL E N).length ≤ N := by
  unfold partsL
  rw [List.length_map]
  exact nodup_len headsL_rising fun x hx => (headsL_mem.mp hx).1
section
variable {P : Program} {w : World} {K : PySem.W.Frag} {mg : Str → Option Value} {base : Heap} {C : Addr}
def spparts_of (_ : PySem.W.Frag) (C : Addr) : Sp := fun vs H Q _ => ∃ a N ts, vs = [.ref a] ∧ WebAt C a N ts H ∧ OkWeb N ts ∧ ∀ H' l, H l = none → Same H H' → LolAt H' l (partsL (Ed ts) N) → NewIn H H' l → Q (.ref l) H'
theorem okparts_of (D : Def K mg "parts_of" sparts_of ["web"]) (B : Bs mg) (Glb : Glo mg) (WK : WebK K mg C)
    (hneed_web : Good P w K mg base "need_web" sneed_web ["web"] 3 (spneed_web K C))
    (hparts_in_turn : Good P w K mg base "parts_in_turn" sparts_in_turn ["points", "steps"] 2 (spparts_in_turn K C))
    (hweb_steps : Good P w K mg base "web_steps" sweb_steps ["web"] 3 (spweb_steps K C))
    (hWeb_places : GoodP P w K mg base C "places" "Web.places" sWeb_places ["self"] 1 (spWeb_places K C)) :
    Good P w K mg base "parts_of" sparts_of ["web"] 4 (spparts_of K C) := by
  refine D.good fun f fd F => ?_
  obtain ⟨fneed_web, dneed_web, Oneed_web, mneed_web, kneed_web, bneed_web, Fneed_web⟩ := hneed_web
  obtain ⟨fparts_in_turn, dparts_in_turn, Oparts_in_turn, mparts_in_turn, kparts_in_turn, bparts_in_turn, Fparts_in_turn⟩ := hparts_in_turn
  obtain ⟨fweb_steps, dweb_steps, Oweb_steps, mweb_steps, kweb_steps, bweb_steps, Fweb_steps⟩ := hweb_steps
  obtain ⟨qWeb_places, fWeb_places, dWeb_places, OWeb_places, pWeb_places, bWeb_places⟩ := hWeb_places
  refine F.ok scparts_of (fun vs H Q E h => ?_) (fun cdv A outer s H vs Q E hr h => ?_)
  · obtain ⟨a, N, ts, rfl, hw, ho, q⟩ := h
    first | rfl | (rcases h with ⟨_, _, rfl, _⟩ | ⟨_, rfl, _⟩ <;> rfl)
  obtain ⟨a, N, ts, rfl, hw, ho, q⟩ := h
  refine ⟨_, (pss_cons (ps_expr (pe_call Oneed_web hr rfl mneed_web kneed_web bneed_web .nil pass0 (pa_cons (pv 0) pa_nil)))
  (pss_one (ps_ret (pe_callB (cr_sortD hr.units) (by rfl) B.sorted (by decide +kernel) (pa_cons (pe_call Oparts_in_turn (hr.mono (by decide)) rfl mparts_in_turn kparts_in_turn bparts_in_turn .nil pass0 (pa_cons (pe_prop (pv 0) WK.cl pWeb_places OWeb_places (hr.mono (by decide)) bWeb_places .nil pass0 (by rfl)) (pa_cons (pe_call Oweb_steps hr rfl mweb_steps kweb_steps bweb_steps .nil pass0 (pa_cons (pv 0) pa_nil)) pa_nil))) pa_nil))))), ?_⟩
  obtain ⟨dx, tl, fl, ol, h1, h23⟩ := id hw
  refine ⟨_, rfl, a, N, ts, rfl, hw, ?_⟩
  refine ⟨_, rfl, a, dx, _, rfl, h1, a, N, ts, rfl, hw, _, rfl, a, N, ts, rfl, hw, ho, fun H1 l nl hS1 hst => ?_⟩
  refine ⟨N, l, ts, rfl, hst, ho, fun H2 pl hs npl hS2 hperm ⟨as, g1, g2⟩ hni => ?_⟩
  refine ⟨pl, as.map V.ref, (hs.map (clsL (Ed ts) N)).map dn, rfl, SqL.of g1, dpAll_lol g2, lol_alike _, lol_sortable _, fun d hd => ?_, ?_, fun zs p hz np => ?_⟩
  · obtain ⟨L, _, rfl⟩ := List.mem_map.mp hd
    exact dn_depth L
  · rw [List.length_map, paired_len g2, List.length_map, hperm.length_eq]
    exact Nat.le_trans (nodup_len headsL_rising fun x hx => (headsL_mem.mp hx).1) (Nat.le_trans ho.n1 (by decide))
  rw [sort_parts hperm] at hz
  obtain ⟨bs, rfl, k1, k2⟩ := lol_pick g2 hz
  have hS02 := hS1.trans hS2
  refine q _ p (hS02.free np) (fun b o e => same_new np _ _ _ (hS02 _ _ e)) ⟨bs, upd_same, paired_mono (fun x L hx => same_new np _ _ _ hx) k1⟩ fun xs x hx hq => ?_
  rw [upd_same] at hx
  cases hx
  obtain ⟨b, hb, e⟩ := List.mem_map.mp hq
  cases e
  exact hS1.free (hni _ _ g1 (List.mem_map.mpr ⟨_, k2 _ hb, rfl⟩))
def spplain_parts (_ : PySem.W.Frag) (C : Addr) : Sp := fun vs H Q _ => ∃ a N ts, vs = [.ref a] ∧ WebAt C a N ts H ∧ OkWeb N ts ∧ ∀ H' l, H l = none → Same H H' → LolAt H' l (partsL (Ed ts) N) → Q (.ref l) H'
theorem okplain_parts (D : Def K mg "plain_parts" splain_parts ["web"]) (B : Bs mg) (Glb : Glo mg) (WK : WebK K mg C)
    (hneed_web : Good P w K mg base "need_web" sneed_web ["web"] 3 (spneed_web K C))
    (hreach : Good P w K mg base "reach" sreach ["web", "place", "without"] 6 (spreach K C))
    (hWeb_places : GoodP P w K mg base C "places" "Web.places" sWeb_places ["self"] 1 (spWeb_places K C)) :
    Good P w K mg base "plain_parts" splain_parts ["web"] 7 (spplain_parts K C) := by
  refine D.good fun f fd F => ?_
  obtain ⟨fneed_web, dneed_web, Oneed_web, mneed_web, kneed_web, bneed_web, Fneed_web⟩ := hneed_web
  obtain ⟨freach, dreach, Oreach, mreach, kreach, breach, Freach⟩ := hreach
  obtain ⟨qWeb_places, fWeb_places, dWeb_places, OWeb_places, pWeb_places, bWeb_places⟩ := hWeb_places
  refine F.ok scplain_parts (fun vs H Q E h => ?_) (fun cdv A outer s H vs Q E hr h => ?_)
  · obtain ⟨a, N, ts, rfl, hw, ho, q⟩ := h
    first | rfl | (rcases h with ⟨_, _, rfl, _⟩ | ⟨_, rfl, _⟩ <;> rfl)
  obtain ⟨a, N, ts, rfl, hw, ho, q⟩ := h
  refine ⟨_, (pss_cons (ps_expr (pe_call Oneed_web (hr.mono (by decide)) rfl mneed_web kneed_web bneed_web .nil pass0 (pa_cons (pv 0) pa_nil)))
  (pss_cons (ps_set (i := 1) scplain_parts.nd rfl (by first | exact Or.inl rfl | exact Or.inr rfl) (pe_lc (own := [("place", 3)]) (g := gName 3) (by rfl) scplain_parts.nd (pi_range1 (by rfl) B.range (pa_cons (pe_prop (pv 0) WK.cl pWeb_places OWeb_places (hr.mono (by decide)) bWeb_places .nil pass0 (by rfl)) pa_nil)) (blkOk_by (own := [("place", 3)]) (N := ["web", "reached", "parts", "place", "part", "other"]) (sc := defScope splain_parts) (by decide +kernel)) (fun _ _ _ _ _ => (pg_name (i := 3) scplain_parts.nd rfl (by first | exact Or.inl rfl | exact Or.inr rfl))) (fun _ _ _ _ _ => pts_nil) (fun _ _ _ _ _ => (pe_call Oreach hr rfl mreach kreach breach .nil pass0 (pa_cons (pv 0) (pa_cons (pv 3) (pa_cons (pe_lst pa_nil) pa_nil)))))))
  (pss_cons (ps_set (i := 2) scplain_parts.nd rfl (by first | exact Or.inl rfl | exact Or.inr rfl) (pe_lst pa_nil))
  (pss_cons (ps_for PassesOwn.never rfl (pi_range1 (by rfl) B.range (pa_cons (pe_prop (pv 0) WK.cl pWeb_places OWeb_places (hr.mono (by decide)) bWeb_places .nil pass0 (by rfl)) pa_nil)) (pg_name (i := 3) scplain_parts.nd rfl (by first | exact Or.inl rfl | exact Or.inr rfl))
    (pss_cons (ps_setLc (i := 4) (own := [("other", 5)]) (g := gName 5) (by rfl) scplain_parts.nd rfl rfl (sw_true rfl rfl rfl (by decide +kernel)) (pi_list (pe_ix ix_list (pv 1) (pv 3) (fun _ _ => rfl))) (blkOk_by (own := [("other", 5)]) (N := ["web", "reached", "parts", "place", "part", "other"]) (sc := defScope splain_parts) (by decide +kernel)) (fun _ _ _ _ _ => (pg_name (i := 5) scplain_parts.nd rfl (by first | exact Or.inl rfl | exact Or.inr rfl))) (fun _ _ _ _ _ => (pts_one (pt_cmpR (op_in_seqK (K := K) rfl) (pv 3) (pe_ix (ix_listK (K := K) rfl) (pv 1) (pv 5) (fun _ _ => rfl)) (by rfl)))) (fun _ _ _ _ _ => (pv 5)))
  (pss_one (ps_if (pt_cmpR op_eq (pe_ix ix_list (pv 4) pe_int (fun _ _ => rfl)) (pv 3) (nomark _))
    (pss_one (ps_expr (pe_bm PySem.F.plainAttrs_list PySem.F.slot_list_append PySem.F.type_list_append mt_append (pv 2) (pa_cons (pv 4) pa_nil)))) pss_nil))))
  (pss_one (ps_ret (pv 2))))))), ?_⟩
  obtain ⟨dx, tl, fl, ol, h1, h23⟩ := id hw
  refine ⟨_, rfl, a, N, ts, rfl, hw, ?_⟩
  have hN := ho.n1
  have hm := ho.m
  refine ⟨_, rfl, a, dx, _, rfl, h1, a, N, ts, rfl, hw, _, rfl, by omega, by omega, fun D0 nD0 => ?_⟩
  refine lc_range (lo := 0) (n := N) (fun i H' => Same H H' ∧ LolAt H' D0 ((List.range i).map (rchL (Ed ts) N))) ⟨same_new nD0 _, ⟨[], upd_same, .nil⟩⟩ ?_ ?_
  · rintro i H' hi ⟨hS', hL'⟩
    rw [Int.zero_add]
    refine ⟨rfl, _, rfl, _, rfl, Nat.zero_le _, fun el nel => ?_⟩
    refine ⟨a, N, ts, i, el, [], rfl, (hw.same hS').same (same_new nel _), ho, hi, .inl upd_same, by simp, fun H1 l R nl hl hS1 hR => ?_⟩
    have hR := reach_cn ho hi hR
    subst hR
    rw [← iv_iz] at hl
    have hL1 := (hL'.same (same_new nel (.lst []))).same hS1
    have nlD : l ≠ D0 := fun z => by
      obtain ⟨as, e, _⟩ := hL'.same (same_new nel (.lst []))
      rw [z, e] at nl
      cases nl
    obtain ⟨xs, g1, g2, g3⟩ := hL1.add hl nlD
    refine ⟨xs, g1, ?_, same_upd (fun b o e => hS1 _ _ (same_new nel _ _ _ (hS' _ _ e))) nD0, ?_⟩
    · rw [g2, List.length_map, List.length_range]
      exact Nat.lt_of_lt_of_le (by omega : i < 1000) (by decide)
    · rw [List.range_succ, List.map_append]
      exact g3
  rintro H1 ⟨hS1, hL1⟩
  refine ⟨Nat.zero_le _, fun pl npl => ?_⟩
  have hS2 : Same H (upd H1 pl (.lst [])) := fun b o e => same_new npl _ _ _ (hS1 _ _ e)
  have hL2 := hL1.same (same_new npl (.lst []))
  have hp2 : LolAt (upd H1 pl (.lst [])) pl [] := ⟨[], upd_same, .nil⟩
  have nplD : pl ≠ D0 := fun z => by
    obtain ⟨as, e, _⟩ := hL1
    rw [← z, npl] at e
    cases e
  have npl0 := hS1.free npl
  have base : ∀ b o, H1 b = some o → (upd H1 pl (.lst [])) b = some o := same_new npl _
  generalize e2 : upd H1 pl (.lst []) = H2 at hS2 hL2 hp2 base
  obtain ⟨dx2, tl2, fl2, ol2, g1, _⟩ := id (hw.same hS2)
  refine ⟨_, rfl, a, dx2, _, rfl, g1, a, N, ts, rfl, hw.same hS2, _, rfl, by omega, by omega, ?_⟩
  refine for_range (lo := 0) (n := N) (fun i σ H' => ∃ (v3 v4 v5 : Option V), σ = [some (.ref a), some (.ref D0), some (.ref pl), v3, v4, v5] ∧ Same H1 H' ∧ LolAt H' pl ((headsN (Ed ts) i).map (clsL (Ed ts) N))) ⟨_, _, _, rfl, base, hp2⟩ ?_ ?_
  · rintro i σ H3 hi ⟨v3, v4, v5, rfl, hS3, hp3⟩
    rw [Int.zero_add]
    have hL3 := hL1.same hS3
    obtain ⟨xs, x, e1, e2, e3⟩ := hL3.get (range_map_at (rchL (Ed ts) N) hi)
    have nDp : D0 ≠ pl := nplD.symm
    refine ⟨_, rfl, _, rfl, _, _, _, .ref x, rfl, rfl, SqL.of e1, e2, x, rfl, ⟨_, SqL.of e3⟩, fun D2 nD2 => ?_⟩
    have hfl : ∀ L : List Nat, L.Pairwise (· < ·) → (∀ y ∈ L, y < N) → L.length < sizeLine := fun L h1 h2 => Nat.lt_of_le_of_lt (Nat.le_trans (nodup_len h1 h2) hN) (by decide)
    refine lc_list (K := K) (a := x) (xs := iv (rchL (Ed ts) N i)) (fun j H' => Same H3 H' ∧ H' D2 = some (.lst (iv (((rchL (Ed ts) N i).take j).filter fun o => decide (i ∈ rchL (Ed ts) N o))))) ⟨same_new nD2 _, upd_same⟩ (fun j H' _ ⟨hS', _⟩ => SqL.of (hS' _ _ e3)) ?_ ?_
    · rintro j y H4 hy ⟨hS4, hD4⟩
      rw [List.getElem?_map] at hy
      obtain ⟨o, hoj, rfl⟩ : ∃ o, (rchL (Ed ts) N i)[j]? = some o ∧ y = V.int (o : Int) := by
        cases e : (rchL (Ed ts) N i)[j]? with
        | none => rw [e] at hy; cases hy
        | some o => rw [e] at hy; exact ⟨o, rfl, (Option.some.inj hy).symm⟩
      have hoN : o < N := (rchL_mem.mp (List.mem_of_getElem? hoj)).1
      obtain ⟨ys, z, f1, f2, f3⟩ := (hL3.same hS4).get (range_map_at (rchL (Ed ts) N) hoN)
      refine ⟨rfl, _, rfl, _, rfl, _, rfl, _, _, _, .ref z, rfl, rfl, SqL.of f1, f2, z, _, rfl, .inl (SqL.of f3), rfl, flat_iv _, _, rfl, ?_⟩
      dsimp only
      rw [inV_iv, take_snocE hoj, List.filter_append, List.filter_cons, List.filter_nil]
      by_cases c : i ∈ rchL (Ed ts) N o
      · rw [if_pos (decide_eq_true c)]
        refine iteYes c ⟨_, rfl, _, hD4, ?_, same_upd hS4 nD2, ?_⟩
        · rw [List.length_map]
          refine hfl _ (List.Pairwise.filter _ (rchL_rising.sublist (List.take_sublist _ _))) fun y hy => ?_
          exact (rchL_mem.mp (List.mem_of_mem_take (List.mem_filter.mp hy).1)).1
        · rw [upd_same, iv_app]
      · rw [if_neg (fun z => c (of_decide_eq_true z)), List.append_nil]
        exact iteNo c ⟨hS4, hD4⟩
    rintro H4 ⟨hS4, hD4⟩
    rw [List.length_map, List.take_length, filter_cls hi] at hD4
    have hS14 : Same H1 H4 := hS3.trans hS4
    have hp4 := hp3.same hS4
    have nD2p : D2 ≠ pl := fun z => by
      obtain ⟨as, e, _⟩ := hp3
      rw [z, e] at nD2
      cases nD2
    obtain ⟨b, r, ec, hbh⟩ := cls_first (E := Ed ts) (N := N) (p := i) hi
    have at0 : atI (iv (clsL (Ed ts) N i)) 0 = some (.int (b : Int)) := by rw [ec]; exact atI_nat (j := 0) rfl
    refine ⟨_, rfl, _, _, _, _, rfl, rfl, SqL.of hD4, at0, _, rfl, rfl, _, rfl, ?_⟩
    by_cases c : b = i
    · have hmem := hbh.mp c
      refine iteYes (by rw [c]) ?_
      obtain ⟨xs4, k1, k2, k3⟩ := hp4.add hD4 nD2p
      refine ⟨_, rfl, .inl ⟨rfl, _, SqL.of k1⟩, _, rfl, pl, _, _, rfl, rfl, k1, ?_, ?_⟩
      · rw [k2, List.length_map]
        exact hfl _ (List.Pairwise.filter _ List.pairwise_lt_range) fun y hy => by
          have := List.mem_range.mp (List.mem_filter.mp hy).1
          omega
      refine ⟨_, _, _, rfl, fun b o e => by rw [upd_ne (ne_of_none e npl)]; exact hS14 _ _ e, ?_⟩
      rw [headsN_yes hi hmem, List.map_append]
      exact k3
    · refine iteNo (fun z => c (by have := int_eq.mp z; omega)) ⟨_, _, _, rfl, hS14, ?_⟩
      rw [headsN_no hi (fun z => c (hbh.mpr z))]
      exact hp4
  · rintro σ H3 ⟨v3, v4, v5, rfl, hS3, hp3⟩
    exact ⟨_, rfl, q H3 pl npl0 (hS1.trans hS3) hp3⟩
end
end My
namespace My
open PySem L2 PyProof.Rows
def Closed (N : Nat) (ts : List (Nat × Nat)) : Prop := 0 < ts.length ∧ (partsL (Ed ts) N).length = 1
noncomputable def closedB (N : Nat) (ts : List (Nat × Nat)) : Bool := decide (0 < ts.length) && decide ((partsL (Ed ts) N).length = 1)
theorem u65 {k : Nat} {A : Around} (r : Room k A) : A.units + 65 < cLine := by have := r.un; omega
theorem layAll_dn : ∀ LL : List (List Nat), PyData.canLayAll0 (LL.map dn) = true
  | [] => rfl
  | L :: r => by
    show (PyData.canLay0 (dn L) && PyData.canLayAll0 (r.map dn)) = true
    rw [layAll_dn r, dn_dz]
    have h1 : PyData.canLay0 (dz (cn L)) = true := by
      show PyData.canLay0 (.list ((cn L).map PyData.int)) = true
      unfold PyData.canLay0
      exact layAll_iz _
    rw [h1]
    rfl
theorem depthAll_dn : ∀ LL : List (List Nat), PyData.depthAll (LL.map dn) ≤ 1
  | [] => by
    show PyData.depthAll [] ≤ 1
    decide
  | L :: r => by
    show max (PyData.depth (dn L)) (PyData.depthAll (r.map dn)) ≤ 1
    have h1 := depthAll_dn r
    have h2 : PyData.depth (dn L) = 1 := by
      rw [dn_dz]
      show PyData.depth (.list ((cn L).map PyData.int)) = 1
      unfold PyData.depth
      rw [depthAll_iz]
    omega
theorem shaped_lol (LL : List (List Nat)) : SeqAt.shaped (.list (LL.map dn)) = true := by
  unfold SeqAt.shaped
  have h1 : PyData.canLay0 (.list (LL.map dn)) = true := by
    unfold PyData.canLay0
    exact layAll_dn LL
  have h2 : PyData.depth (.list (LL.map dn)) ≤ 64 := by
    unfold PyData.depth
    have := depthAll_dn LL
    omega
  rw [h1, decide_eq_true h2]
  rfl
theorem shaped_dn (L : List Nat) : SeqAt.shaped (dn L) = true := by rw [dn_dz]; exact shaped_iz _
theorem dp_lol {K : PySem.W.Frag} {H : Hp} {l : Addr} {LL : List (List Nat)} (h : LolAt H l LL) : Dp K H (.ref l) (.list (LL.map dn)) := by
  obtain ⟨as, h1, h2⟩ := h
  exact .lst (SqL.of h1) (dpAll_lol h2)
theorem dp_dn {K : PySem.W.Frag} {H : Hp} {l : Addr} {L : List Nat} (h : H l = some (.lst (iv L))) : Dp K H (.ref l) (dn L) := by rw [dn_dz]; exact dp_iv h
theorem eqv_dn (L : List Nat) : PyData.eqv (dn L) (dn L) = true := SeqAt.eqv_refl _ (SeqAt.canLay_of_shaped (shaped_dn L))
theorem any_dn {LL : List (List Nat)} {L : List Nat} (h : L ∈ LL) : ((LL.map dn).any fun z => PyData.eqv z (dn L)) = true := List.any_eq_true.mpr ⟨dn L, List.mem_map.mpr ⟨L, h, rfl⟩, eqv_dn L⟩
section
variable {P : Program} {w : World} {K : PySem.W.Frag} {mg : Str → Option Value} {base : Heap} {C : Addr}
def spis_close (_ : PySem.W.Frag) (C : Addr) : Sp := fun vs H Q _ => ∃ a N ts, vs = [.ref a] ∧ WebAt C a N ts H ∧ OkWeb N ts ∧ ∀ H', Same H H' → Q (.bl (closedB N ts)) H'
theorem okis_close (D : Def K mg "is_close" sis_close ["web"]) (B : Bs mg) (Glb : Glo mg) (WK : WebK K mg C)
    (hneed_web : Good P w K mg base "need_web" sneed_web ["web"] 3 (spneed_web K C))
    (hparts_of : Good P w K mg base "parts_of" sparts_of ["web"] 4 (spparts_of K C))
    (hWeb_many : GoodP P w K mg base C "many" "Web.many" sWeb_many ["self"] 1 (spWeb_many K C)) :
    Good P w K mg base "is_close" sis_close ["web"] 5 (spis_close K C) := by
  refine D.good fun f fd F => ?_
  obtain ⟨fneed_web, dneed_web, Oneed_web, mneed_web, kneed_web, bneed_web, Fneed_web⟩ := hneed_web
  obtain ⟨fparts_of, dparts_of, Oparts_of, mparts_of, kparts_of, bparts_of, Fparts_of⟩ := hparts_of
  obtain ⟨qWeb_many, fWeb_many, dWeb_many, OWeb_many, pWeb_many, bWeb_many⟩ := hWeb_many
  refine F.ok scis_close (fun vs H Q E h => ?_) (fun cdv A outer s H vs Q E hr h => ?_)
  · obtain ⟨a, N, ts, rfl, hw, ho, q⟩ := h
    first | rfl | (rcases h with ⟨_, _, rfl, _⟩ | ⟨_, rfl, _⟩ <;> rfl)
  obtain ⟨a, N, ts, rfl, hw, ho, q⟩ := h
  refine ⟨_, (pss_cons (ps_expr (pe_call Oneed_web (hr.mono (by decide)) rfl mneed_web kneed_web bneed_web .nil pass0 (pa_cons (pv 0) pa_nil)))
  (pss_one (ps_ret (pe_and (pe_cmpR op_gt (pe_prop (pv 0) WK.cl pWeb_many OWeb_many (hr.mono (by decide)) bWeb_many .nil pass0 (by rfl)) pe_int (nomark _)) (pe_one (pe_cmpR op_eq (pe_callB call_len_seq (by rfl) B.len (by decide +kernel) (pa_cons (pe_call Oparts_of hr rfl mparts_of kparts_of bparts_of .nil pass0 (pa_cons (pv 0) pa_nil)) pa_nil)) pe_int (nomark _))))))), ?_⟩
  obtain ⟨dx, tl, fl, ol, h1, h23⟩ := id hw
  refine ⟨_, rfl, a, N, ts, rfl, hw, ?_⟩
  refine ⟨_, rfl, a, dx, _, rfl, h1, a, N, ts, rfl, hw, _, _, rfl, rfl, _, rfl, ?_⟩
  dsimp only
  have qc : closedB N ts = (decide (0 < ts.length) && decide ((partsL (Ed ts) N).length = 1)) := rfl
  by_cases c : 0 < ts.length
  · refine iteYes (by omega) ⟨_, rfl, a, N, ts, rfl, hw, ho, fun H1 l nl hS1 ⟨as, g1, g2⟩ _ => ⟨l, _, rfl, .inl (SqL.of g1), rfl, ?_⟩⟩
    have := q H1 hS1
    rw [qc, decide_eq_true c, Bool.true_and, ← paired_len g2] at this
    rw [List.length_map]
    have e : (V.int (as.length : Int) = V.int 1) ↔ as.length = 1 := ⟨fun z => by have := int_eq.mp z; omega, fun z => by rw [z]; rfl⟩
    rw [show (decide (V.int (as.length : Int) = V.int 1)) = decide (as.length = 1) from decide_eq_decide.mpr e]
    exact this
  · refine iteNo (by omega) ?_
    have := q H fun b o e => e
    rw [qc, decide_eq_false c, Bool.false_and] at this
    exact this
def spis_single_ring (_ : PySem.W.Frag) (C : Addr) : Sp := fun vs H Q _ => ∃ a N ts, vs = [.ref a] ∧ WebAt C a N ts H ∧ OkWeb N ts ∧ ∀ H', Same H H' → Q (.bl (closedB N ts && decide (ts.length = N))) H'
theorem okis_single_ring (D : Def K mg "is_single_ring" sis_single_ring ["web"]) (B : Bs mg) (Glb : Glo mg) (WK : WebK K mg C)
    (his_close : Good P w K mg base "is_close" sis_close ["web"] 5 (spis_close K C))
    (hWeb_many : GoodP P w K mg base C "many" "Web.many" sWeb_many ["self"] 1 (spWeb_many K C))
    (hWeb_places : GoodP P w K mg base C "places" "Web.places" sWeb_places ["self"] 1 (spWeb_places K C)) :
    Good P w K mg base "is_single_ring" sis_single_ring ["web"] 6 (spis_single_ring K C) := by
  refine D.good fun f fd F => ?_
  obtain ⟨fis_close, dis_close, Ois_close, mis_close, kis_close, bis_close, Fis_close⟩ := his_close
  obtain ⟨qWeb_many, fWeb_many, dWeb_many, OWeb_many, pWeb_many, bWeb_many⟩ := hWeb_many
  obtain ⟨qWeb_places, fWeb_places, dWeb_places, OWeb_places, pWeb_places, bWeb_places⟩ := hWeb_places
  refine F.ok scis_single_ring (fun vs H Q E h => ?_) (fun cdv A outer s H vs Q E hr h => ?_)
  · obtain ⟨a, N, ts, rfl, hw, ho, q⟩ := h
    first | rfl | (rcases h with ⟨_, _, rfl, _⟩ | ⟨_, rfl, _⟩ <;> rfl)
  obtain ⟨a, N, ts, rfl, hw, ho, q⟩ := h
  refine ⟨_, (pss_one (ps_ret (pe_and (pe_call Ois_close hr rfl mis_close kis_close bis_close .nil pass0 (pa_cons (pv 0) pa_nil)) (pe_one (pe_cmpR op_eq (pe_prop (pv 0) WK.cl pWeb_many OWeb_many (hr.mono (by decide)) bWeb_many .nil pass0 (by rfl)) (pe_prop (pv 0) WK.cl pWeb_places OWeb_places (hr.mono (by decide)) bWeb_places .nil pass0 (by rfl)) (nomark _)))))), ?_⟩
  obtain ⟨dx, tl, fl, ol, h1, h23⟩ := id hw
  refine ⟨_, rfl, a, N, ts, rfl, hw, ho, fun H1 hS1 => ⟨_, rfl, ?_⟩⟩
  have q1 := q H1 hS1
  cases e : closedB N ts with
  | false =>
    rw [e, Bool.false_and] at q1
    exact iteF q1
  | true =>
    refine iteT ⟨_, rfl, a, dx, _, rfl, hS1 _ _ h1, a, N, ts, rfl, hw.same hS1, _, rfl, a, dx, _, rfl, hS1 _ _ h1, a, N, ts, rfl, hw.same hS1, rfl, ?_⟩
    rw [e, Bool.true_and] at q1
    have e2 : (V.int (ts.length : Int) = V.int (N : Int)) ↔ ts.length = N := ⟨fun z => by have := int_eq.mp z; omega, fun z => by rw [z]⟩
    rw [show (decide (V.int (ts.length : Int) = V.int (N : Int))) = decide (ts.length = N) from decide_eq_decide.mpr e2]
    exact q1
def sp_need_part (_ : PySem.W.Frag) (C : Addr) : Sp := fun vs H Q _ => ∃ a N ts p L, vs = [.ref a, .ref p] ∧ WebAt C a N ts H ∧ OkWeb N ts ∧ SeqAt H p L ∧ L ∈ partsL (Ed ts) N ∧ ∀ H', Same H H' → Q .non H'
theorem ok_need_part (D : Def K mg "_need_part" s_need_part ["web", "part"]) (B : Bs mg) (Glb : Glo mg) (WK : WebK K mg C)
    (his_listed : Good P w K mg base "is_listed" sis_listed ["value"] 1 (spis_listed K C))
    (hparts_of : Good P w K mg base "parts_of" sparts_of ["web"] 4 (spparts_of K C))
    (his_count : Good P w K mg base "is_count" sis_count ["value"] 2 (spis_count K C)) :
    Good P w K mg base "_need_part" s_need_part ["web", "part"] 5 (sp_need_part K C) := by
  refine D.good fun f fd F => ?_
  obtain ⟨fis_listed, dis_listed, Ois_listed, mis_listed, kis_listed, bis_listed, Fis_listed⟩ := his_listed
  obtain ⟨fparts_of, dparts_of, Oparts_of, mparts_of, kparts_of, bparts_of, Fparts_of⟩ := hparts_of
  obtain ⟨fis_count, dis_count, Ois_count, mis_count, kis_count, bis_count, Fis_count⟩ := his_count
  refine F.ok sc_need_part (fun vs H Q E h => ?_) (fun cdv A outer s H vs Q E hr h => ?_)
  · obtain ⟨a, N, ts, p, L, rfl, hw, ho, hp, hL, q⟩ := h
    first | rfl | (rcases h with ⟨_, _, rfl, _⟩ | ⟨_, rfl, _⟩ <;> rfl)
  obtain ⟨a, N, ts, p, L, rfl, hw, ho, hp, hL, q⟩ := h
  refine ⟨_, (pss_one (ps_if (PW.pt (pw_or (pt_not (pt_val (pe_call Ois_listed (hr.mono (by decide)) rfl mis_listed kis_listed bis_listed .nil pass0 (pa_cons (pv 1) pa_nil)))) (pw_or (pt_not (pt_val (pe_callB (cr_all rfl) (by rfl) B.all (by decide +kernel) (pa_cons (pe_lc (own := [("place", 2)]) (g := gName 2) (by rfl) sc_need_part.nd (pi_or (pi_list (pv 1)) (pi_tup (pv 1))) (blkOk_by (own := [("place", 2)]) (N := ["web", "part", "place"]) (sc := defScope s_need_part) (by decide +kernel)) (fun _ _ _ _ _ => (pg_name (i := 2) sc_need_part.nd rfl (by first | exact Or.inl rfl | exact Or.inr rfl))) (fun _ _ _ _ _ => pts_nil) (fun _ _ _ _ _ => (pe_call Ois_count (hr.mono (by decide)) rfl mis_count kis_count bis_count .nil pass0 (pa_cons (pv 2) pa_nil)))) pa_nil)))) (pw_or1 (pt_cmpR (op_notInD (u65 hr)) (pe_callTy call_list_of (by rfl) B.list (by decide +kernel) (pa_cons (pv 1) pa_nil)) (pe_call Oparts_of hr rfl mparts_of kparts_of bparts_of .nil pass0 (pa_cons (pv 0) pa_nil)) (by rfl))))))
    (pss_one ps_never) pss_nil)), ?_⟩
  have hN := ho.n1
  refine ⟨_, rfl, p, rfl, hp.imp (fun h => ⟨_, h⟩) (fun h => ⟨_, h⟩), fun H1 hS1 => ⟨_, rfl, iteF ?_⟩⟩
  have hp1 := hp.same hS1
  have hlen : L.length ≤ N := by
    obtain ⟨x, _, rfl⟩ := List.mem_map.mp hL
    exact nodup_len clsL_rising fun y hy => (clsL_mem.mp hy).1
  rcases hp1 with hh | hh
  · refine .inl ⟨_, rfl, p, rfl, ⟨_, SqL.of hh⟩, fun D nD => ?_⟩
    refine lc_list (K := K) (a := p) (xs := iv L) (fun j H' => Same H1 H' ∧ H' D = some (.lst ((List.replicate j true).map V.bl))) ⟨same_new nD _, upd_same⟩ (fun j H' _ ⟨hS', _⟩ => SqL.of (hS' _ _ hh)) ?_ ?_
    · rintro j y H2 hy ⟨hS2, hD2⟩
      rw [List.getElem?_map] at hy
      obtain ⟨o, hoj, rfl⟩ : ∃ o, L[j]? = some o ∧ y = V.int (o : Int) := by
        cases e : L[j]? with
        | none => rw [e] at hy; cases hy
        | some o => rw [e] at hy; exact ⟨o, rfl, (Option.some.inj hy).symm⟩
      have hj := (List.getElem?_eq_some_iff.mp hoj).1
      refine ⟨rfl, _, rfl, o, rfl, _, hD2, ?_, same_upd hS2 nD, ?_⟩
      · rw [List.length_map, List.length_replicate]
        exact Nat.lt_of_lt_of_le (by omega : j < 1000) (by decide)
      · rw [upd_same, List.replicate_succ', List.map_append]
        rfl
    rintro H2 ⟨hS2, hD2⟩
    refine ⟨D, _, rfl, SqL.of hD2, _, rfl, ?_⟩
    rw [show (List.replicate (iv L).length true).all id = true by simp]
    refine iteF ?_
    have hS02 := hS1.trans hS2
    refine ⟨_, rfl, p, _, rfl, .inl (SqL.of (hS2 _ _ hh)), fun l nl => ⟨_, rfl, a, N, ts, rfl, (hw.same hS02).same (same_new nl _), ho, fun H3 pl npl hS3 hL3 _ => ⟨dn L, (partsL (Ed ts) N).map dn, dp_dn (hS3 _ _ upd_same), dp_lol hL3, shaped_dn L, shaped_lol _, _, rfl, ?_⟩⟩⟩
    rw [any_dn hL]
    exact iteF (q H3 fun b o e => hS3 _ _ (same_new nl _ _ _ (hS02 _ _ e)))
  · refine .inr ⟨_, rfl, p, rfl, ⟨_, SqT.of hh⟩, fun D nD => ?_⟩
    refine lc_tup (K := K) (a := p) (xs := iv L) (fun j H' => Same H1 H' ∧ H' D = some (.lst ((List.replicate j true).map V.bl))) ⟨same_new nD _, upd_same⟩ (fun j H' _ ⟨hS', _⟩ => SqT.of (hS' _ _ hh)) ?_ ?_
    · rintro j y H2 hy ⟨hS2, hD2⟩
      rw [List.getElem?_map] at hy
      obtain ⟨o, hoj, rfl⟩ : ∃ o, L[j]? = some o ∧ y = V.int (o : Int) := by
        cases e : L[j]? with
        | none => rw [e] at hy; cases hy
        | some o => rw [e] at hy; exact ⟨o, rfl, (Option.some.inj hy).symm⟩
      have hj := (List.getElem?_eq_some_iff.mp hoj).1
      refine ⟨rfl, _, rfl, o, rfl, _, hD2, ?_, same_upd hS2 nD, ?_⟩
      · rw [List.length_map, List.length_replicate]
        exact Nat.lt_of_lt_of_le (by omega : j < 1000) (by decide)
      · rw [upd_same, List.replicate_succ', List.map_append]
        rfl
    rintro H2 ⟨hS2, hD2⟩
    refine ⟨D, _, rfl, SqL.of hD2, _, rfl, ?_⟩
    rw [show (List.replicate (iv L).length true).all id = true by simp]
    refine iteF ?_
    have hS02 := hS1.trans hS2
    refine ⟨_, rfl, p, _, rfl, .inr (SqT.of (hS2 _ _ hh)), fun l nl => ⟨_, rfl, a, N, ts, rfl, (hw.same hS02).same (same_new nl _), ho, fun H3 pl npl hS3 hL3 _ => ⟨dn L, (partsL (Ed ts) N).map dn, dp_dn (hS3 _ _ upd_same), dp_lol hL3, shaped_dn L, shaped_lol _, _, rfl, ?_⟩⟩⟩
    rw [any_dn hL]
    exact iteF (q H3 fun b o e => hS3 _ _ (same_new nl _ _ _ (hS02 _ _ e)))
end
end My
namespace My
open PySem L2 PyProof.Rows
/-- a dict comprehension over anything that can be walked -/
theorem dc_it {J : It} {n : Nat} {G : Hp → Prop} {Y : Nat → Hp → V → Hp → Prop} (w : Walk J n G Y) {g : TG} {tt : TT} {tk tv : TE} {vs : List Nat} {σ : L2.St} {H1 : Hp} {D : Addr} {Qd : Hp → Prop} (Pv : Nat → Hp → Prop) (p0 : Pv 0 (upd H1 D (.dK []))) (pG : ∀ i H, i ≤ n → Pv i H → G H)
    (ps : ∀ i x H H', i < n → Pv i H → Y i H x H' → g x (wipe σ vs) H' fun σ2 H2 => wipe σ2 vs = wipe σ vs ∧ tt σ2 H2 fun b H3 =>
      if b = true then tk σ2 H3 fun y H4 => tv σ2 H4 fun z H5 => ∃ kvs k, y = kV k ∧ H5 D = some (.dK kvs) ∧ kvs.length < sizeLine ∧ Pv (i + 1) (upd H5 D (.dK (putK kvs k z))) else Pv (i + 1) H3) (pd : ∀ H, Pv n H → Qd H) :
    ∃ W : Nat → Nat → Hp → Prop, (∃ m, W 0 m (upd H1 D (.dK []))) ∧ ∀ i m H, W i m H →
      (J.stop i H ∧ Qd H) ∨ (J.go i H ∧ ∃ Nx : Hp → Prop, (∀ H', Nx H' → ∃ m', m' < m ∧ W (i + 1) m' H') ∧ ∀ x H', J.yld i H x H' → g x (wipe σ vs) H' fun σ2 H2 => wipe σ2 vs = wipe σ vs ∧ tt σ2 H2 fun b H3 =>
        if b = true then tk σ2 H3 fun y H4 => tv σ2 H4 fun z H5 => ∃ kvs k, y = kV k ∧ H5 D = some (.dK kvs) ∧ kvs.length < sizeLine ∧ Nx (upd H5 D (.dK (putK kvs k z))) else Nx H3) := by
  refine ⟨fun i m H => m = n - i ∧ i ≤ n ∧ Pv i H, ⟨n, rfl, Nat.zero_le _, p0⟩, ?_⟩
  rintro i m H ⟨rfl, hi, p⟩
  have hg := pG i H hi p
  rcases Nat.lt_or_ge i n with c | c
  · exact .inr ⟨w.goes i H c hg, Pv (i + 1), fun H' p' => ⟨n - (i + 1), by omega, rfl, c, p'⟩, fun x H' y => ps i x H H' c p (w.yields i H x H' c hg y)⟩
  · have e : i = n := by omega
    subst e
    exact .inl ⟨w.stops H hg, pd H p⟩
/-! ### the web of a part -/
def insN (ts : List (Nat × Nat)) (L : List Nat) : Nat → List (Nat × (Nat × Nat))
  | 0 => []
  | i + 1 => match ts[i]? with
    | some e => if e.1 ∈ L ∧ e.2 ∈ L then insN ts L i ++ [(i, (L.idxOf e.1, L.idxOf e.2))] else insN ts L i
    | none => insN ts L i
theorem insN_at {ts : List (Nat × Nat)} {L : List Nat} {i u v : Nat} (h : ts[i]? = some (u, v)) : insN ts L (i + 1) = if u ∈ L ∧ v ∈ L then insN ts L i ++ [(i, (L.idxOf u, L.idxOf v))] else insN ts L i := by
  show (match ts[i]? with | some e => if e.1 ∈ L ∧ e.2 ∈ L then insN ts L i ++ [(i, (L.idxOf e.1, L.idxOf e.2))] else insN ts L i | none => insN ts L i) = _
  rw [h]
theorem insN_len (ts : List (Nat × Nat)) (L : List Nat) : ∀ i, (insN ts L i).length ≤ i
  | 0 => by simp [insN]
  | i + 1 => by
    have := insN_len ts L i
    unfold insN
    split
    · split
      · simp; omega
      · omega
    · omega
theorem insN_mem {ts : List (Nat × Nat)} {L : List Nat} {x : Nat × (Nat × Nat)} : ∀ i, x ∈ insN ts L i → ∃ u v, x.1 < i ∧ ts[x.1]? = some (u, v) ∧ u ∈ L ∧ v ∈ L ∧ x.2 = (L.idxOf u, L.idxOf v)
  | 0, h => by simp [insN] at h
  | i + 1, h => by
    have lift : x ∈ insN ts L i → ∃ u v, x.1 < i + 1 ∧ ts[x.1]? = some (u, v) ∧ u ∈ L ∧ v ∈ L ∧ x.2 = (L.idxOf u, L.idxOf v) := fun h => by
      obtain ⟨u, v, h1, h2⟩ := insN_mem i h
      exact ⟨u, v, by omega, h2⟩
    unfold insN at h
    split at h
    · rename_i e he
      split at h
      · rename_i c
        rcases List.mem_append.mp h with z | z
        · exact lift z
        · have z := List.mem_singleton.mp z
          subst z
          exact ⟨e.1, e.2, Nat.lt_succ_self i, he, c.1, c.2, rfl⟩
      · exact lift h
    · exact lift h
abbrev numT (ts : List (Nat × Nat)) (L : List Nat) : List Nat := (insN ts L ts.length).map Prod.fst
abbrev newT (ts : List (Nat × Nat)) (L : List Nat) : List (Nat × Nat) := (insN ts L ts.length).map Prod.snd
def posN (L : List Nat) : Nat → List (Nat × V)
  | 0 => []
  | i + 1 => match L[i]? with
    | some x => posN L i ++ [(x, .int (i : Int))]
    | none => posN L i
theorem posN_at {L : List Nat} {i x : Nat} (h : L[i]? = some x) : posN L (i + 1) = posN L i ++ [(x, .int (i : Int))] := by
  show (match L[i]? with | some x => posN L i ++ [(x, V.int (i : Int))] | none => posN L i) = _
  rw [h]
theorem posN_fst {L : List Nat} : ∀ {i : Nat}, i ≤ L.length → (posN L i).map Prod.fst = L.take i
  | 0, _ => rfl
  | i + 1, h => by
    have e : L[i]? = some (L[i]'(by omega)) := List.getElem?_eq_getElem _
    rw [posN_at e, List.map_append, posN_fst (by omega), take_snocE e]
    rfl
theorem posN_len {L : List Nat} {i : Nat} (h : i ≤ L.length) : (posN L i).length = i := by
  have := congrArg List.length (posN_fst h)
  rw [List.length_map, List.length_take] at this
  omega
theorem not_take {L : List Nat} (hn : L.Nodup) {i x : Nat} (h : L[i]? = some x) : x ∉ L.take i := fun hm => by
  obtain ⟨j, hj⟩ := List.getElem?_of_mem hm
  have hji : j < (L.take i).length := (List.getElem?_eq_some_iff.mp hj).1
  rw [List.length_take] at hji
  rw [List.getElem?_take_of_lt (by omega)] at hj
  have := nodup_get hn hj h
  omega
theorem posN_find {L : List Nat} (hn : L.Nodup) {j x : Nat} (hj : L[j]? = some x) : ∀ {i : Nat}, j < i → i ≤ L.length → (posN L i).find? (fun p => decide (p.1 = x)) = some (x, .int (j : Int))
  | 0, h, _ => by omega
  | i + 1, h, hi => by
    have e : L[i]? = some (L[i]'(by omega)) := List.getElem?_eq_getElem _
    rw [posN_at e, List.find?_append]
    by_cases c : j < i
    · rw [posN_find hn hj c (by omega)]
      rfl
    · have eij : j = i := by omega
      subst eij
      rw [hj] at e
      have e := Option.some.inj e
      have h0 : (posN L j).find? (fun p => decide (p.1 = x)) = none := by
        rw [List.find?_eq_none]
        intro p hp hx
        have hx := of_decide_eq_true hx
        have hm : p.1 ∈ (posN L j).map Prod.fst := List.mem_map.mpr ⟨p, hp, rfl⟩
        rw [posN_fst (by omega), hx] at hm
        exact not_take hn hj hm
      rw [h0, ← e]
      simp
theorem idx_at {L : List Nat} {x : Nat} (h : x ∈ L) : L[L.idxOf x]? = some x := by
  have hj : L.idxOf x < L.length := List.idxOf_lt_length_iff.mpr h
  rw [List.getElem?_eq_getElem hj, List.getElem_idxOf hj]
theorem posN_val {L : List Nat} (hn : L.Nodup) {x : Nat} (h : x ∈ L) : valV (dP (posN L L.length)) (Sum.inl (x : Int) : Key) = some (.int (L.idxOf x : Int)) := by
  rw [dP_val, posN_find hn (idx_at h) (List.idxOf_lt_length_iff.mpr h) (Nat.le_refl _)]
  rfl
theorem posN_in {L : List Nat} (x : Nat) : (valV (dP (posN L L.length)) (Sum.inl (x : Int) : Key)).isSome = decide (x ∈ L) := by
  rw [dP_isSome, posN_fst (Nat.le_refl _), List.take_length]
theorem okWeb_new {N : Nat} {ts : List (Nat × Nat)} {L : List Nat} (ho : OkWeb N ts) (h0 : 0 < L.length) (h1 : L.length ≤ N) : OkWeb L.length (newT ts L) := by
  have hm := ho.m
  have hn := ho.n1
  refine ⟨h0, by omega, ?_, fun e he => ?_⟩
  · rw [List.length_map]
    exact Nat.le_trans (insN_len _ _ _) hm
  · obtain ⟨x, hx, rfl⟩ := List.mem_map.mp he
    obtain ⟨u, v, _, _, hu, hv, e2⟩ := insN_mem _ hx
    rw [e2]
    exact ⟨List.idxOf_lt_length_iff.mpr hu, List.idxOf_lt_length_iff.mpr hv⟩
theorem part_facts {N : Nat} {ts : List (Nat × Nat)} {L : List Nat} (hL : L ∈ partsL (Ed ts) N) : L.Pairwise (· < ·) ∧ (∀ x ∈ L, x < N) ∧ 0 < L.length ∧ L.length ≤ N := by
  obtain ⟨h, hh, rfl⟩ := List.mem_map.mp hL
  have h1 : ∀ x ∈ clsL (Ed ts) N h, x < N := fun x hx => (clsL_mem.mp hx).1
  refine ⟨clsL_rising, h1, ?_, nodup_len clsL_rising h1⟩
  obtain ⟨r, e⟩ := clsL_head hh
  rw [e]
  exact Nat.succ_pos _
theorem ties_at {K : PySem.W.Frag} {H : Hp} {l : Addr} {ts : List (Nat × Nat)} (h : TiesAt H l ts) {t : Nat} {u v : Nat} (e : ts[t]? = some (u, v)) : ∃ tas p, SqL K H l tas ∧ atI tas (t : Int) = some (.ref p) ∧ SqT K H p [.int (u : Int), .int (v : Int)] := by
  obtain ⟨tas, h1, h2⟩ := h
  have hlt : t < tas.length := by rw [paired_len h2]; exact (List.getElem?_eq_some_iff.mp e).1
  obtain ⟨⟨u', v'⟩, he, hp⟩ := paired_get h2 (List.getElem?_eq_getElem hlt)
  rw [e] at he
  cases he
  exact ⟨_, tas[t], SqL.of h1, atI_nat (by rw [List.getElem?_map, List.getElem?_eq_getElem hlt]; rfl), SqT.of hp⟩
section
variable {P : Program} {w : World} {K : PySem.W.Frag} {mg : Str → Option Value} {base : Heap} {C : Addr}
def sppart_web (_ : PySem.W.Frag) (C : Addr) : Sp := fun vs H Q _ => ∃ a N ts p L, vs = [.ref a, .ref p] ∧ WebAt C a N ts H ∧ OkWeb N ts ∧ SeqAt H p L ∧ L ∈ partsL (Ed ts) N ∧ ∀ H' t b wl, H' t = some (.tup [.ref b, .ref wl]) → WebAt C b L.length (newT ts L) H' → H' wl = some (.lst (iv (numT ts L))) → H wl = none → Same H H' → Q (.ref t) H'
theorem okpart_web (D : Def K mg "part_web" spart_web ["web", "part"]) (B : Bs mg) (Glb : Glo mg) (WK : WebK K mg C)
    (hneed_web : Good P w K mg base "need_web" sneed_web ["web"] 3 (spneed_web K C))
    (h_need_part : Good P w K mg base "_need_part" s_need_part ["web", "part"] 5 (sp_need_part K C))
    (hWeb_ties : GoodM P w K mg base C "ties" "Web.ties" sWeb_ties ["self"] 1 (spWeb_ties K C))
    (hWeb___init__ : GoodI P w K mg base C "__init__" "Web.__init__" sWeb___init__ ["self", "places", "ties"] 5 (spWeb___init__ K C)) :
    Good P w K mg base "part_web" spart_web ["web", "part"] 7 (sppart_web K C) := by
  refine D.good fun f fd F => ?_
  obtain ⟨fneed_web, dneed_web, Oneed_web, mneed_web, kneed_web, bneed_web, Fneed_web⟩ := hneed_web
  obtain ⟨f_need_part, d_need_part, O_need_part, m_need_part, k_need_part, b_need_part, F_need_part⟩ := h_need_part
  obtain ⟨fWeb_ties, dWeb_ties, OWeb_ties, tWeb_ties, bWeb_ties, FWeb_ties⟩ := hWeb_ties
  obtain ⟨fWeb___init__, dWeb___init__, OWeb___init__, MK, bWeb___init__⟩ := hWeb___init__
  refine F.ok scpart_web (fun vs H Q E h => ?_) (fun cdv A outer s H vs Q E hr h => ?_)
  · obtain ⟨a, N, ts, p, L, rfl, hw, ho, hp, hL, q⟩ := h
    first | rfl | (rcases h with ⟨_, _, rfl, _⟩ | ⟨_, rfl, _⟩ <;> rfl)
  obtain ⟨a, N, ts, p, L, rfl, hw, ho, hp, hL, q⟩ := h
  refine ⟨_, (pss_cons (ps_expr (pe_call Oneed_web (hr.mono (by decide)) rfl mneed_web kneed_web bneed_web .nil pass0 (pa_cons (pv 0) pa_nil)))
  (pss_cons (ps_expr (pe_call O_need_part (hr.mono (by decide)) rfl m_need_part k_need_part b_need_part .nil pass0 (pa_cons (pv 0) (pa_cons (pv 1) pa_nil))))
  (pss_cons (ps_set (i := 2) scpart_web.nd rfl (by first | exact Or.inl rfl | exact Or.inr rfl) (pe_dc (own := [("at", 3), ("place", 4)]) (g := gTup K 2 (gCons (gName 3) (gCons (gName 4) gNil))) (by rfl) scpart_web.nd (pi_or (pi_enum (by rfl) B.enumerate (pa_cons (pv 1) pa_nil)) (pi_enumT (by rfl) B.enumerate (pa_cons (pv 1) pa_nil))) (blkOk_by (own := [("at", 3), ("place", 4)]) (N := ["web", "part", "anew", "at", "place", "ties", "within", "tie", "near", "far"]) (sc := defScope spart_web) (by decide +kernel)) (fun _ _ _ _ _ => (pg_tup rfl (pgs_cons (pg_name (i := 3) scpart_web.nd rfl (by first | exact Or.inl rfl | exact Or.inr rfl)) (pgs_cons (pg_name (i := 4) scpart_web.nd rfl (by first | exact Or.inl rfl | exact Or.inr rfl)) pgs_nil)))) (fun _ _ _ _ _ => pts_nil) (fun _ _ _ _ _ => (pv 4)) (fun _ _ _ _ _ => (pv 3))))
  (pss_cons (ps_set (i := 5) scpart_web.nd rfl (by first | exact Or.inl rfl | exact Or.inr rfl) (pe_meth0 (pv 0) WK.cl tWeb_ties OWeb_ties (hr.mono (by decide)) bWeb_ties .nil pass0))
  (pss_cons (ps_setLc (i := 6) (own := [("tie", 7), ("near", 8), ("far", 9)]) (g := gTup K 2 (gCons (gName 7) (gCons (gTup K 2 (gCons (gName 8) (gCons (gName 9) gNil))) gNil))) (by rfl) scpart_web.nd rfl rfl (sw_true rfl rfl rfl (by decide +kernel)) (pi_enum (by rfl) B.enumerate (pa_cons (pv 5) pa_nil)) (blkOk_by (own := [("tie", 7), ("near", 8), ("far", 9)]) (N := ["web", "part", "anew", "at", "place", "ties", "within", "tie", "near", "far"]) (sc := defScope spart_web) (by decide +kernel)) (fun _ _ _ _ _ => (pg_tup rfl (pgs_cons (pg_name (i := 7) scpart_web.nd rfl (by first | exact Or.inl rfl | exact Or.inr rfl)) (pgs_cons (pg_tup rfl (pgs_cons (pg_name (i := 8) scpart_web.nd rfl (by first | exact Or.inl rfl | exact Or.inr rfl)) (pgs_cons (pg_name (i := 9) scpart_web.nd rfl (by first | exact Or.inl rfl | exact Or.inr rfl)) pgs_nil))) pgs_nil)))) (fun _ _ _ _ _ => (pts_one (PW.pt (pw_and (pt_cmp (pc_din (hu_of hr) (pv 8) (pv 2))) (pw_and1 (pt_cmp (pc_din (hu_of hr) (pv 9) (pv 2)))))))) (fun _ _ _ _ _ => (pv 7)))
  (pss_one (ps_ret (pe_tup (pa_cons (pe_make MK OWeb___init__ (hr.mono (by decide)) rfl WK.mgC bWeb___init__ .nil pass0 (pa_cons (pe_callB call_len_seq (by rfl) B.len (by decide +kernel) (pa_cons (pv 1) pa_nil)) (pa_cons (pe_lc (own := [("tie", 7)]) (g := gName 7) (by rfl) scpart_web.nd (pi_list (pv 6)) (blkOk_by (own := [("tie", 7)]) (N := ["web", "part", "anew", "at", "place", "ties", "within", "tie", "near", "far"]) (sc := defScope spart_web) (by decide +kernel)) (fun _ _ _ _ _ => (pg_name (i := 7) scpart_web.nd rfl (by first | exact Or.inl rfl | exact Or.inr rfl))) (fun _ _ _ _ _ => pts_nil) (fun _ _ _ _ _ => (pe_tup (pa_cons (pe_dget (hu_of hr) (pv 2) (pe_ix (ix_tupK (K := K) rfl) (pe_ix (ix_listK (K := K) rfl) (pv 5) (pv 7) (fun _ _ => rfl)) pe_int (fun _ _ => rfl)) (fun _ _ => rfl)) (pa_cons (pe_dget (hu_of hr) (pv 2) (pe_ix (ix_tupK (K := K) rfl) (pe_ix (ix_listK (K := K) rfl) (pv 5) (pv 7) (fun _ _ => rfl)) pe_int (fun _ _ => rfl)) (fun _ _ => rfl)) pa_nil))))) pa_nil))) (pa_cons (pv 6) pa_nil)))))))))), ?_⟩
  refine ⟨_, rfl, a, N, ts, rfl, hw, ?_⟩
  refine ⟨_, rfl, _, rfl, a, N, ts, p, L, rfl, hw, ho, hp, hL, fun H1 hS1 => ?_⟩
  have hN := ho.n1
  have hm := ho.m
  obtain ⟨hri, hlt, hpos, hlN⟩ := part_facts hL
  have hnd : L.Nodup := hri.imp fun z => Nat.ne_of_lt z
  have hp1 := hp.same hS1
  have hlen : L.length < 1000 := by omega
  suffices fin : ∀ (H2 : Hp) (aw : Addr), Same H1 H2 → H aw = none → H2 aw = some (.dK (dP (posN L L.length))) → _ by
    rcases id hp1 with hh | hh
    · refine .inl ⟨_, rfl, p, _, rfl, SqL.of hh, fun aw naw => ?_⟩
      refine dc_it (walk_enum (K := K) (a := p) (xs := iv L)) (fun i H' => Same H1 H' ∧ H' aw = some (.dK (dP (posN L i)))) ⟨same_new naw _, upd_same⟩ (fun i H' _ ⟨hS', _⟩ => SqL.of (hS' _ _ hh)) ?_ ?_
      · rintro i x H2 H3 hi ⟨hS2, hD2⟩ ⟨T0, x1, x2, rfl, nT0, rfl, e1, e2⟩
        cases e1
        rw [List.length_map] at hi
        replace e2 : (iv L)[i]? = some x2 := e2
        have he : L[i]? = some L[i] := List.getElem?_eq_getElem hi
        rw [List.getElem?_map, he] at e2
        cases e2
        refine ⟨T0, _, rfl, SqT.of upd_same, rfl, _, _, rfl, _, _, rfl, rfl, rfl, _, rfl, _, rfl, dP (posN L i), Sum.inl ((L[i] : Nat) : Int), rfl, same_new nT0 _ _ _ hD2, ?_, same_upd (fun b o e => same_new nT0 _ _ _ (hS2 _ _ e)) naw, ?_⟩
        · rw [dP_len, posN_len (by omega)]
          exact Nat.lt_of_lt_of_le (by omega : i < 1000) (by decide)
        · rw [upd_same, dP_new _ (by rw [posN_fst (by omega)]; exact not_take hnd he), posN_at he]
      · rintro H2 ⟨hS2, hD2⟩
        rw [List.length_map] at hD2
        have h0 := hS1.free naw
        exact fin H2 aw hS2 h0 hD2
    · refine .inr ⟨_, rfl, p, _, rfl, SqT.of hh, fun aw naw => ?_⟩
      refine dc_it (walk_enumT (K := K) (a := p) (xs := iv L)) (fun i H' => Same H1 H' ∧ H' aw = some (.dK (dP (posN L i)))) ⟨same_new naw _, upd_same⟩ (fun i H' _ ⟨hS', _⟩ => SqT.of (hS' _ _ hh)) ?_ ?_
      · rintro i x H2 H3 hi ⟨hS2, hD2⟩ ⟨T0, x1, x2, rfl, nT0, rfl, e1, e2⟩
        cases e1
        rw [List.length_map] at hi
        replace e2 : (iv L)[i]? = some x2 := e2
        have he : L[i]? = some L[i] := List.getElem?_eq_getElem hi
        rw [List.getElem?_map, he] at e2
        cases e2
        refine ⟨T0, _, rfl, SqT.of upd_same, rfl, _, _, rfl, _, _, rfl, rfl, rfl, _, rfl, _, rfl, dP (posN L i), Sum.inl ((L[i] : Nat) : Int), rfl, same_new nT0 _ _ _ hD2, ?_, same_upd (fun b o e => same_new nT0 _ _ _ (hS2 _ _ e)) naw, ?_⟩
        · rw [dP_len, posN_len (by omega)]
          exact Nat.lt_of_lt_of_le (by omega : i < 1000) (by decide)
        · rw [upd_same, dP_new _ (by rw [posN_fst (by omega)]; exact not_take hnd he), posN_at he]
      · rintro H2 ⟨hS2, hD2⟩
        rw [List.length_map] at hD2
        have h0 := hS1.free naw
        exact fin H2 aw hS2 h0 hD2

  intro H2 aw hS2 naw0 haw
  have hS02 := hS1.trans hS2
  have hw2 := hw.same hS02
  obtain ⟨dx2, tl2, fl2, ol2, g1, _⟩ := id hw2
  refine ⟨_, rfl, a, dx2, _, rfl, g1, (by rfl), a, N, ts, rfl, hw2, fun H3 l nl hS3 ⟨tas, hl, hP⟩ => ?_⟩
  refine ⟨_, rfl, l, _, rfl, SqL.of hl, fun D nD => ?_⟩
  have haw3 := hS3 _ _ haw
  have hS03 := hS02.trans hS3
  refine lc_it (walk_enum (K := K) (a := l) (xs := tas.map V.ref)) (fun i H' => Same H3 H' ∧ H' D = some (.lst (iv ((insN ts L i).map Prod.fst)))) ⟨same_new nD _, upd_same⟩ (fun i H' _ ⟨hS', _⟩ => SqL.of (hS' _ _ hl)) ?_ ?_
  · rintro i x H4 H5 hi ⟨hS4, hD4⟩ ⟨T0, x1, x2, rfl, nT0, rfl, e1, e2⟩
    cases e1
    rw [List.length_map] at hi
    replace e2 : (tas.map V.ref)[i]? = some x2 := e2
    rw [List.getElem?_map, List.getElem?_eq_getElem hi] at e2
    cases e2
    obtain ⟨⟨u, v⟩, he, hpe⟩ := paired_get hP (List.getElem?_eq_getElem hi)
    have hil := (List.getElem?_eq_some_iff.mp he).1
    have hS5 : Same H3 (upd H4 T0 (.tup [.int (i : Int), .ref tas[i]])) := fun b o e => same_new nT0 _ _ _ (hS4 _ _ e)
    have hD5 := same_new nT0 (.tup [.int (i : Int), .ref tas[i]]) _ _ hD4
    have hT5 : (upd H4 T0 (.tup [.int (i : Int), .ref tas[i]])) T0 = some (.tup [.int (i : Int), .ref tas[i]]) := upd_same
    generalize upd H4 T0 (.tup [.int (i : Int), .ref tas[i]]) = H5 at hS5 hD5 hT5
    have hp5 : H5 tas[i] = some (.tup [.int (u : Int), .int (v : Int)]) := hS5 _ _ hpe
    have haw5 := hS5 _ _ haw3
    have hat := insN_at (L := L) he
    have hno : ¬ (u ∈ L ∧ v ∈ L) → H5 D = some (.lst (iv ((insN ts L (i + 1)).map Prod.fst))) := fun c => by
      rw [hat, if_neg c]
      exact hD5
    refine ⟨T0, _, rfl, SqT.of hT5, rfl, _, _, rfl, _, _, rfl, ⟨tas[i], _, rfl, SqT.of hp5, rfl, _, _, rfl, _, _, rfl, rfl, rfl, ?_⟩⟩
    refine ⟨rfl, _, rfl, _, rfl, aw, _, rfl, DGet.k (k := Sum.inl (u : Int)) haw5, _, rfl, ?_⟩
    rw [posN_in]
    by_cases cu : u ∈ L
    · refine iteYes cu ⟨_, rfl, _, rfl, aw, _, rfl, DGet.k (k := Sum.inl (v : Int)) haw5, _, rfl, ?_⟩
      rw [posN_in]
      by_cases cv : v ∈ L
      · refine iteYes cv ⟨_, rfl, _, hD5, ?_, same_upd hS5 nD, ?_⟩
        · rw [List.length_map, List.length_map]
          exact Nat.lt_of_le_of_lt (insN_len ts L i) (Nat.lt_of_lt_of_le (by omega : i < 1000) (by decide))
        · rw [upd_same, hat, if_pos ⟨cu, cv⟩, List.map_append, iv, iv, List.map_append]
          rfl
      · exact iteNo cv ⟨hS5, hno fun z => cv z.2⟩
    · exact iteNo cu (iteF ⟨hS5, hno fun z => cu z.1⟩)
  rintro H4 ⟨hS4, hD4⟩
  rw [List.length_map, paired_len hP] at hD4
  have nD0 : H D = none := hS03.free nD
  have hl4 := hS4 _ _ hl
  have haw4 := hS4 _ _ haw3
  have hS04 := hS03.trans hS4
  have hpp := (hp.same hS04)
  refine ⟨_, rfl, p, iv L, rfl, hpp.imp (fun h => SqL.of h) (fun h => SqT.of h), ?_⟩
  refine ⟨_, rfl, D, rfl, ⟨_, SqL.of hD4⟩, fun R nR => ?_⟩
  refine lc_list (K := K) (a := D) (xs := iv (numT ts L)) (fun i H' => Same H4 H' ∧ TiesAt H' R ((newT ts L).take i)) ⟨same_new nR _, TiesAt.nil⟩ (fun i H' _ ⟨hS', _⟩ => SqL.of (hS' _ _ hD4)) ?_ ?_
  · rintro i x H5 hx ⟨hS5, hR5⟩
    rw [List.getElem?_map, List.getElem?_map] at hx
    obtain ⟨y, hy, rfl⟩ : ∃ y, (insN ts L ts.length)[i]? = some y ∧ x = V.int (y.1 : Int) := by
      cases e : (insN ts L ts.length)[i]? with
      | none => rw [e] at hx; cases hx
      | some y => rw [e] at hx; exact ⟨y, rfl, (Option.some.inj hx).symm⟩
    obtain ⟨u, v, hk, he, hu, hv, e2⟩ := insN_mem _ (List.mem_of_getElem? hy)
    obtain ⟨tas', tp, m1, m2, m3⟩ := ties_at (K := K) ((show TiesAt H4 l ts from ⟨tas, hl4, paired_mono (fun p e hp => hS4 _ _ hp) hP⟩).same hS5) he
    have haw5 := hS5 _ _ haw4
    have du := DGet.k (k := Sum.inl (u : Int)) haw5
    have dv := DGet.k (k := Sum.inl (v : Int)) haw5
    rw [posN_val hnd hu] at du
    rw [posN_val hnd hv] at dv
    refine ⟨rfl, _, rfl, _, rfl, _, rfl, _, _, _, .ref tp, rfl, rfl, m1, m2, _, _, _, .int (u : Int), rfl, rfl, m3, rfl, aw, _, rfl, du, ?_⟩
    refine ⟨_, rfl, _, rfl, _, rfl, _, _, _, .ref tp, rfl, rfl, m1, m2, _, _, _, .int (v : Int), rfl, rfl, m3, rfl, aw, _, rfl, dv, (by show 2 ≤ sizeLine; decide), fun tq ntq => ?_⟩
    obtain ⟨xs, k1, k2, k3⟩ := hR5.push (u := L.idxOf u) (v := L.idxOf v) ntq
    have hy2 : (newT ts L)[i]? = some (L.idxOf u, L.idxOf v) := by
      rw [List.getElem?_map, hy, ← e2]
      rfl
    refine ⟨xs, k1, ?_, same_upd (fun b o e => same_new ntq _ _ _ (hS5 _ _ e)) nR, ?_⟩
    · rw [k2]
      have hq := (List.getElem?_eq_some_iff.mp hy).1
      have hq2 := insN_len ts L ts.length
      refine Nat.lt_of_le_of_lt (List.length_take_le _ _) (Nat.lt_of_lt_of_le (by omega : i < 1000) (by decide))
    · rw [take_snocE hy2]
      exact k3
  · rintro H5 ⟨hS5, hR5⟩
    rw [List.length_map, List.length_map, show ((newT ts L).take (insN ts L ts.length).length) = newT ts L from List.take_of_length_le (by rw [List.length_map]; exact Nat.le_refl _)] at hR5
    have hS05 := hS04.trans hS5
    intro x dx' nx ndx ndxx
    have hS6 : Same H5 (upd (upd H5 dx' (.own x)) x (.ins C dx' [])) := fun b o e => by
      rw [upd_ne (ne_of_none e nx), upd_ne (ne_of_none e ndx)]
      exact e
    refine ⟨x, dx', L.length, R, newT ts L, by rw [List.length_map]; rfl, okWeb_new ho hpos hlN, hR5.same hS6, upd_same, fun H7 hk7 hw7 => ⟨rfl, ?_⟩⟩
    have hS7 : Same H5 H7 := fun b o e => hk7 _ _ (hS6 _ _ e) (ne_of_none e nx)
    refine ⟨_, rfl, (by show 2 ≤ sizeLine; decide), fun t nt => ?_⟩
    have hS8 := same_new nt (.tup [.ref x, .ref D])
    exact q _ t x D upd_same ((hw7.same Sub.same).same hS8) (hS8 _ _ (hS7 _ _ (hS5 _ _ hD4))) nD0 (fun b o e => hS8 _ _ (hS7 _ _ (hS05 _ _ e)))
end
end My
namespace My
open PySem L2 PyProof.Rows
theorem eqv_tzs (ts : List (Nat × Nat)) : PyData.eqv (tz ts) (tz ts) = true := SeqAt.eqv_refl _ (SeqAt.canLay_of_shaped (shaped_tz ts))
theorem eqvAll_dn : ∀ L M : List Nat, PyData.eqvAll (L.map fun n : Nat => PyData.int (n : Int)) (M.map fun n : Nat => PyData.int (n : Int)) = decide (L = M)
  | [], [] => rfl
  | [], _ :: _ => rfl
  | _ :: _, [] => rfl
  | a :: L, b :: M => by
    show (((a : Int) == (b : Int)) && PyData.eqvAll (L.map fun n : Nat => PyData.int (n : Int)) (M.map fun n : Nat => PyData.int (n : Int))) = _
    rw [eqvAll_dn L M]
    by_cases h : a = b
    · subst h
      by_cases k : L = M
      · subst k; simp
      · simp [k]
    · have h2 : ¬ (a : Int) = (b : Int) := by omega
      simp [h, h2]
theorem eqv_dns (L M : List Nat) : PyData.eqv (dn L) (dn M) = decide (L = M) := eqvAll_dn L M
theorem any_dns (LL : List (List Nat)) (L : List Nat) : ((LL.map dn).any fun z => PyData.eqv z (dn L)) = decide (L ∈ LL) := by
  rw [Bool.eq_iff_iff, List.any_eq_true, decide_eq_true_iff]
  constructor
  · rintro ⟨d, hd, e⟩
    obtain ⟨M, hM, rfl⟩ := List.mem_map.mp hd
    rw [eqv_dns] at e
    rw [← of_decide_eq_true e]
    exact hM
  · intro h
    exact ⟨dn L, List.mem_map.mpr ⟨L, h, rfl⟩, eqv_dn L⟩
theorem headsN_mem {E : Nat → Nat → Prop} {N i p : Nat} (hi : i ≤ N) : p ∈ headsN E i ↔ p < i ∧ p ∈ headsL E N := by
  unfold headsN
  rw [List.mem_filter, List.mem_range, bdec_iff, headsL_mem]
  exact ⟨fun z => ⟨z.1, by omega, z.2⟩, fun z => ⟨z.1, z.2.2⟩⟩
theorem cls_seen {E : Nat → Nat → Prop} {N i : Nat} (hi : i < N) : clsL E N i ∈ (headsN E i).map (clsL E N) ↔ i ∉ headsL E N := by
  constructor
  · intro h hh
    obtain ⟨j, hj, e⟩ := List.mem_map.mp h
    have hj2 := (headsN_mem (Nat.le_of_lt hi)).mp hj
    have hm : i ∈ clsL E N j := by rw [e]; exact clsL_mem.mpr ⟨hi, mut_refl i⟩
    have := head_unique hj2.2 hh (clsL_mem.mp hm).2
    omega
  · intro h
    obtain ⟨m, hm, r⟩ := head_of (E := E) hi
    have hm2 := headsL_mem.mp hm
    have hmi : m < i := by
      rcases Nat.lt_trichotomy m i with c | c | c
      · exact c
      · rw [c] at hm; exact absurd hm h
      · exact absurd r.symm (hm2.2 i c)
    exact List.mem_map.mpr ⟨m, (headsN_mem (Nat.le_of_lt hi)).mpr ⟨hmi, hm⟩, (clsL_same r).symm⟩
section
variable {P : Program} {w : World} {K : PySem.W.Frag} {mg : Str → Option Value} {base : Heap} {C : Addr}
def spWeb___eq__ (_ : PySem.W.Frag) (C : Addr) : Sp := fun vs H Q _ => ∃ a b N ts, vs = [.ref a, .ref b] ∧ WebAt C a N ts H ∧ WebAt C b N ts H ∧ Q (.bl true) H
theorem okWeb___eq__ (D : DefM K C "__eq__" "Web.__eq__" sWeb___eq__ ["self", "other"]) (B : Bs mg) (Glb : Glo mg) (WK : WebK K mg C) :
    GoodM P w K mg base C "__eq__" "Web.__eq__" sWeb___eq__ ["self", "other"] 1 (spWeb___eq__ K C) := by
  refine D.good fun f fd F => ?_
  refine F.ok scWeb___eq__ (fun vs H Q E h => ?_) (fun cdv A outer s H vs Q E hr h => ?_)
  · obtain ⟨a, b, N, ts, rfl, hw, hv, q⟩ := h
    first | rfl | (rcases h with ⟨_, _, rfl, _⟩ | ⟨_, rfl, _⟩ <;> rfl)
  obtain ⟨a, b, N, ts, rfl, hw, hv, q⟩ := h
  refine ⟨_, (pss_one (ps_ret (pe_and (pe_callB call_isi (by rfl) B.isinstance (by decide +kernel) (pa_cons (pv 1) (pa_cons (pe_glob (v := .ref C) (by rfl) WK.mgC rfl) pa_nil))) (pe_and (pe_cmpR op_eq (pe_fld (pv 0) rfl) (pe_fld (pv 1) rfl) (nomark _)) (pe_one (pe_cmpR (op_eqD hr.units) (pe_fld (pv 0) rfl) (pe_fld (pv 1) rfl) (nomark _))))))), ?_⟩
  obtain ⟨dx, tl, fl, ol, h1, h2, h3⟩ := id hw
  obtain ⟨dy, um, gl, pl, k1, k2, k3⟩ := id hv
  refine ⟨_, rfl, _, _, _, _, true, rfl, .own C, .base (.ins k1 WK.cl WK.i1 WK.i2 WK.i3 WK.i4), WK.i5, _, rfl, iteT ?_⟩
  refine ⟨_, rfl, a, C, dx, _, _, rfl, h1, WK.cl, WK.nP, wf_P _ _ _ _, _, rfl, b, C, dy, _, _, rfl, k1, WK.cl, WK.nP, wf_P _ _ _ _, rfl, _, rfl, iteYes rfl ?_⟩
  refine ⟨_, rfl, a, C, dx, _, _, rfl, h1, WK.cl, WK.nT, wf_T _ _ _ _, _, rfl, b, C, dy, _, _, rfl, k1, WK.cl, WK.nT, wf_T _ _ _ _, _, _, dp_tz h2, dp_tz k2, shaped_tz _, shaped_tz _, ?_⟩
  exact bl_is (eqv_tzs ts) q
def sp_law_parts (_ : PySem.W.Frag) (_ : Addr) : Sp := fun vs H Q _ => ∃ N t ts, vs = [.int ((N : Nat) : Int), .ref t] ∧ TiesAt H t ts ∧ OkWeb N ts ∧ ∀ H' l, H l = none → Same H H' → LolAt H' l (partsL (Ed ts) N) → Q (.ref l) H'
theorem ok_law_parts (D : Def K mg "_law_parts" s_law_parts ["_law_places", "_law_ties_here"]) (B : Bs mg) (Glb : Glo mg) (WK : WebK K mg C)
    (h_law_reach : Good P w K mg base "_law_reach" s_law_reach ["_law_ties_here", "_law_place", "_law_without"] 1 (sp_law_reach K C)) :
    Good P w K mg base "_law_parts" s_law_parts ["_law_places", "_law_ties_here"] 2 (sp_law_parts K C) := by
  refine D.good fun f fd F => ?_
  obtain ⟨f_law_reach, d_law_reach, O_law_reach, m_law_reach, k_law_reach, b_law_reach, F_law_reach⟩ := h_law_reach
  refine F.ok sc_law_parts (fun vs H Q E h => ?_) (fun cdv A outer s H vs Q E hr h => ?_)
  · obtain ⟨N, t, ts, rfl, hT, ho, q⟩ := h
    first | rfl | (rcases h with ⟨_, _, rfl, _⟩ | ⟨_, rfl, _⟩ <;> rfl)
  obtain ⟨N, t, ts, rfl, hT, ho, q⟩ := h
  refine ⟨_, (pss_cons (ps_set (i := 2) sc_law_parts.nd rfl (by first | exact Or.inl rfl | exact Or.inr rfl) (pe_lst pa_nil))
  (pss_cons (ps_for PassesOwn.never rfl (pi_range1 (by rfl) B.range (pa_cons (pv 0) pa_nil)) (pg_name (i := 3) sc_law_parts.nd rfl (by first | exact Or.inl rfl | exact Or.inr rfl))
    (pss_cons (ps_set (i := 4) sc_law_parts.nd rfl (by first | exact Or.inl rfl | exact Or.inr rfl) (pe_call O_law_reach hr rfl m_law_reach k_law_reach b_law_reach .nil pass0 (pa_cons (pv 1) (pa_cons (pv 3) (pa_cons (pe_lst pa_nil) pa_nil)))))
  (pss_cons (ps_setLc (i := 5) (own := [("_law_one", 6)]) (g := gName 6) (by rfl) sc_law_parts.nd rfl rfl (sw_true rfl rfl rfl (by decide +kernel)) (pi_list (pv 4)) (blkOk_by (own := [("_law_one", 6)]) (N := ["_law_places", "_law_ties_here", "_law_found", "_law_place", "_law_come", "_law_part", "_law_one"]) (sc := defScope s_law_parts) (by decide +kernel)) (fun _ _ _ _ _ => (pg_name (i := 6) sc_law_parts.nd rfl (by first | exact Or.inl rfl | exact Or.inr rfl))) (fun _ _ _ _ _ => (pts_one (pt_cmpR (op_in_seqK (K := K) rfl) (pv 3) (pe_call O_law_reach hr rfl m_law_reach k_law_reach b_law_reach .nil pass0 (pa_cons (pv 1) (pa_cons (pv 6) (pa_cons (pe_lst pa_nil) pa_nil)))) (by rfl)))) (fun _ _ _ _ _ => (pv 6)))
  (pss_one (ps_if (pt_cmpR (op_notInD (u65 hr)) (pv 5) (pv 2) (by rfl))
    (pss_one (ps_expr (pe_bm PySem.F.plainAttrs_list PySem.F.slot_list_append PySem.F.type_list_append mt_append (pv 2) (pa_cons (pv 5) pa_nil)))) pss_nil)))))
  (pss_one (ps_ret (pe_callB (cr_sortD hr.units) (by rfl) B.sorted (by decide +kernel) (pa_cons (pv 2) pa_nil)))))), ?_⟩
  have hN := ho.n1
  have hfl : ∀ L : List Nat, L.Pairwise (· < ·) → (∀ y ∈ L, y < N) → L.length < sizeLine := fun L h1 h2 => Nat.lt_of_le_of_lt (Nat.le_trans (nodup_len h1 h2) hN) (by decide)
  refine ⟨Nat.zero_le _, fun pl npl => ⟨_, rfl, _, rfl, by omega, by omega, ?_⟩⟩
  refine for_range (lo := 0) (n := N) (fun i σ H' => ∃ (v3 v4 v5 v6 : Option V), σ = [some (.int (N : Int)), some (.ref t), some (.ref pl), v3, v4, v5, v6] ∧ Same H H' ∧ LolAt H' pl ((headsN (Ed ts) i).map (clsL (Ed ts) N))) ⟨_, _, _, _, rfl, same_new npl _, [], upd_same, .nil⟩ ?_ ?_
  · rintro i σ H1 hi ⟨v3, v4, v5, v6, rfl, hS1, hL1⟩
    rw [Int.zero_add]
    refine ⟨_, rfl, _, rfl, Nat.zero_le _, fun e1 ne1 => ⟨t, ts, i, e1, [], N, rfl, (hT.same hS1).same (same_new ne1 _), ho, hi, .inl upd_same, fun H2 l R nl hl hS2 hR => ?_⟩⟩
    have hR := reach_cn ho hi hR
    subst hR
    rw [← iv_iz] at hl
    have hS12 : Same H1 H2 := fun b o e => hS2 _ _ (same_new ne1 _ _ _ e)
    refine ⟨_, rfl, l, rfl, ⟨_, SqL.of hl⟩, fun D2 nD2 => ?_⟩
    refine lc_list (K := K) (a := l) (xs := iv (rchL (Ed ts) N i)) (fun j H' => Same H2 H' ∧ H' D2 = some (.lst (iv (((rchL (Ed ts) N i).take j).filter fun o => decide (i ∈ rchL (Ed ts) N o))))) ⟨same_new nD2 _, upd_same⟩ (fun j H' _ ⟨hS', _⟩ => SqL.of (hS' _ _ hl)) ?_ ?_
    · rintro j y H3 hy ⟨hS3, hD3⟩
      rw [List.getElem?_map] at hy
      obtain ⟨o, hoj, rfl⟩ : ∃ o, (rchL (Ed ts) N i)[j]? = some o ∧ y = V.int (o : Int) := by
        cases e : (rchL (Ed ts) N i)[j]? with
        | none => rw [e] at hy; cases hy
        | some o => rw [e] at hy; exact ⟨o, rfl, (Option.some.inj hy).symm⟩
      have hoN : o < N := (rchL_mem.mp (List.mem_of_getElem? hoj)).1
      refine ⟨rfl, _, rfl, _, rfl, _, rfl, Nat.zero_le _, fun e2 ne2 => ⟨t, ts, o, e2, [], N, rfl, (((hT.same hS1).same hS12).same hS3).same (same_new ne2 _), ho, hoN, .inl upd_same, fun H4 l2 R2 nl2 hl2 hS4 hR2 => ?_⟩⟩
      have hR2 := reach_cn ho hoN hR2
      subst hR2
      rw [← iv_iz] at hl2
      have hS34 : Same H3 H4 := fun b o e => hS4 _ _ (same_new ne2 _ _ _ e)
      have hD4 := hS34 _ _ hD3
      refine ⟨l2, _, rfl, .inl (SqL.of hl2), rfl, flat_iv _, _, rfl, ?_⟩
      dsimp only
      rw [inV_iv, take_snocE hoj, List.filter_append, List.filter_cons, List.filter_nil]
      by_cases c : i ∈ rchL (Ed ts) N o
      · rw [if_pos (decide_eq_true c)]
        refine iteYes c ⟨_, rfl, _, hD4, ?_, same_upd (hS3.trans hS34) nD2, ?_⟩
        · rw [List.length_map]
          refine hfl _ (List.Pairwise.filter _ (rchL_rising.sublist (List.take_sublist _ _))) fun y hy => ?_
          exact (rchL_mem.mp (List.mem_of_mem_take (List.mem_filter.mp hy).1)).1
        · rw [upd_same, iv_app]
      · rw [if_neg (fun z => c (of_decide_eq_true z)), List.append_nil]
        exact iteNo c ⟨hS3.trans hS34, hD4⟩
    rintro H3 ⟨hS3, hD3⟩
    rw [List.length_map, List.take_length, filter_cls hi] at hD3
    have hS13 := hS12.trans hS3
    have hL3 := hL1.same hS13
    have nDp : D2 ≠ pl := fun z => by
      obtain ⟨as, e, _⟩ := hL1.same hS12
      rw [z, e] at nD2
      cases nD2
    refine ⟨_, rfl, _, rfl, dn (clsL (Ed ts) N i), _, dp_dn hD3, dp_lol hL3, shaped_dn _, shaped_lol _, _, rfl, ?_⟩
    rw [any_dns]
    by_cases c : i ∈ headsL (Ed ts) N
    · refine iteNot (fun z => (cls_seen hi).mp z c) ?_
      obtain ⟨xs, k1, k2, k3⟩ := hL3.add hD3 nDp
      refine ⟨_, rfl, .inl ⟨rfl, _, SqL.of k1⟩, _, rfl, pl, _, _, rfl, rfl, k1, ?_, ?_⟩
      · rw [k2, List.length_map]
        exact hfl _ (List.Pairwise.filter _ List.pairwise_lt_range) fun y hy => by
          have := List.mem_range.mp (List.mem_filter.mp hy).1
          omega
      refine ⟨_, _, _, _, rfl, fun b o e => by rw [upd_ne (ne_of_none e npl)]; exact hS13 _ _ (hS1 _ _ e), ?_⟩
      rw [headsN_yes hi c, List.map_append]
      exact k3
    · refine iteNot' ((cls_seen hi).mpr c) ⟨_, _, _, _, rfl, hS1.trans hS13, ?_⟩
      rw [headsN_no hi c]
      exact hL3
  · rintro σ H1 ⟨v3, v4, v5, v6, rfl, hS1, hL1⟩
    obtain ⟨as, g1, g2⟩ := id hL1
    refine ⟨_, rfl, pl, as.map V.ref, ((headsL (Ed ts) N).map (clsL (Ed ts) N)).map dn, rfl, SqL.of g1, dpAll_lol g2, lol_alike _, lol_sortable _, fun d hd => ?_, ?_, fun zs p hz np => ?_⟩
    · obtain ⟨L, _, rfl⟩ := List.mem_map.mp hd
      exact dn_depth L
    · rw [List.length_map, paired_len g2, List.length_map]
      exact Nat.le_trans (nodup_len headsL_rising fun x hx => (headsL_mem.mp hx).1) (Nat.le_trans hN (by decide))
    rw [sort_parts (List.Perm.refl _)] at hz
    obtain ⟨bs, rfl, k1, k2⟩ := lol_pick g2 hz
    exact q _ p (hS1.free np) (fun b o e => same_new np _ _ _ (hS1 _ _ e)) ⟨bs, upd_same, paired_mono (fun x L hx => same_new np _ _ _ hx) k1⟩
end
end My
namespace My
open PySem L2 PyProof.Rows
theorem range_part {N : Nat} {L : List Nat} (hr : L.Pairwise (· < ·)) (hl : ∀ x ∈ L, x < N) : (List.range N).filter (fun o => decide (o ∈ L)) = L := by
  have h1 : ((List.range N).filter fun o => decide (o ∈ L)).Pairwise (· < ·) := List.Pairwise.filter _ List.pairwise_lt_range
  refine List.Perm.eq_of_pairwise ?_ h1 hr ((List.perm_ext_iff_of_nodup (h1.imp fun z => Nat.ne_of_lt z) (hr.imp fun z => Nat.ne_of_lt z)).mpr fun x => ?_)
  · intro a b _ _ h k
    omega
  · rw [List.mem_filter, List.mem_range, decide_eq_true_iff]
    exact ⟨fun z => z.2, fun z => ⟨hl x z, z⟩⟩
theorem eqV_int (a b : Nat) : eqV (V.int (a : Int)) (V.int (b : Int)) = decide (a = b) := by
  show ((a : Int) == (b : Int)) = _
  by_cases h : a = b
  · subst h; simp
  · have h2 : ¬ (a : Int) = (b : Int) := by omega
    simp [h, h2]
theorem idx_not {L : List Nat} (hn : L.Nodup) {u : Nat} (hu : u ∈ L) (m : Nat) (z : V) (hm : m < L.idxOf u) (hz : (iv L)[m]? = some z) : eqV z (.int (u : Int)) = false := by
  rw [List.getElem?_map] at hz
  cases e : L[m]? with
  | none => rw [e] at hz; cases hz
  | some y =>
    rw [e] at hz
    have hz := Option.some.inj hz
    rw [← hz, eqV_int]
    refine decide_eq_false fun h => ?_
    rw [h] at e
    have := nodup_get hn e (idx_at hu)
    omega
theorem parts_one {E : Nat → Nat → Prop} {M : Nat} (h0 : 0 < M) (h : ∀ u v, u < M → v < M → Rch E u v) : (partsL E M).length = 1 := by
  have hp : (headsL E M).Perm [0] := (List.perm_ext_iff_of_nodup (headsL_rising.imp fun z => Nat.ne_of_lt z) (by simp)).mpr fun x => by
    rw [headsL_mem, List.mem_singleton]
    constructor
    · rintro ⟨h1, h2⟩
      rcases Nat.eq_zero_or_pos x with c | c
      · exact c
      · exact absurd ⟨h x 0 h1 h0, h 0 x h0 h1⟩ (h2 0 c)
    · rintro rfl
      exact ⟨h0, fun x hx => by omega⟩
  unfold partsL
  rw [List.length_map, hp.length_eq]
  rfl
theorem insN_has {ts : List (Nat × Nat)} {L : List Nat} {i u v : Nat} (h : ts[i]? = some (u, v)) (hu : u ∈ L) (hv : v ∈ L) : ∀ n, i < n → n ≤ ts.length → (i, (L.idxOf u, L.idxOf v)) ∈ insN ts L n
  | 0, h1, _ => by omega
  | n + 1, h1, h2 => by
    obtain ⟨⟨a, b⟩, e⟩ : ∃ e, ts[n]? = some e := ⟨ts[n]'(by omega), List.getElem?_eq_getElem _⟩
    rw [insN_at e]
    by_cases c : i = n
    · subst c
      rw [h] at e
      cases e
      rw [if_pos ⟨hu, hv⟩]
      simp
    · have := insN_has h hu hv n (by omega) (by omega)
      split
      · exact List.mem_append_left _ this
      · exact this
theorem rch_new {ts : List (Nat × Nat)} {N : Nat} {L : List Nat} (ho : OkWeb N ts) (hL : L ∈ partsL (Ed ts) N) {u v : Nat} (hu : u ∈ L) (hv : v ∈ L) (r : Rch (Ed ts) u v) : Rch (Ed (newT ts L)) (L.idxOf u) (L.idxOf v) := by
  obtain ⟨h, hh, rfl⟩ := List.mem_map.mp hL
  obtain ⟨k, r⟩ := r
  induction r with
  | nil => exact rch_refl _
  | @snoc k u x v a e ih =>
    have hu2 := (clsL_mem.mp hu)
    have hv2 := (clsL_mem.mp hv)
    have hxv : Rch (Ed ts) x v := rch_one e
    have hux : Rch (Ed ts) u x := ⟨_, a⟩
    have hmx : Mut (Ed ts) h x := ⟨rch_trans hu2.2.1 hux, rch_trans hxv hv2.2.2⟩
    have hx : x ∈ clsL (Ed ts) N h := by
      exact clsL_mem.mpr ⟨(ed_low ho e).1, hmx⟩
    refine rch_trans (ih hu hx) (rch_one ?_)
    obtain ⟨i, hi, _⟩ := e
    have hm := insN_has hi hx hv ts.length (List.getElem?_eq_some_iff.mp hi).1 (Nat.le_refl _)
    obtain ⟨j, hj⟩ := List.getElem?_of_mem hm
    refine ⟨j, ?_, by simp⟩
    rw [List.getElem?_map, hj]
    rfl
theorem mut_in {ts : List (Nat × Nat)} {N : Nat} {L : List Nat} (hL : L ∈ partsL (Ed ts) N) {u v : Nat} (hu : u ∈ L) (hv : v ∈ L) : Rch (Ed ts) u v := by
  obtain ⟨h, hh, rfl⟩ := List.mem_map.mp hL
  exact rch_trans (clsL_mem.mp hu).2.2 (clsL_mem.mp hv).2.1
theorem closed_new {ts : List (Nat × Nat)} {N : Nat} {L : List Nat} (ho : OkWeb N ts) (hL : L ∈ partsL (Ed ts) N) : closedB L.length (newT ts L) = decide (newT ts L ≠ []) := by
  obtain ⟨hri, hlt, hpos, hlN⟩ := part_facts hL
  unfold closedB
  have hall : ∀ x y, x < L.length → y < L.length → Rch (Ed (newT ts L)) x y := fun x y hx hy => by
    have hmx := List.getElem_mem hx
    have hmy := List.getElem_mem hy
    have hnd : L.Nodup := hri.imp fun z => Nat.ne_of_lt z
    have ex : L.idxOf L[x] = x := nodup_get hnd (idx_at hmx) (List.getElem?_eq_getElem hx)
    have ey : L.idxOf L[y] = y := nodup_get hnd (idx_at hmy) (List.getElem?_eq_getElem hy)
    have hr : Rch (Ed ts) L[x] L[y] := mut_in hL hmx hmy
    have := rch_new ho hL hmx hmy hr
    rwa [ex, ey] at this
  rw [parts_one hpos hall, decide_eq_true (show (1 : Nat) = 1 from rfl), Bool.and_true, Bool.eq_iff_iff, decide_eq_true_iff, decide_eq_true_iff]
  exact List.length_pos_iff
section
variable {P : Program} {w : World} {K : PySem.W.Frag} {mg : Str → Option Value} {base : Heap} {C : Addr}
def sp_law_part_right (_ : PySem.W.Frag) (C : Addr) : Sp := fun vs H Q _ => ∃ N t ts a p L, vs = [.int ((N : Nat) : Int), .ref t, .ref a, .ref p] ∧ TiesAt H t ts ∧ OkWeb N ts ∧ WebAt C a N ts H ∧ H p = some (.lst (iv L)) ∧ L ∈ partsL (Ed ts) N ∧ ∀ H', Same H H' → Q (.bl true) H'
theorem ok_law_part_right (D : Def K mg "_law_part_right" s_law_part_right ["_law_places", "_law_ties_here", "_law_web", "_law_part"]) (B : Bs mg) (Glb : Glo mg) (WK : WebK K mg C)
    (hpart_web : Good P w K mg base "part_web" spart_web ["web", "part"] 7 (sppart_web K C))
    (his_close : Good P w K mg base "is_close" sis_close ["web"] 5 (spis_close K C))
    (hWeb___eq__ : GoodM P w K mg base C "__eq__" "Web.__eq__" sWeb___eq__ ["self", "other"] 1 (spWeb___eq__ K C))
    (hWeb___init__ : GoodI P w K mg base C "__init__" "Web.__init__" sWeb___init__ ["self", "places", "ties"] 5 (spWeb___init__ K C)) :
    Good P w K mg base "_law_part_right" s_law_part_right ["_law_places", "_law_ties_here", "_law_web", "_law_part"] 8 (sp_law_part_right K C) := by
  refine D.good fun f fd F => ?_
  obtain ⟨fpart_web, dpart_web, Opart_web, mpart_web, kpart_web, bpart_web, Fpart_web⟩ := hpart_web
  obtain ⟨fis_close, dis_close, Ois_close, mis_close, kis_close, bis_close, Fis_close⟩ := his_close
  obtain ⟨fWeb___eq__, dWeb___eq__, OWeb___eq__, tWeb___eq__, bWeb___eq__, FWeb___eq__⟩ := hWeb___eq__
  obtain ⟨fWeb___init__, dWeb___init__, OWeb___init__, MK, bWeb___init__⟩ := hWeb___init__
  have kb_part_web_part_web : KBinds K dpart_web ["web", "part"] ["part", "web"] g21 g21 := fun_kbinds Fpart_web g21 g21 rel21 (fun _ _ _ _ _ _ us ws hl => by
    obtain ⟨rfl, a0, a1, rfl⟩ := g21_inv hl
    rfl)
  refine F.ok sc_law_part_right (fun vs H Q E h => ?_) (fun cdv A outer s H vs Q E hr h => ?_)
  · obtain ⟨N, t, ts, a, p, L, rfl, hT, ho, hw, hp, hL, q⟩ := h
    first | rfl | (rcases h with ⟨_, _, rfl, _⟩ | ⟨_, rfl, _⟩ <;> rfl)
  obtain ⟨N, t, ts, a, p, L, rfl, hT, ho, hw, hp, hL, q⟩ := h
  refine ⟨_, (pss_cons (ps_par (i := 4) (j := 5) (by rfl) sc_law_part_right.nd rfl rfl (by decide) rfl rfl (pa_cons (pe_lst pa_nil) (pa_cons (pe_lst pa_nil) pa_nil)) (by rfl))
  (pss_cons (ps_for PassesOwn.never rfl (pi_enum (by rfl) B.enumerate (pa_cons (pv 1) pa_nil)) (pg_tup rfl (pgs_cons (pg_name (i := 6) sc_law_part_right.nd rfl (by first | exact Or.inl rfl | exact Or.inr rfl)) (pgs_cons (pg_name (i := 7) sc_law_part_right.nd rfl (by first | exact Or.inl rfl | exact Or.inr rfl)) pgs_nil)))
    (pss_one (ps_if (PW.pt (pw_and (pt_cmpR op_in_seq (pe_ix ix_tup (pv 7) pe_int (fun _ _ => rfl)) (pv 3) (by rfl)) (pw_and1 (pt_cmpR op_in_seq (pe_ix ix_tup (pv 7) pe_int (fun _ _ => rfl)) (pv 3) (by rfl)))))
    (pss_cons (ps_expr (pe_bm PySem.F.plainAttrs_list PySem.F.slot_list_append PySem.F.type_list_append mt_append (pv 4) (pa_cons (pv 6) pa_nil)))
  (pss_one (ps_expr (pe_bm PySem.F.plainAttrs_list PySem.F.slot_list_append PySem.F.type_list_append mt_append (pv 5) (pa_cons (pe_tup (pa_cons (pe_bm PySem.F.plainAttrs_list PySem.F.slot_list_index PySem.F.type_list_index mt_index (pe_lc (own := [("_law_one", 10)]) (g := gName 10) (by rfl) sc_law_part_right.nd (pi_range1 (by rfl) B.range (pa_cons (pv 0) pa_nil)) (blkOk_by (own := [("_law_one", 10)]) (N := ["_law_places", "_law_ties_here", "_law_web", "_law_part", "_law_numbers", "_law_made_here", "_law_number", "_law_tie", "_law_told", "_law_late", "_law_one"]) (sc := defScope s_law_part_right) (by decide +kernel)) (fun _ _ _ _ _ => (pg_name (i := 10) sc_law_part_right.nd rfl (by first | exact Or.inl rfl | exact Or.inr rfl))) (fun _ _ _ _ _ => (pts_one (pt_cmpR (op_in_seqK (K := K) rfl) (pv 10) (pv 3) (by rfl)))) (fun _ _ _ _ _ => (pv 10))) (pa_cons (pe_ix ix_tup (pv 7) pe_int (fun _ _ => rfl)) pa_nil)) (pa_cons (pe_bm PySem.F.plainAttrs_list PySem.F.slot_list_index PySem.F.type_list_index mt_index (pe_lc (own := [("_law_one", 10)]) (g := gName 10) (by rfl) sc_law_part_right.nd (pi_range1 (by rfl) B.range (pa_cons (pv 0) pa_nil)) (blkOk_by (own := [("_law_one", 10)]) (N := ["_law_places", "_law_ties_here", "_law_web", "_law_part", "_law_numbers", "_law_made_here", "_law_number", "_law_tie", "_law_told", "_law_late", "_law_one"]) (sc := defScope s_law_part_right) (by decide +kernel)) (fun _ _ _ _ _ => (pg_name (i := 10) sc_law_part_right.nd rfl (by first | exact Or.inl rfl | exact Or.inr rfl))) (fun _ _ _ _ _ => (pts_one (pt_cmpR (op_in_seqK (K := K) rfl) (pv 10) (pv 3) (by rfl)))) (fun _ _ _ _ _ => (pv 10))) (pa_cons (pe_ix ix_tup (pv 7) pe_int (fun _ _ => rfl)) pa_nil)) pa_nil))) pa_nil))))) pss_nil)))
  (pss_cons (ps_set (i := 8) sc_law_part_right.nd rfl (by first | exact Or.inl rfl | exact Or.inr rfl) (pe_call Opart_web hr rfl mpart_web kpart_web bpart_web .nil pass0 (pa_cons (pv 2) (pa_cons (pv 3) pa_nil))))
  (pss_cons (ps_if (PW.pt (pw_or (pt_not (pt_val (pe_callB call_isi (by rfl) B.isinstance (by decide +kernel) (pa_cons (pv 8) (pa_cons (pe_bltn (v := .ty "tuple") (by rfl) B.tuple (by decide +kernel) rfl) pa_nil))))) (pw_or (pt_cmpR op_ne (pe_callB call_len_seq (by rfl) B.len (by decide +kernel) (pa_cons (pv 8) pa_nil)) pe_int (nomark _)) (pw_or1 (pt_cmpR (op_neD hr.units) (pe_ix ix_tup (pv 8) pe_int (fun _ _ => rfl)) (pv 4) (nomark _))))))
    (pss_one (ps_ret pe_bl)) pss_nil)
  (pss_cons (ps_if (pt_not (pt_cmpR (op_eqOwn OWeb___eq__ (hr.mono (by decide)) tWeb___eq__.at_ tWeb___eq__.fn bWeb___eq__ pass0) (pe_ix ix_tup (pv 8) pe_int (fun _ _ => rfl)) (pe_make MK OWeb___init__ (hr.mono (by decide)) rfl WK.mgC bWeb___init__ .nil pass0 (pa_cons (pe_callB call_len_seq (by rfl) B.len (by decide +kernel) (pa_cons (pv 3) pa_nil)) (pa_cons (pv 5) pa_nil))) (nomark _)))
    (pss_one (ps_ret pe_bl)) pss_nil)
  (pss_cons (ps_if (PW.pt (pw_or (PW.pt (pw_and (pt_cmpR (op_eqD hr.units) (pv 5) (pe_lst pa_nil) (nomark _)) (pw_and1 (pt_cmpR op_notBl (pe_call Ois_close (hr.mono (by decide)) rfl mis_close kis_close bis_close .nil pass0 (pa_cons (pe_ix ix_tup (pv 8) pe_int (fun _ _ => rfl)) pa_nil)) pe_bl (nomark _))))) (pw_or1 (PW.pt (pw_and (pt_cmpR (op_neD hr.units) (pv 5) (pe_lst pa_nil) (nomark _)) (pw_and1 (pt_cmpR op_notBl (pe_call Ois_close (hr.mono (by decide)) rfl mis_close kis_close bis_close .nil pass0 (pa_cons (pe_ix ix_tup (pv 8) pe_int (fun _ _ => rfl)) pa_nil)) pe_bl (nomark _))))))))
    (pss_one (ps_ret pe_bl)) pss_nil)
  (pss_cons (ps_set (i := 9) sc_law_part_right.nd rfl (by first | exact Or.inl rfl | exact Or.inr rfl) (pe_callKK Opart_web hr (by rfl) mpart_web kpart_web kb_part_web_part_web pass0 (pk_cons (pe_callTy call_tuple_of (by rfl) B.tuple (by decide +kernel) (pa_cons (pv 3) pa_nil)) (pk_cons (pv 2) pk_nil))))
  (pss_cons (ps_expr (pe_bm PySem.F.plainAttrs_list PySem.F.slot_list_append PySem.F.type_list_append mt_append (pe_ix ix_tup (pv 9) pe_int (fun _ _ => rfl)) (pa_cons pe_non pa_nil)))
  (pss_one (ps_ret (pe_cmpR (op_eqD hr.units) (pe_ix ix_tup (pe_call Opart_web hr rfl mpart_web kpart_web bpart_web .nil pass0 (pa_cons (pv 2) (pa_cons (pv 3) pa_nil))) pe_int (fun _ _ => rfl)) (pv 4) (nomark _)))))))))))), ?_⟩
  have hN := ho.n1
  have hm := ho.m
  obtain ⟨hri, hlt, hpos, hlN⟩ := part_facts hL
  have hnd : L.Nodup := hri.imp fun z => Nat.ne_of_lt z
  refine ⟨Nat.zero_le _, fun nl nnl => ⟨Nat.zero_le _, fun ml nml => ⟨_, _, rfl, ?_⟩⟩⟩
  have nmn : ml ≠ nl := fun z => by rw [z, upd_same] at nml; cases nml
  have nml0 : H ml = none := by rw [upd_ne nmn] at nml; exact nml
  have hS0 : Same H (upd (upd H nl (.lst [])) ml (.lst [])) := same_upd (same_new nnl _) nml0
  have hn0 : (upd (upd H nl (.lst [])) ml (.lst [])) nl = some (.lst (iv [])) := by rw [upd_ne nmn.symm]; exact upd_same
  have hm0 : TiesAt (upd (upd H nl (.lst [])) ml (.lst [])) ml [] := TiesAt.nil
  obtain ⟨tas, ht, hP⟩ := id hT
  refine ⟨_, rfl, t, _, rfl, SqL.of (hS0 _ _ ht), ?_⟩
  refine for_it (walk_enum (K := K) (a := t) (xs := tas.map V.ref)) (fun i σ H' => ∃ (v6 v7 : Option V), σ = [some (.int (N : Int)), some (.ref t), some (.ref a), some (.ref p), some (.ref nl), some (.ref ml), v6, v7, none, none, none] ∧ Same H H' ∧ H' nl = some (.lst (iv ((insN ts L i).map Prod.fst))) ∧ TiesAt H' ml ((insN ts L i).map Prod.snd)) ⟨_, _, rfl, hS0, hn0, hm0⟩ ?_ ?_ ?_
  · rintro i σ H' hi ⟨v6, v7, rfl, hS', _⟩
    exact SqL.of (hS' _ _ ht)
  · rintro i x σ H1 H2 hi ⟨v6, v7, rfl, hS1, hn1, hm1⟩ ⟨T0, x1, x2, rfl, nT0, rfl, e1, e2⟩
    cases e1
    rw [List.length_map] at hi
    replace e2 : (tas.map V.ref)[i]? = some x2 := e2
    rw [List.getElem?_map, List.getElem?_eq_getElem hi] at e2
    cases e2
    obtain ⟨⟨u, v⟩, he, hpe⟩ := paired_get hP (List.getElem?_eq_getElem hi)
    have hil := (List.getElem?_eq_some_iff.mp he).1
    have hS2 : Same H (upd H1 T0 (.tup [.int (i : Int), .ref tas[i]])) := fun b o e => same_new nT0 _ _ _ (hS1 _ _ e)
    have hn2 := same_new nT0 (.tup [.int (i : Int), .ref tas[i]]) _ _ hn1
    have hm2 := hm1.same (same_new nT0 (.tup [.int (i : Int), .ref tas[i]]))
    have hT2 : (upd H1 T0 (.tup [.int (i : Int), .ref tas[i]])) T0 = some (.tup [.int (i : Int), .ref tas[i]]) := upd_same
    generalize upd H1 T0 (.tup [.int (i : Int), .ref tas[i]]) = H2 at hS2 hn2 hm2 hT2
    have hp2 : H2 tas[i] = some (.tup [.int (u : Int), .int (v : Int)]) := hS2 _ _ hpe
    have hat := insN_at (L := L) he
    refine ⟨T0, _, rfl, SqT.of hT2, rfl, _, _, rfl, _, _, rfl, rfl, ?_⟩
    refine ⟨_, rfl, _, _, _, .int (u : Int), rfl, rfl, SqT.of hp2, rfl, _, rfl, p, _, rfl, .inl (SqL.of (hS2 _ _ hp)), rfl, flat_iv _, _, rfl, ?_⟩
    dsimp only
    rw [inV_iv]
    by_cases cu : u ∈ L
    case neg =>
      refine iteNo cu (iteF ⟨_, _, rfl, hS2, ?_, ?_⟩)
      · rw [hat, if_neg (fun z => cu z.1)]; exact hn2
      · rw [hat, if_neg (fun z => cu z.1)]; exact hm2
    refine iteYes cu ⟨_, rfl, _, _, _, .int (v : Int), rfl, rfl, SqT.of hp2, rfl, _, rfl, p, _, rfl, .inl (SqL.of (hS2 _ _ hp)), rfl, flat_iv _, _, rfl, ?_⟩
    dsimp only
    rw [inV_iv]
    by_cases cv : v ∈ L
    case neg =>
      refine iteNo cv ⟨_, _, rfl, hS2, ?_, ?_⟩
      · rw [hat, if_neg (fun z => cv z.2)]; exact hn2
      · rw [hat, if_neg (fun z => cv z.2)]; exact hm2
    rw [if_pos ⟨cu, cv⟩] at hat
    refine iteYes cv ⟨_, rfl, .inl ⟨rfl, _, SqL.of hn2⟩, _, rfl, nl, _, _, rfl, rfl, hn2, ?_, ?_⟩
    · rw [List.length_map, List.length_map]
      exact Nat.lt_of_le_of_lt (insN_len ts L i) (Nat.lt_of_lt_of_le (by omega : i < 1000) (by decide))
    have hS3 : Same H (upd H2 nl (.lst (iv ((insN ts L i).map Prod.fst) ++ [.int (i : Int)]))) := same_upd hS2 nnl
    have hn3 : (upd H2 nl (.lst (iv ((insN ts L i).map Prod.fst) ++ [.int (i : Int)]))) nl = some (.lst (iv ((insN ts L (i + 1)).map Prod.fst))) := by
      rw [upd_same, hat, List.map_append, iv, iv, List.map_append]
      rfl
    have hm3 : TiesAt (upd H2 nl (.lst (iv ((insN ts L i).map Prod.fst) ++ [.int (i : Int)]))) ml ((insN ts L i).map Prod.snd) := by
      obtain ⟨bs, b1, b2⟩ := hm2
      refine ⟨bs, by rw [upd_ne nmn]; exact b1, paired_mono (fun q' e' hq => ?_) b2⟩
      have : q' ≠ nl := ne_of hq hn2 (by intro z; cases z)
      show upd _ _ _ q' = _
      rw [upd_ne this]
      exact hq
    generalize upd H2 nl (.lst (iv ((insN ts L i).map Prod.fst) ++ [.int (i : Int)])) = H3 at hS3 hn3 hm3
    have hk1 := hS3
    obtain ⟨ms, hms, hmsl⟩ := hm3.get
    refine ⟨_, rfl, .inl ⟨rfl, _, SqL.of hms⟩, ?_⟩
    refine ⟨_, rfl, _, rfl, by omega, by omega, fun D1 nD1 => ?_⟩
    refine lc_range (lo := 0) (n := N) (fun j H' => Same H3 H' ∧ H' D1 = some (.lst (iv ((List.range j).filter fun o => decide (o ∈ L))))) ⟨same_new nD1 _, upd_same⟩ ?_ ?_
    · rintro j H' hj ⟨hS', hD'⟩
      rw [Int.zero_add]
      refine ⟨rfl, _, rfl, _, rfl, p, _, rfl, .inl (SqL.of (hS' _ _ (hS3 _ _ hp))), rfl, flat_iv _, _, rfl, ?_⟩
      dsimp only
      rw [inV_iv, List.range_succ, List.filter_append, List.filter_cons, List.filter_nil]
      by_cases c : j ∈ L
      · rw [if_pos (decide_eq_true c)]
        refine iteYes c ⟨_, rfl, _, hD', ?_, same_upd hS' nD1, by rw [upd_same, iv_app]⟩
        rw [List.length_map]
        refine Nat.lt_of_le_of_lt (Nat.le_trans (List.length_filter_le _ _) ?_) (show 1000 < sizeLine by decide)
        rw [List.length_range]
        omega
      · rw [if_neg (fun z => c (of_decide_eq_true z)), List.append_nil]
        exact iteNo c ⟨hS', hD'⟩
    rintro H4 ⟨hS4, hD4⟩
    rw [range_part hri hlt] at hD4
    have hS04 := hS3.trans hS4
    refine ⟨.inl ⟨rfl, _, SqL.of hD4⟩, _, rfl, _, _, _, .int (u : Int), rfl, rfl, SqT.of (hS04 _ _ hpe), rfl, D1, iv L, _, L.idxOf u, _, rfl, rfl, SqL.of hD4, rfl, flat_iv _, by rw [iv, List.getElem?_map, idx_at cu]; rfl, by rw [eqV_int]; exact decide_eq_true rfl, fun m z hm hz => idx_not hnd cu m z hm hz, ?_⟩
    refine ⟨_, rfl, _, rfl, by omega, by omega, fun D2 nD2 => ?_⟩
    refine lc_range (lo := 0) (n := N) (fun j H' => Same H4 H' ∧ H' D2 = some (.lst (iv ((List.range j).filter fun o => decide (o ∈ L))))) ⟨same_new nD2 _, upd_same⟩ ?_ ?_
    · rintro j H' hj ⟨hS', hD'⟩
      rw [Int.zero_add]
      refine ⟨rfl, _, rfl, _, rfl, p, _, rfl, .inl (SqL.of (hS' _ _ (hS04 _ _ hp))), rfl, flat_iv _, _, rfl, ?_⟩
      dsimp only
      rw [inV_iv, List.range_succ, List.filter_append, List.filter_cons, List.filter_nil]
      by_cases c : j ∈ L
      · rw [if_pos (decide_eq_true c)]
        refine iteYes c ⟨_, rfl, _, hD', ?_, same_upd hS' nD2, by rw [upd_same, iv_app]⟩
        rw [List.length_map]
        refine Nat.lt_of_le_of_lt (Nat.le_trans (List.length_filter_le _ _) ?_) (show 1000 < sizeLine by decide)
        rw [List.length_range]
        omega
      · rw [if_neg (fun z => c (of_decide_eq_true z)), List.append_nil]
        exact iteNo c ⟨hS', hD'⟩
    rintro H5 ⟨hS5, hD5⟩
    rw [range_part hri hlt] at hD5
    have hS05 := hS04.trans hS5
    refine ⟨.inl ⟨rfl, _, SqL.of hD5⟩, _, rfl, _, _, _, .int (v : Int), rfl, rfl, SqT.of (hS05 _ _ hpe), rfl, D2, iv L, _, L.idxOf v, _, rfl, rfl, SqL.of hD5, rfl, flat_iv _, by rw [iv, List.getElem?_map, idx_at cv]; rfl, by rw [eqV_int]; exact decide_eq_true rfl, fun m z hm hz => idx_not hnd cv m z hm hz, ?_⟩
    have hS35 := hS4.trans hS5
    refine ⟨(by show 2 ≤ sizeLine; decide), fun tq ntq => ?_⟩
    obtain ⟨xs, k1, k2, k3⟩ := (hm3.same hS35).push (u := L.idxOf u) (v := L.idxOf v) ntq
    have hn5 := same_new ntq (.tup [.int (L.idxOf u : Int), .int (L.idxOf v : Int)]) _ _ (hS35 _ _ hn3)
    refine ⟨ml, _, _, rfl, rfl, k1, ?_, ?_⟩
    · rw [k2, List.length_map]
      exact Nat.lt_of_le_of_lt (insN_len ts L i) (Nat.lt_of_lt_of_le (by omega : i < 1000) (by decide))
    refine ⟨_, _, rfl, same_upd (fun b o e => same_new ntq _ _ _ (hS05 _ _ e)) nml0, by rw [upd_ne nmn.symm]; exact hn5, ?_⟩
    rw [hat, List.map_append]
    exact k3
  rintro σ H1 ⟨v6, v7, rfl, hS1, hn1, hm1⟩
  rw [List.length_map, paired_len hP] at hn1 hm1
  refine ⟨_, rfl, _, rfl, a, N, ts, p, L, rfl, hw.same hS1, ho, .inl (hS1 _ _ hp), hL, fun H2 tt b wl htt hwb hwl nwl hS2 => ?_⟩
  have hS02 := hS1.trans hS2
  refine ⟨_, rfl, _, _, _, _, true, rfl, .ty _, .base (.tup htt), kit_ty (by decide +kernel), _, rfl, iteF ?_⟩
  refine ⟨_, rfl, _, _, rfl, .inr (SqT.of htt), rfl, _, rfl, iteNS rfl ?_⟩
  refine ⟨_, rfl, _, _, _, .ref wl, rfl, rfl, SqT.of htt, rfl, _, rfl, _, _, dp_iv hwl, dp_iv (hS2 _ _ hn1), shaped_iz _, shaped_iz _, _, rfl, iteNb (eqv_same _) ?_⟩
  refine ⟨_, rfl, _, _, _, .ref b, rfl, rfl, SqT.of htt, rfl, ?_⟩
  refine ⟨_, rfl, p, iv L, rfl, .inl (SqL.of (hS02 _ _ hp)), _, rfl, ?_⟩
  intro x dx' nx ndx ndxx
  have hS3 : Same H2 (upd (upd H2 dx' (.own x)) x (.ins C dx' [])) := fun b o e => by
    rw [upd_ne (ne_of_none e nx), upd_ne (ne_of_none e ndx)]
    exact e
  have hoN := okWeb_new ho hpos hlN
  refine ⟨x, dx', L.length, ml, newT ts L, by rw [List.length_map]; rfl, hoN, (hm1.same hS2).same hS3, upd_same, fun H4 hk4 hw4 => ⟨rfl, ?_⟩⟩
  have hS24 : Same H2 H4 := fun b o e => hk4 _ _ (hS3 _ _ e) (ne_of_none e nx)
  have hwx := hw4.same Sub.same
  have hwb4 := hwb.same hS24
  obtain ⟨db, b1, b2, b3, hb1, _⟩ := id hwb4
  obtain ⟨dz', z1, z2, z3, hz1, _⟩ := id hwx
  refine ⟨b, x, _, _, _, _, rfl, rfl, hb1, hz1, b, x, _, _, rfl, hwb4, hwx, _, rfl, _, rfl, iteF ?_⟩
  have hS04 := hS02.trans hS24
  have htt4 := hS24 _ _ htt
  have hm4 := (hm1.same hS2).same hS24
  have hn4 := hS24 _ _ (hS2 _ _ hn1)
  have hcl := closed_new ho hL
  suffices fin : ∀ H5 : Hp, Same H4 H5 → _ by
    refine ⟨_, rfl, Nat.zero_le _, fun p0 np0 => ⟨_, _, dp_tz (hm4.same (same_new np0 _)), dp_iz (L := []) upd_same, shaped_tz _, shaped_iz _, _, rfl, ?_⟩⟩
    have hS5 := same_new np0 (.lst [])
    generalize upd H4 p0 (.lst []) = H5 at hS5
    rw [eqv_tz]
    by_cases c : newT ts L = []
    · refine iteYes c ⟨_, rfl, _, _, _, .ref b, rfl, rfl, SqT.of (hS5 _ _ htt4), rfl, b, L.length, newT ts L, rfl, hwb4.same hS5, hoN, fun H6 hS6 => ?_⟩
      rw [hcl, decide_eq_false (not_not_intro c)]
      refine ⟨_, _, rfl, rfl, _, rfl, iteF ?_⟩
      have hS46 := hS5.trans hS6
      refine ⟨_, rfl, Nat.zero_le _, fun p1 np1 => ⟨_, _, dp_tz ((hm4.same hS46).same (same_new np1 _)), dp_iz (L := []) upd_same, shaped_tz _, shaped_iz _, _, rfl, ?_⟩⟩
      rw [eqv_tz]
      have hS47 : Same H4 (upd H6 p1 (.lst [])) := fun b o e => same_new np1 _ _ _ (hS46 _ _ e)
      exact iteNot' c (iteF (fin _ hS47))
    · refine iteNo c (iteF ?_)
      refine ⟨_, rfl, Nat.zero_le _, fun p1 np1 => ⟨_, _, dp_tz ((hm4.same hS5).same (same_new np1 _)), dp_iz (L := []) upd_same, shaped_tz _, shaped_iz _, _, rfl, ?_⟩⟩
      rw [eqv_tz]
      have hS46 : Same H4 (upd H5 p1 (.lst [])) := fun b o e => same_new np1 _ _ _ (hS5 _ _ e)
      generalize upd H5 p1 (.lst []) = H6 at hS46
      refine iteNot c ⟨_, rfl, _, _, _, .ref b, rfl, rfl, SqT.of (hS46 _ _ htt4), rfl, b, L.length, newT ts L, rfl, hwb4.same hS46, hoN, fun H7 hS7 => ?_⟩
      rw [hcl, decide_eq_true c]
      have hS47 := hS46.trans hS7
      exact ⟨_, _, rfl, rfl, _, rfl, iteF (fin _ hS47)⟩
  intro H5 hS45
  have hS05 := hS04.trans hS45
  refine ⟨_, rfl, p, iv L, rfl, .inl ⟨SqL.of (hS05 _ _ hp), fun l nl' => ?_⟩⟩
  have hS6 := same_new nl' (.tup (iv L))
  have htl6 : (upd H5 l (.tup (iv L))) l = some (.tup (iv L)) := upd_same
  generalize upd H5 l (.tup (iv L)) = H6 at hS6 htl6
  have hS06 := hS05.trans hS6
  refine ⟨_, rfl, a, N, ts, l, L, rfl, hw.same hS06, ho, .inr htl6, hL, fun H7 t2 b2 wl2 htt2 hwb2 hwl2 nwl2 hS7 => ?_⟩
  refine ⟨_, rfl, _, _, _, .ref wl2, rfl, rfl, SqT.of htt2, rfl, .inl ⟨rfl, _, SqL.of hwl2⟩, wl2, _, _, rfl, rfl, hwl2, ?_, ?_⟩
  · rw [List.length_map, List.length_map]
    exact Nat.lt_of_le_of_lt (insN_len ts L ts.length) (Nat.lt_of_lt_of_le (by omega : ts.length < 1000) (by decide))
  have hS08 : Same H (upd H7 wl2 (.lst (iv (numT ts L) ++ [.non]))) := fun b o e => by
    have e6 := hS06 _ _ e
    rw [upd_ne (ne_of_none e6 nwl2)]
    exact hS7 _ _ e6
  have hn8 : (upd H7 wl2 (.lst (iv (numT ts L) ++ [.non]))) nl = some (.lst (iv (numT ts L))) := by
    have e6 := hS6 _ _ (hS45 _ _ hn4)
    rw [upd_ne (ne_of_none e6 nwl2)]
    exact hS7 _ _ e6
  generalize upd H7 wl2 (.lst (iv (numT ts L) ++ [.non])) = H8 at hS08 hn8
  refine ⟨_, rfl, _, rfl, a, N, ts, p, L, rfl, hw.same hS08, ho, .inl (hS08 _ _ hp), hL, fun H9 t3 b3 wl3 htt3 hwb3 hwl3 nwl3 hS9 => ?_⟩
  refine ⟨_, _, _, .ref wl3, rfl, rfl, SqT.of htt3, rfl, _, rfl, _, _, dp_iv hwl3, dp_iv (hS9 _ _ hn8), shaped_iz _, shaped_iz _, ?_⟩
  exact bl_is (eqv_same _) (q _ (hS08.trans hS9))
end
end My
namespace My
open PySem L2 PyProof.Rows
theorem hu70 {k : Nat} {A : Around} (h : Room k A) : A.units + 70 < cLine := by
  have := h.un
  omega
theorem eqv_lol (LL : List (List Nat)) : PyData.eqv (.list (LL.map dn)) (.list (LL.map dn)) = true := SeqAt.eqv_refl _ (SeqAt.canLay_of_shaped (shaped_lol LL))
theorem parts_swaps (ts : List (Nat × Nat)) (N : Nat) : partsL (Ed (swaps ts)) N = partsL (Ed ts) N := parts_back (fun a b => ed_swaps a b) N
theorem parts_first {E : Nat → Nat → Prop} {N : Nat} (h : 0 < N) : ∃ L, (partsL E N)[0]? = some L := by
  obtain ⟨m, hm, _⟩ := head_of (E := E) h
  have : clsL E N m ∈ partsL E N := List.mem_map.mpr ⟨m, hm, rfl⟩
  cases e : partsL E N with
  | nil => rw [e] at this; simp at this
  | cons L r => exact ⟨L, rfl⟩
theorem atI_mem {xs : List V} {i : Int} {v : V} (h : atI xs i = some v) : v ∈ xs := by
  unfold atI at h
  cases e : ixN xs.length i with
  | none => rw [e] at h; cases h
  | some j => rw [e] at h; exact List.mem_of_getElem? h
theorem dp_two {K : PySem.W.Frag} {H : Hp} {p : Addr} {b c : Bool} (h : H p = some (.lst [.bl b, .bl c])) : Dp K H (.ref p) (.list [.bool b, .bool c]) := .lst (SqL.of h) (.cons (.bl b) (.cons (.bl c) .nil))
theorem two_show (b c : Bool) : (PyData.list [.bool b, .bool c]).showable = true ∧ (PyData.list [.bool b, .bool c]).hasDict = false ∧ (PyData.list [.bool b, .bool c]).depth ≤ 60 ∧ (PyData.list [.bool b, .bool c]).shown.length ≤ sizeLine := by
  cases b <;> cases c <;> exact ⟨by rfl, by rfl, by decide, by decide⟩
section
variable {P : Program} {w : World} {K : PySem.W.Frag} {mg : Str → Option Value} {base : Heap} {C : Addr}
def GoodG (P : Program) (w : World) (K : PySem.W.Frag) (mg : Str → Option Value) (base : Heap) (x : Str) (st : Stmt) (ps : List Str) (k : Nat) (sp : Sp) : Prop := ∃ (f : Addr) (fd : FuncData), FnG P w K mg base k f fd ps sp ∧ mg x = some (.ref f) ∧ PySem.W.keepIn K (.ref f) = true ∧ Binds K fd ps [] ∧ Fun K x x st f fd
theorem Def.goodG {x : Str} {st : Stmt} {ps : List Str} {k : Nat} {sp : Sp} (D : Def K mg x st ps) (h : ∀ f fd, Fun K x x st f fd → FnG P w K mg base k f fd ps sp) : GoodG P w K mg base x st ps k sp := by
  obtain ⟨f, fd, F, m, b⟩ := D
  exact ⟨f, fd, h f fd F, m, F.kp, b, F⟩
def sp_law_right (_ : PySem.W.Frag) (C : Addr) : Sp := fun vs H Q _ => ∃ a, vs = [.ref a] ∧ PotAt H a ∧ ∀ H', Q (.bl true) H'
theorem ok_law_right (D : Def K mg "_law_right" s_law_right ["_law_pot_here"]) (B : Bs mg) (Glb : Glo mg) (WK : WebK K mg C)
    (h_law_made : Good P w K mg base "_law_made" s_law_made ["_law_pot_here"] 3 (sp_law_made K C))
    (hparts_of : Good P w K mg base "parts_of" sparts_of ["web"] 4 (spparts_of K C))
    (h_law_parts : Good P w K mg base "_law_parts" s_law_parts ["_law_places", "_law_ties_here"] 2 (sp_law_parts K C))
    (hplain_parts : Good P w K mg base "plain_parts" splain_parts ["web"] 7 (spplain_parts K C))
    (h_law_part_right : Good P w K mg base "_law_part_right" s_law_part_right ["_law_places", "_law_ties_here", "_law_web", "_law_part"] 8 (sp_law_part_right K C))
    (hback_web : Good P w K mg base "back_web" sback_web ["web"] 7 (spback_web K C))
    (his_close : Good P w K mg base "is_close" sis_close ["web"] 5 (spis_close K C))
    (his_single_ring : Good P w K mg base "is_single_ring" sis_single_ring ["web"] 6 (spis_single_ring K C))
    (hWeb___init__ : GoodI P w K mg base C "__init__" "Web.__init__" sWeb___init__ ["self", "places", "ties"] 5 (spWeb___init__ K C)) :
    GoodG P w K mg base "_law_right" s_law_right ["_law_pot_here"] 9 (sp_law_right K C) := by
  refine D.goodG fun f fd F => ?_
  obtain ⟨f_law_made, d_law_made, O_law_made, m_law_made, k_law_made, b_law_made, F_law_made⟩ := h_law_made
  obtain ⟨fparts_of, dparts_of, Oparts_of, mparts_of, kparts_of, bparts_of, Fparts_of⟩ := hparts_of
  obtain ⟨f_law_parts, d_law_parts, O_law_parts, m_law_parts, k_law_parts, b_law_parts, F_law_parts⟩ := h_law_parts
  obtain ⟨fplain_parts, dplain_parts, Oplain_parts, mplain_parts, kplain_parts, bplain_parts, Fplain_parts⟩ := hplain_parts
  obtain ⟨f_law_part_right, d_law_part_right, O_law_part_right, m_law_part_right, k_law_part_right, b_law_part_right, F_law_part_right⟩ := h_law_part_right
  obtain ⟨fback_web, dback_web, Oback_web, mback_web, kback_web, bback_web, Fback_web⟩ := hback_web
  obtain ⟨fis_close, dis_close, Ois_close, mis_close, kis_close, bis_close, Fis_close⟩ := his_close
  obtain ⟨fis_single_ring, dis_single_ring, Ois_single_ring, mis_single_ring, kis_single_ring, bis_single_ring, Fis_single_ring⟩ := his_single_ring
  obtain ⟨fWeb___init__, dWeb___init__, OWeb___init__, MK, bWeb___init__⟩ := hWeb___init__
  have kb_parts_of_web : KBinds K dparts_of ["web"] ["web"] g1 g1 := fun_kbinds Fparts_of g1 g1 rel1 (fun _ _ _ _ _ _ us ws hl => by
    obtain ⟨rfl, a0, rfl⟩ := g1_inv hl
    rfl)
  have kb_plain_parts_web : KBinds K dplain_parts ["web"] ["web"] g1 g1 := fun_kbinds Fplain_parts g1 g1 rel1 (fun _ _ _ _ _ _ us ws hl => by
    obtain ⟨rfl, a0, rfl⟩ := g1_inv hl
    rfl)
  refine FnG.ofBody F sc_law_right (fun vs H Q E h => ?_) (fun cdv A outer s H vs Q E hr quiet h => ?_)
  · obtain ⟨a, rfl, hp, q⟩ := h
    first | rfl | (rcases h with ⟨_, _, rfl, _⟩ | ⟨_, rfl, _⟩ <;> rfl)
  obtain ⟨a, rfl, hp, q⟩ := h
  have hur := hu70 hr
  refine ⟨_, (pss_cons (ps_asg (pe_call O_law_made (hr.mono (by decide)) rfl m_law_made k_law_made b_law_made .nil pass0 (pa_cons (pv 0) pa_nil)) (pg_tup rfl (pgs_cons (pg_name (i := 1) sc_law_right.nd rfl (by first | exact Or.inl rfl | exact Or.inr rfl)) (pgs_cons (pg_name (i := 2) sc_law_right.nd rfl (by first | exact Or.inl rfl | exact Or.inr rfl)) pgs_nil))))
  (pss_cons (ps_asg (pe_tup (pa_cons (pe_make MK OWeb___init__ (hr.mono (by decide)) rfl WK.mgC bWeb___init__ .nil pass0 (pa_cons (pv 1) (pa_cons (pv 2) pa_nil))) (pa_cons (pe_call O_law_parts (hr.mono (by decide)) rfl m_law_parts k_law_parts b_law_parts .nil pass0 (pa_cons (pv 1) (pa_cons (pv 2) pa_nil))) pa_nil))) (pg_tup rfl (pgs_cons (pg_name (i := 3) sc_law_right.nd rfl (by first | exact Or.inl rfl | exact Or.inr rfl)) (pgs_cons (pg_name (i := 4) sc_law_right.nd rfl (by first | exact Or.inl rfl | exact Or.inr rfl)) pgs_nil))))
  (pss_cons (ps_if (PW.pt (pw_or (pt_cmpR (op_neD hr.units) (pe_call Oparts_of (hr.mono (by decide)) rfl mparts_of kparts_of bparts_of .nil pass0 (pa_cons (pv 3) pa_nil)) (pv 4) (nomark _)) (pw_or (pt_cmpR (op_neD hr.units) (pe_callKK Oplain_parts (hr.mono (by decide)) (by rfl) mplain_parts kplain_parts kb_plain_parts_web pass0 (pk_cons (pv 3) pk_nil)) (pv 4) (nomark _)) (pw_or1 (pt_cmpR (op_neD hr.units) (pe_call Oparts_of (hr.mono (by decide)) rfl mparts_of kparts_of bparts_of .nil pass0 (pa_cons (pe_call Oback_web (hr.mono (by decide)) rfl mback_web kback_web bback_web .nil pass0 (pa_cons (pv 3) pa_nil)) pa_nil)) (pv 4) (nomark _))))))
    (pss_one (ps_ret pe_bl)) pss_nil)
  (pss_cons (ps_set (i := 5) sc_law_right.nd rfl (by first | exact Or.inl rfl | exact Or.inr rfl) (pe_callKK Oparts_of (hr.mono (by decide)) (by rfl) mparts_of kparts_of kb_parts_of_web pass0 (pk_cons (pv 3) pk_nil)))
  (pss_cons (ps_expr (pe_bm PySem.F.plainAttrs_list PySem.F.slot_list_append PySem.F.type_list_append mt_append (pe_ix ix_list (pv 5) pe_int (fun _ _ => rfl)) (pa_cons pe_non pa_nil)))
  (pss_cons (ps_if (pt_cmpR (op_neD hr.units) (pe_call Oparts_of (hr.mono (by decide)) rfl mparts_of kparts_of bparts_of .nil pass0 (pa_cons (pv 3) pa_nil)) (pv 4) (nomark _))
    (pss_one (ps_ret pe_bl)) pss_nil)
  (pss_cons (ps_set (i := 6) sc_law_right.nd rfl (by first | exact Or.inl rfl | exact Or.inr rfl) (pe_and (pe_cmpR (op_neD hr.units) (pv 2) (pe_lst pa_nil) (nomark _)) (pe_one (pe_cmpR op_eq (pe_callB call_len_seq (by rfl) B.len (by decide +kernel) (pa_cons (pv 4) pa_nil)) pe_int (nomark _)))))
  (pss_cons (ps_if (pt_cmpR op_ne (pe_callB (call_repr_data quiet hur) (by rfl) B.repr (by decide +kernel) (pa_cons (pe_lst (pa_cons (pe_call Ois_close (hr.mono (by decide)) rfl mis_close kis_close bis_close .nil pass0 (pa_cons (pv 3) pa_nil)) (pa_cons (pe_call Ois_single_ring (hr.mono (by decide)) rfl mis_single_ring kis_single_ring bis_single_ring .nil pass0 (pa_cons (pv 3) pa_nil)) pa_nil))) pa_nil)) (pe_callB (call_repr_data quiet hur) (by rfl) B.repr (by decide +kernel) (pa_cons (pe_lst (pa_cons (pv 6) (pa_cons (pe_and (pv 6) (pe_one (pe_cmpR op_eq (pe_callB call_len_seq (by rfl) B.len (by decide +kernel) (pa_cons (pv 2) pa_nil)) (pv 1) (nomark _)))) pa_nil))) pa_nil)) (nomark _))
    (pss_one (ps_ret pe_bl)) pss_nil)
  (pss_one (ps_ret (pe_callB (cr_all rfl) (by rfl) B.all (by decide +kernel) (pa_cons (pe_lc (own := [("_law_part", 7)]) (g := gName 7) (by rfl) sc_law_right.nd (pi_list (pv 4)) (blkOk_by (own := [("_law_part", 7)]) (N := ["_law_pot_here", "_law_places", "_law_ties_here", "_law_web", "_law_due", "_law_told", "_law_is_one", "_law_part"]) (sc := defScope s_law_right) (by decide +kernel)) (fun _ _ _ _ _ => (pg_name (i := 7) sc_law_right.nd rfl (by first | exact Or.inl rfl | exact Or.inr rfl))) (fun _ _ _ _ _ => pts_nil) (fun _ _ _ _ _ => (pe_call O_law_part_right hr rfl m_law_part_right k_law_part_right b_law_part_right .nil pass0 (pa_cons (pv 1) (pa_cons (pv 2) (pa_cons (pv 3) (pa_cons (pv 7) pa_nil))))))) pa_nil)))))))))))), ?_⟩
  refine ⟨_, rfl, a, rfl, hp, fun t l N ts H1 hk1 hp1 ht hT ho hla => ?_⟩
  refine ⟨t, _, rfl, SqT.of ht, rfl, _, _, rfl, _, _, rfl, rfl, ?_⟩
  have hN := ho.n1
  have hm := ho.m
  refine ⟨_, rfl, _, rfl, fun x dx nx ndx ndxx => ?_⟩
  have hS01 : Same H1 (upd (upd H1 dx (.own x)) x (.ins C dx [])) := fun b o e => by
    rw [upd_ne (ne_of_none e nx), upd_ne (ne_of_none e ndx)]
    exact e
  refine ⟨x, dx, N, l, ts, rfl, ho, hT.same hS01, upd_same, fun H2 hk2 hw2 => ⟨rfl, ?_⟩⟩
  have hS2 : Same H1 H2 := fun b o e => hk2 _ _ (hS01 _ _ e) (ne_of_none e nx)
  have hw2 := hw2.same Sub.same
  have hT2 := hT.same hS2
  refine ⟨_, rfl, _, rfl, N, l, ts, rfl, hT2, ho, fun H3 dl ndl hS3 hd3 => ⟨(by show 2 ≤ sizeLine; decide), fun tp ntp => ?_⟩⟩
  have hS4 := same_new ntp (.tup [.ref x, .ref dl])
  have htp4 : upd H3 tp (.tup [.ref x, .ref dl]) tp = some (.tup [.ref x, .ref dl]) := upd_same
  generalize upd H3 tp (.tup [.ref x, .ref dl]) = H4 at hS4 htp4
  have hw4 := (hw2.same hS3).same hS4
  have hT4 := (hT2.same hS3).same hS4
  have hd4 := hd3.same hS4
  refine ⟨tp, _, rfl, SqT.of htp4, rfl, _, _, rfl, _, _, rfl, rfl, ?_⟩
  refine ⟨_, rfl, x, N, ts, rfl, hw4, ho, fun H5 p5 np5 hS5 hL5 _ => ⟨_, rfl, _, _, dp_lol hL5, dp_lol (hd4.same hS5), shaped_lol _, shaped_lol _, _, rfl, iteNb (eqv_lol _) ?_⟩⟩
  refine ⟨_, rfl, x, N, ts, rfl, hw4.same hS5, ho, fun H6 p6 np6 hS6 hL6 => ⟨_, rfl, _, _, dp_lol hL6, dp_lol (hd4.same (hS5.trans hS6)), shaped_lol _, shaped_lol _, _, rfl, iteNb (eqv_lol _) ?_⟩⟩
  have hS46 := hS5.trans hS6
  refine ⟨_, rfl, x, N, ts, rfl, hw4.same hS46, ho, fun H7 b7 nb7 hS7 hb7 => ⟨b7, N, swaps ts, rfl, hb7, okWeb_swaps ho, fun H8 p8 np8 hS8 hL8 _ => ⟨_, rfl, _, _, dp_lol (parts_swaps ts N ▸ hL8), dp_lol (hd4.same (hS46.trans (hS7.trans hS8))), shaped_lol _, shaped_lol _, _, rfl, iteNb (eqv_lol _) ?_⟩⟩⟩
  have hS48 := hS46.trans (hS7.trans hS8)
  refine ⟨_, rfl, x, N, ts, rfl, hw4.same hS48, ho, fun H9 p9 np9 hS9 hL9 hni9 => ?_⟩
  obtain ⟨L0, hL0⟩ := parts_first (E := Ed ts) ho.n0
  obtain ⟨xs9, y, e1, e2, e3⟩ := hL9.get hL0
  have ny8 : H8 y = none := hni9 _ _ e1 (atI_mem e2)
  refine ⟨_, rfl, _, _, _, .ref y, rfl, rfl, SqL.of e1, e2, .inl ⟨rfl, _, SqL.of e3⟩, y, _, _, rfl, rfl, e3, ?_, ?_⟩
  · have hmem := List.mem_of_getElem? hL0
    obtain ⟨_, _, _, hll⟩ := part_facts hmem
    rw [List.length_map]
    exact Nat.lt_of_le_of_lt hll (Nat.lt_of_le_of_lt hN (by decide))
  have hS410 : Same H4 (upd H9 y (.lst (iv L0 ++ [.non]))) := fun b o e => by
    have e8 := hS48 _ _ e
    rw [upd_ne (ne_of_none e8 ny8)]
    exact hS9 _ _ e8
  generalize upd H9 y (.lst (iv L0 ++ [.non])) = H10 at hS410
  refine ⟨_, rfl, x, N, ts, rfl, hw4.same hS410, ho, fun H11 p11 np11 hS11 hL11 _ => ⟨_, rfl, _, _, dp_lol hL11, dp_lol (hd4.same (hS410.trans hS11)), shaped_lol _, shaped_lol _, _, rfl, iteNb (eqv_lol _) ?_⟩⟩
  have hS411 := hS410.trans hS11
  suffices fin : ∀ H12 : Hp, Same H4 H12 → _ by
    refine ⟨_, rfl, Nat.zero_le _, fun p0 np0 => ⟨_, _, dp_tz ((hT4.same hS411).same (same_new np0 _)), dp_iz (L := []) upd_same, shaped_tz _, shaped_iz _, _, rfl, ?_⟩⟩
    have hS412 : Same H4 (upd H11 p0 (.lst [])) := fun b o e => same_new np0 _ _ _ (hS411 _ _ e)
    generalize upd H11 p0 (.lst []) = H12 at hS412
    rw [eqv_tz]
    by_cases c : ts = []
    case neg =>
      obtain ⟨as, g1, g2⟩ := hd4.same hS412
      refine iteNot c ⟨_, rfl, dl, _, rfl, .inl (SqL.of g1), rfl, ?_⟩
      have ec : decide (V.int ((as.map V.ref).length : Int) = V.int 1) = closedB N ts := by
        unfold closedB
        rw [decide_eq_true (List.length_pos_iff.mpr c), Bool.true_and, List.length_map, paired_len g2]
        exact decide_eq_decide.mpr ⟨fun z => by have := int_eq.mp z; omega, fun z => by rw [z]; rfl⟩
      rw [ec]
      exact fin H12 hS412
    case pos =>
      refine iteNot' c ?_
      have ec : closedB N ts = false := by
        unfold closedB
        rw [c]
        rfl
      have := fin H12 hS412
      rw [ec] at this
      exact this
  intro H12 hS12
  refine ⟨_, rfl, x, N, ts, rfl, hw4.same hS12, ho, fun H13 hS13 => ⟨_, rfl, x, N, ts, rfl, hw4.same (hS12.trans hS13), ho, fun H14 hS14 => ⟨(by show 2 ≤ sizeLine; decide), fun r1 nr1 => ?_⟩⟩⟩
  have hS414 := (hS12.trans hS13).trans hS14
  have s1 := two_show (closedB N ts) (closedB N ts && decide (ts.length = N))
  refine ⟨r1, _, rfl, dp_two upd_same, s1.1, s1.2.1, s1.2.2.1, s1.2.2.2, ?_⟩
  have hS415 : Same H4 (upd H14 r1 (.lst [.bl (closedB N ts), .bl (closedB N ts && decide (ts.length = N))])) := fun b o e => same_new nr1 _ _ _ (hS414 _ _ e)
  generalize upd H14 r1 (.lst [.bl (closedB N ts), .bl (closedB N ts && decide (ts.length = N))]) = H15 at hS415
  clear s1
  obtain ⟨xsl, hxs, hxl⟩ := (hT4.same hS415).get
  have ed : decide (V.int (xsl.length : Int) = V.int (N : Int)) = (true && decide (ts.length = N)) := by
    rw [Bool.true_and, hxl]
    exact decide_eq_decide.mpr ⟨fun z => by have := int_eq.mp z; omega, fun z => by rw [z]⟩
  refine ⟨_, rfl, _, rfl, _, rfl, ?_⟩
  generalize closedB N ts = cb
  cases cb
  case' false => refine iteF ⟨(by show 2 ≤ sizeLine; decide), fun r2 nr2 => ?_⟩
  case' true =>
    refine iteT ⟨_, rfl, l, _, rfl, .inl (SqL.of hxs), _, rfl, rfl, ?_⟩
    rw [ed]
    refine ⟨(by show 2 ≤ sizeLine; decide), fun r2 nr2 => ?_⟩
  case' false => have s2 := two_show false (false && decide (ts.length = N))
  case' true => have s2 := two_show true (true && decide (ts.length = N))
  all_goals
    refine ⟨r2, _, rfl, dp_two upd_same, s2.1, s2.2.1, s2.2.2.1, s2.2.2.2, rfl, _, rfl, iteNot' rfl ?_⟩
  all_goals
    have hS16 := fun (o : HO) (b : Addr) (u : HO) (e : H4 b = some u) => same_new nr2 o _ _ (hS415 _ _ e)
    obtain ⟨as, g1, g2⟩ := id hd4
    refine ⟨_, rfl, dl, rfl, ⟨_, SqL.of (hS16 _ _ _ g1)⟩, fun D nD => ?_⟩
    refine lc_list (K := K) (a := dl) (xs := as.map V.ref) (fun i H' => Same H4 H' ∧ H' D = some (.lst ((List.replicate i true).map V.bl))) ⟨fun b o e => same_new nD _ _ _ (hS16 _ _ _ e), upd_same⟩ (fun i H' _ ⟨hS', _⟩ => SqL.of (hS' _ _ g1)) ?_ ?_
    · rintro i v H17 hv ⟨hS17, hD17⟩
      rw [List.getElem?_map] at hv
      obtain ⟨y2, hy2, rfl⟩ : ∃ y, as[i]? = some y ∧ v = V.ref y := by
        cases e : as[i]? with
        | none => rw [e] at hv; cases hv
        | some y => rw [e] at hv; exact ⟨y, rfl, (Option.some.inj hv).symm⟩
      obtain ⟨L, hL, hy3⟩ := paired_get g2 hy2
      have hLm := List.mem_of_getElem? hL
      have hlt := (List.getElem?_eq_some_iff.mp hL).1
      have hpl := parts_len (E := Ed ts) (N := N)
      refine ⟨rfl, _, rfl, _, rfl, _, rfl, _, rfl, N, l, ts, x, y2, L, rfl, hT4.same hS17, ho, hw4.same hS17, hS17 _ _ hy3, hLm, fun H18 hS18 => ⟨_, hS18 _ _ hD17, ?_, ?_, ?_⟩⟩
      · rw [List.length_map, List.length_replicate]
        exact Nat.lt_of_lt_of_le (by omega : i < 1000) (by decide)
      · intro b o e
        rw [upd_ne (fun z => by
          rw [z] at e
          cases (hS16 _ _ _ e).symm.trans nD)]
        exact hS18 _ _ (hS17 _ _ e)
      · rw [upd_same, List.replicate_succ', List.map_append]
        rfl
    · rintro H17 ⟨hS17, hD17⟩
      refine ⟨D, _, rfl, SqL.of hD17, ?_⟩
      refine bl_is ?_ (q _)
      rw [List.all_eq_true]
      intro b hb
      exact (List.mem_replicate.mp hb).2
def splaw (K : PySem.W.Frag) (_ : Addr) : Sp := fun vs H Q _ => ∃ a, ∃ ns : List Int, vs = [.ref a] ∧ SqL K H a (ns.map V.int) ∧ ns.length ≤ 63 ∧ ∀ H', Q (.bl true) H'
theorem oklaw (D : Def K mg "law" slaw ["_law_script"]) (B : Bs mg) (Glb : Glo mg) (WK : WebK K mg C)
    (h_law_right : GoodG P w K mg base "_law_right" s_law_right ["_law_pot_here"] 9 (sp_law_right K C))
    (h_law_pot : Good P w K mg base "_law_pot" s_law_pot ["_law_script", "_law_k"] 1 (sp_law_pot K C)) :
    GoodG P w K mg base "law" slaw ["_law_script"] 10 (splaw K C) := by
  refine D.goodG fun f fd F => ?_
  obtain ⟨f_law_right, d_law_right, O_law_right, m_law_right, k_law_right, b_law_right, F_law_right⟩ := h_law_right
  obtain ⟨f_law_pot, d_law_pot, O_law_pot, m_law_pot, k_law_pot, b_law_pot, F_law_pot⟩ := h_law_pot
  refine FnG.ofBody F sclaw (fun vs H Q E h => ?_) (fun cdv A outer s H vs Q E hr quiet h => ?_)
  · obtain ⟨sa, ns, rfl, hs, h63, q⟩ := h
    first | rfl | (rcases h with ⟨_, _, rfl, _⟩ | ⟨_, rfl, _⟩ <;> rfl)
  obtain ⟨sa, ns, rfl, hs, h63, q⟩ := h
  have hur := hu70 hr
  refine ⟨_, (pss_one (ps_ret (pe_callG O_law_right hr quiet rfl m_law_right k_law_right b_law_right (pa_cons (pe_call O_law_pot (hr.mono (by decide)) rfl m_law_pot k_law_pot b_law_pot .nil pass0 (pa_cons (pv 0) (pa_cons pe_int pa_nil))) pa_nil)))), ?_⟩
  exact ⟨_, rfl, sa, ns, rfl, hs, fun p H1 hp hS np => ⟨p, rfl, hp, q⟩⟩
end
end My
namespace My
open PySem L2 PyProof.Rows
/-! ### the end -/
theorem kit_no {K : PySem.W.Frag} {C : Addr} (h1 : PySem.W.isClsIn K C = true) (h2 : PySem.W.typeIn K (.ref C) = some (.type "type")) (h3 : PySem.W.subIn K (.type "dict") (.ref C) = some false) : PySem.W.kitOne K (.type "dict") (.ref C) = some false := by
  unfold PySem.W.kitOne
  rw [if_neg (by simp)]
  show (if ((PySem.W.clsIn K C).isSome && PySem.W.typeIn K (.ref C) == some (.type "type")) = true then PySem.W.subIn K (.type "dict") (.ref C) else none) = some false
  have h1' : (PySem.W.clsIn K C).isSome = true := h1
  rw [h1', h2, if_pos (by simp)]
  exact h3
theorem fd_is {K : PySem.W.Frag} {x : Str} {st : Stmt} {f : Addr} {fd fe : FuncData} {oc : Value} {od : Option Addr} {sl : Array (Option Value)} (F : Fun K x x st f fd) (l : K.lookup f = some ⟨oc, od, .func fe, sl⟩) : fd = fe := by
  obtain ⟨oc2, od2, kV, doc, pm, an, cdv, ct, osl, e, lk, c⟩ := F.ex
  rw [lk] at l
  have := Option.some.inj l
  injection this with _ _ h3 _
  injection h3
set_option maxHeartbeats 4000000 in
theorem all_mk {l : PySem.W.OpenLaw} {w : World} {K : PySem.W.Frag} {h : Heap} {mg : Str → Option Value} {fa C : Addr} (X : K.In h) (G : h.Ns mainGlobals mg) (hfa : mg "law" = some (.ref fa))
    {fM0 : Addr} {odM0 anM0 : Option Addr} {slM0 : Array (Option Value)} {ocM0 kVM0 dcM0 pmM0 cdM0 ctM0 : Value} {fM1 : Addr} {odM1 anM1 : Option Addr} {slM1 : Array (Option Value)} {ocM1 kVM1 dcM1 pmM1 cdM1 ctM1 : Value} {fM2 : Addr} {odM2 anM2 : Option Addr} {slM2 : Array (Option Value)} {ocM2 kVM2 dcM2 pmM2 cdM2 ctM2 : Value} {pM2 : Addr} {rsM2 : List Value} {fM3 : Addr} {odM3 anM3 : Option Addr} {slM3 : Array (Option Value)} {ocM3 kVM3 dcM3 pmM3 cdM3 ctM3 : Value} {pM3 : Addr} {rsM3 : List Value} {fM4 : Addr} {odM4 anM4 : Option Addr} {slM4 : Array (Option Value)} {ocM4 kVM4 dcM4 pmM4 cdM4 ctM4 : Value} {f0 : Addr} {od0 an0 : Option Addr} {sl0 : Array (Option Value)} {oc0 kV0 dc0 pm0 cd0 ct0 : Value} {f1 : Addr} {od1 an1 : Option Addr} {sl1 : Array (Option Value)} {oc1 kV1 dc1 pm1 cd1 ct1 : Value} {f2 : Addr} {od2 an2 : Option Addr} {sl2 : Array (Option Value)} {oc2 kV2 dc2 pm2 cd2 ct2 : Value} {f3 : Addr} {od3 an3 : Option Addr} {sl3 : Array (Option Value)} {oc3 kV3 dc3 pm3 cd3 ct3 : Value} {f4 : Addr} {od4 an4 : Option Addr} {sl4 : Array (Option Value)} {oc4 kV4 dc4 pm4 cd4 ct4 : Value} {f5 : Addr} {od5 an5 : Option Addr} {sl5 : Array (Option Value)} {oc5 kV5 dc5 pm5 cd5 ct5 : Value} {f6 : Addr} {od6 an6 : Option Addr} {sl6 : Array (Option Value)} {oc6 kV6 dc6 pm6 cd6 ct6 : Value} {f7 : Addr} {od7 an7 : Option Addr} {sl7 : Array (Option Value)} {oc7 kV7 dc7 pm7 cd7 ct7 : Value} {f8 : Addr} {od8 an8 : Option Addr} {sl8 : Array (Option Value)} {oc8 kV8 dc8 pm8 cd8 ct8 : Value} {f9 : Addr} {od9 an9 : Option Addr} {sl9 : Array (Option Value)} {oc9 kV9 dc9 pm9 cd9 ct9 : Value} {f10 : Addr} {od10 an10 : Option Addr} {sl10 : Array (Option Value)} {oc10 kV10 dc10 pm10 cd10 ct10 : Value} {f11 : Addr} {od11 an11 : Option Addr} {sl11 : Array (Option Value)} {oc11 kV11 dc11 pm11 cd11 ct11 : Value} {f12 : Addr} {od12 an12 : Option Addr} {sl12 : Array (Option Value)} {oc12 kV12 dc12 pm12 cd12 ct12 : Value} {f13 : Addr} {od13 an13 : Option Addr} {sl13 : Array (Option Value)} {oc13 kV13 dc13 pm13 cd13 ct13 : Value} {f14 : Addr} {od14 an14 : Option Addr} {sl14 : Array (Option Value)} {oc14 kV14 dc14 pm14 cd14 ct14 : Value} {f15 : Addr} {od15 an15 : Option Addr} {sl15 : Array (Option Value)} {oc15 kV15 dc15 pm15 cd15 ct15 : Value} {f16 : Addr} {od16 an16 : Option Addr} {sl16 : Array (Option Value)} {oc16 kV16 dc16 pm16 cd16 ct16 : Value} {f17 : Addr} {od17 an17 : Option Addr} {sl17 : Array (Option Value)} {oc17 kV17 dc17 pm17 cd17 ct17 : Value} {f18 : Addr} {od18 an18 : Option Addr} {sl18 : Array (Option Value)} {oc18 kV18 dc18 pm18 cd18 ct18 : Value} {f19 : Addr} {od19 an19 : Option Addr} {sl19 : Array (Option Value)} {oc19 kV19 dc19 pm19 cd19 ct19 : Value} {f20 : Addr} {od20 an20 : Option Addr} {sl20 : Array (Option Value)} {oc20 kV20 dc20 pm20 cd20 ct20 : Value} {f21 : Addr} {od21 an21 : Option Addr} {sl21 : Array (Option Value)} {oc21 kV21 dc21 pm21 cd21 ct21 : Value} {f22 : Addr} {od22 an22 : Option Addr} {sl22 : Array (Option Value)} {oc22 kV22 dc22 pm22 cd22 ct22 : Value} {f23 : Addr} {od23 an23 : Option Addr} {sl23 : Array (Option Value)} {oc23 kV23 dc23 pm23 cd23 ct23 : Value} {f24 : Addr} {od24 an24 : Option Addr} {sl24 : Array (Option Value)} {oc24 kV24 dc24 pm24 cd24 ct24 : Value} {f25 : Addr} {od25 an25 : Option Addr} {sl25 : Array (Option Value)} {oc25 kV25 dc25 pm25 cd25 ct25 : Value} {f26 : Addr} {od26 an26 : Option Addr} {sl26 : Array (Option Value)} {oc26 kV26 dc26 pm26 cd26 ct26 : Value} {f27 : Addr} {od27 an27 : Option Addr} {sl27 : Array (Option Value)} {oc27 kV27 dc27 pm27 cd27 ct27 : Value} {f28 : Addr} {od28 an28 : Option Addr} {sl28 : Array (Option Value)} {oc28 kV28 dc28 pm28 cd28 ct28 : Value} {f29 : Addr} {od29 an29 : Option Addr} {sl29 : Array (Option Value)} {oc29 kV29 dc29 pm29 cd29 ct29 : Value} {f30 : Addr} {od30 an30 : Option Addr} {sl30 : Array (Option Value)} {oc30 kV30 dc30 pm30 cd30 ct30 : Value} {f31 : Addr} {od31 an31 : Option Addr} {sl31 : Array (Option Value)} {oc31 kV31 dc31 pm31 cd31 ct31 : Value} {t0 : Tok} {t1 : Tok}
    (aC : PySem.W.nsIn K mainGlobals "Web" = some (some (.ref C)))
    (aM0 : PySem.W.findIn K (.ref C) "__init__" = some (some (.ref fM0))) (iM0 : PySem.W.isFn K (.ref fM0) = true) (lM0 : K.lookup fM0 = some ⟨ocM0, odM0, .func (PySem.W.fnOf "__init__" "Web.__init__" (defArgs sWeb___init__) (defBody sWeb___init__) (defScope sWeb___init__) .none kVM0 dcM0 pmM0 anM0 cdM0 ctM0), slM0⟩) (cM0 : PySem.W.codeIn K cdM0 "Web.__init__" = true) (kM0 : PySem.W.keepIn K (.ref fM0) = true)
    (aM1 : PySem.W.findIn K (.ref C) "__eq__" = some (some (.ref fM1))) (iM1 : PySem.W.isFn K (.ref fM1) = true) (lM1 : K.lookup fM1 = some ⟨ocM1, odM1, .func (PySem.W.fnOf "__eq__" "Web.__eq__" (defArgs sWeb___eq__) (defBody sWeb___eq__) (defScope sWeb___eq__) .none kVM1 dcM1 pmM1 anM1 cdM1 ctM1), slM1⟩) (cM1 : PySem.W.codeIn K cdM1 "Web.__eq__" = true) (kM1 : PySem.W.keepIn K (.ref fM1) = true)
    (aM2 : PySem.W.findIn K (.ref C) "places" = some (some (.ref pM2))) (gM2 : PySem.W.specialIn K (.ref pM2) "__get__" = some (some (.builtin "property.__get__"))) (tM2 : PySem.W.takesIn K (.ref pM2) = some true) (rM2 : PySem.W.recIn K pM2 "property" = some (.ref fM2 :: rsM2)) (lM2 : K.lookup fM2 = some ⟨ocM2, odM2, .func (PySem.W.fnOf "places" "Web.places" (defArgs sWeb_places) (defBody sWeb_places) (defScope sWeb_places) .none kVM2 dcM2 pmM2 anM2 cdM2 ctM2), slM2⟩) (cM2 : PySem.W.codeIn K cdM2 "Web.places" = true) (kM2 : PySem.W.keepIn K (.ref fM2) = true)
    (aM3 : PySem.W.findIn K (.ref C) "many" = some (some (.ref pM3))) (gM3 : PySem.W.specialIn K (.ref pM3) "__get__" = some (some (.builtin "property.__get__"))) (tM3 : PySem.W.takesIn K (.ref pM3) = some true) (rM3 : PySem.W.recIn K pM3 "property" = some (.ref fM3 :: rsM3)) (lM3 : K.lookup fM3 = some ⟨ocM3, odM3, .func (PySem.W.fnOf "many" "Web.many" (defArgs sWeb_many) (defBody sWeb_many) (defScope sWeb_many) .none kVM3 dcM3 pmM3 anM3 cdM3 ctM3), slM3⟩) (cM3 : PySem.W.codeIn K cdM3 "Web.many" = true) (kM3 : PySem.W.keepIn K (.ref fM3) = true)
    (aM4 : PySem.W.findIn K (.ref C) "ties" = some (some (.ref fM4))) (iM4 : PySem.W.isFn K (.ref fM4) = true) (lM4 : K.lookup fM4 = some ⟨ocM4, odM4, .func (PySem.W.fnOf "ties" "Web.ties" (defArgs sWeb_ties) (defBody sWeb_ties) (defScope sWeb_ties) .none kVM4 dcM4 pmM4 anM4 cdM4 ctM4), slM4⟩) (cM4 : PySem.W.codeIn K cdM4 "Web.ties" = true) (kM4 : PySem.W.keepIn K (.ref fM4) = true)
    (a0 : PySem.W.nsIn K mainGlobals "is_integer" = some (some (.ref f0))) (l0 : K.lookup f0 = some ⟨oc0, od0, .func (PySem.W.fnOf "is_integer" "is_integer" (defArgs sis_integer) (defBody sis_integer) (defScope sis_integer) .none kV0 dc0 pm0 an0 cd0 ct0), sl0⟩) (c0 : PySem.W.codeIn K cd0 "is_integer" = true) (k0 : PySem.W.keepIn K (.ref f0) = true)
    (a1 : PySem.W.nsIn K mainGlobals "is_count" = some (some (.ref f1))) (l1 : K.lookup f1 = some ⟨oc1, od1, .func (PySem.W.fnOf "is_count" "is_count" (defArgs sis_count) (defBody sis_count) (defScope sis_count) .none kV1 dc1 pm1 an1 cd1 ct1), sl1⟩) (c1 : PySem.W.codeIn K cd1 "is_count" = true) (k1 : PySem.W.keepIn K (.ref f1) = true)
    (a2 : PySem.W.nsIn K mainGlobals "is_between" = some (some (.ref f2))) (l2 : K.lookup f2 = some ⟨oc2, od2, .func (PySem.W.fnOf "is_between" "is_between" (defArgs sis_between) (defBody sis_between) (defScope sis_between) .none kV2 dc2 pm2 an2 cd2 ct2), sl2⟩) (c2 : PySem.W.codeIn K cd2 "is_between" = true) (k2 : PySem.W.keepIn K (.ref f2) = true)
    (a3 : PySem.W.nsIn K mainGlobals "is_below" = some (some (.ref f3))) (l3 : K.lookup f3 = some ⟨oc3, od3, .func (PySem.W.fnOf "is_below" "is_below" (defArgs sis_below) (defBody sis_below) (defScope sis_below) .none kV3 dc3 pm3 an3 cd3 ct3), sl3⟩) (c3 : PySem.W.codeIn K cd3 "is_below" = true) (k3 : PySem.W.keepIn K (.ref f3) = true)
    (a4 : PySem.W.nsIn K mainGlobals "is_listed" = some (some (.ref f4))) (l4 : K.lookup f4 = some ⟨oc4, od4, .func (PySem.W.fnOf "is_listed" "is_listed" (defArgs sis_listed) (defBody sis_listed) (defScope sis_listed) .none kV4 dc4 pm4 an4 cd4 ct4), sl4⟩) (c4 : PySem.W.codeIn K cd4 "is_listed" = true) (k4 : PySem.W.keepIn K (.ref f4) = true)
    (a5 : PySem.W.nsIn K mainGlobals "parts_in_turn" = some (some (.ref f5))) (l5 : K.lookup f5 = some ⟨oc5, od5, .func (PySem.W.fnOf "parts_in_turn" "parts_in_turn" (defArgs sparts_in_turn) (defBody sparts_in_turn) (defScope sparts_in_turn) .none kV5 dc5 pm5 an5 cd5 ct5), sl5⟩) (c5 : PySem.W.codeIn K cd5 "parts_in_turn" = true) (k5 : PySem.W.keepIn K (.ref f5) = true)
    (a6 : PySem.W.nsIn K mainGlobals "_left_from" = some (some (.ref f6))) (l6 : K.lookup f6 = some ⟨oc6, od6, .func (PySem.W.fnOf "_left_from" "_left_from" (defArgs s_left_from) (defBody s_left_from) (defScope s_left_from) .none kV6 dc6 pm6 an6 cd6 ct6), sl6⟩) (c6 : PySem.W.codeIn K cd6 "_left_from" = true) (k6 : PySem.W.keepIn K (.ref f6) = true)
    (a7 : PySem.W.nsIn K mainGlobals "are_ties" = some (some (.ref f7))) (l7 : K.lookup f7 = some ⟨oc7, od7, .func (PySem.W.fnOf "are_ties" "are_ties" (defArgs sare_ties) (defBody sare_ties) (defScope sare_ties) .none kV7 dc7 pm7 an7 cd7 ct7), sl7⟩) (c7 : PySem.W.codeIn K cd7 "are_ties" = true) (k7 : PySem.W.keepIn K (.ref f7) = true)
    (a8 : PySem.W.nsIn K mainGlobals "need_web" = some (some (.ref f8))) (l8 : K.lookup f8 = some ⟨oc8, od8, .func (PySem.W.fnOf "need_web" "need_web" (defArgs sneed_web) (defBody sneed_web) (defScope sneed_web) .none kV8 dc8 pm8 an8 cd8 ct8), sl8⟩) (c8 : PySem.W.codeIn K cd8 "need_web" = true) (k8 : PySem.W.keepIn K (.ref f8) = true)
    (a9 : PySem.W.nsIn K mainGlobals "need_place" = some (some (.ref f9))) (l9 : K.lookup f9 = some ⟨oc9, od9, .func (PySem.W.fnOf "need_place" "need_place" (defArgs sneed_place) (defBody sneed_place) (defScope sneed_place) .none kV9 dc9 pm9 an9 cd9 ct9), sl9⟩) (c9 : PySem.W.codeIn K cd9 "need_place" = true) (k9 : PySem.W.keepIn K (.ref f9) = true)
    (a10 : PySem.W.nsIn K mainGlobals "are_numbers" = some (some (.ref f10))) (l10 : K.lookup f10 = some ⟨oc10, od10, .func (PySem.W.fnOf "are_numbers" "are_numbers" (defArgs sare_numbers) (defBody sare_numbers) (defScope sare_numbers) .none kV10 dc10 pm10 an10 cd10 ct10), sl10⟩) (c10 : PySem.W.codeIn K cd10 "are_numbers" = true) (k10 : PySem.W.keepIn K (.ref f10) = true)
    (a11 : PySem.W.nsIn K mainGlobals "web_steps" = some (some (.ref f11))) (l11 : K.lookup f11 = some ⟨oc11, od11, .func (PySem.W.fnOf "web_steps" "web_steps" (defArgs sweb_steps) (defBody sweb_steps) (defScope sweb_steps) .none kV11 dc11 pm11 an11 cd11 ct11), sl11⟩) (c11 : PySem.W.codeIn K cd11 "web_steps" = true) (k11 : PySem.W.keepIn K (.ref f11) = true)
    (a12 : PySem.W.nsIn K mainGlobals "back_web" = some (some (.ref f12))) (l12 : K.lookup f12 = some ⟨oc12, od12, .func (PySem.W.fnOf "back_web" "back_web" (defArgs sback_web) (defBody sback_web) (defScope sback_web) .none kV12 dc12 pm12 an12 cd12 ct12), sl12⟩) (c12 : PySem.W.codeIn K cd12 "back_web" = true) (k12 : PySem.W.keepIn K (.ref f12) = true)
    (a13 : PySem.W.nsIn K mainGlobals "_need_without" = some (some (.ref f13))) (l13 : K.lookup f13 = some ⟨oc13, od13, .func (PySem.W.fnOf "_need_without" "_need_without" (defArgs s_need_without) (defBody s_need_without) (defScope s_need_without) .none kV13 dc13 pm13 an13 cd13 ct13), sl13⟩) (c13 : PySem.W.codeIn K cd13 "_need_without" = true) (k13 : PySem.W.keepIn K (.ref f13) = true)
    (a14 : PySem.W.nsIn K mainGlobals "_places_to" = some (some (.ref f14))) (l14 : K.lookup f14 = some ⟨oc14, od14, .func (PySem.W.fnOf "_places_to" "_places_to" (defArgs s_places_to) (defBody s_places_to) (defScope s_places_to) .none kV14 dc14 pm14 an14 cd14 ct14), sl14⟩) (c14 : PySem.W.codeIn K cd14 "_places_to" = true) (k14 : PySem.W.keepIn K (.ref f14) = true)
    (a15 : PySem.W.nsIn K mainGlobals "reach" = some (some (.ref f15))) (l15 : K.lookup f15 = some ⟨oc15, od15, .func (PySem.W.fnOf "reach" "reach" (defArgs sreach) (defBody sreach) (defScope sreach) .none kV15 dc15 pm15 an15 cd15 ct15), sl15⟩) (c15 : PySem.W.codeIn K cd15 "reach" = true) (k15 : PySem.W.keepIn K (.ref f15) = true)
    (a16 : PySem.W.nsIn K mainGlobals "plain_parts" = some (some (.ref f16))) (l16 : K.lookup f16 = some ⟨oc16, od16, .func (PySem.W.fnOf "plain_parts" "plain_parts" (defArgs splain_parts) (defBody splain_parts) (defScope splain_parts) .none kV16 dc16 pm16 an16 cd16 ct16), sl16⟩) (c16 : PySem.W.codeIn K cd16 "plain_parts" = true) (k16 : PySem.W.keepIn K (.ref f16) = true)
    (a17 : PySem.W.nsIn K mainGlobals "parts_of" = some (some (.ref f17))) (l17 : K.lookup f17 = some ⟨oc17, od17, .func (PySem.W.fnOf "parts_of" "parts_of" (defArgs sparts_of) (defBody sparts_of) (defScope sparts_of) .none kV17 dc17 pm17 an17 cd17 ct17), sl17⟩) (c17 : PySem.W.codeIn K cd17 "parts_of" = true) (k17 : PySem.W.keepIn K (.ref f17) = true)
    (a18 : PySem.W.nsIn K mainGlobals "is_close" = some (some (.ref f18))) (l18 : K.lookup f18 = some ⟨oc18, od18, .func (PySem.W.fnOf "is_close" "is_close" (defArgs sis_close) (defBody sis_close) (defScope sis_close) .none kV18 dc18 pm18 an18 cd18 ct18), sl18⟩) (c18 : PySem.W.codeIn K cd18 "is_close" = true) (k18 : PySem.W.keepIn K (.ref f18) = true)
    (a19 : PySem.W.nsIn K mainGlobals "is_single_ring" = some (some (.ref f19))) (l19 : K.lookup f19 = some ⟨oc19, od19, .func (PySem.W.fnOf "is_single_ring" "is_single_ring" (defArgs sis_single_ring) (defBody sis_single_ring) (defScope sis_single_ring) .none kV19 dc19 pm19 an19 cd19 ct19), sl19⟩) (c19 : PySem.W.codeIn K cd19 "is_single_ring" = true) (k19 : PySem.W.keepIn K (.ref f19) = true)
    (a20 : PySem.W.nsIn K mainGlobals "_need_part" = some (some (.ref f20))) (l20 : K.lookup f20 = some ⟨oc20, od20, .func (PySem.W.fnOf "_need_part" "_need_part" (defArgs s_need_part) (defBody s_need_part) (defScope s_need_part) .none kV20 dc20 pm20 an20 cd20 ct20), sl20⟩) (c20 : PySem.W.codeIn K cd20 "_need_part" = true) (k20 : PySem.W.keepIn K (.ref f20) = true)
    (a21 : PySem.W.nsIn K mainGlobals "part_web" = some (some (.ref f21))) (l21 : K.lookup f21 = some ⟨oc21, od21, .func (PySem.W.fnOf "part_web" "part_web" (defArgs spart_web) (defBody spart_web) (defScope spart_web) .none kV21 dc21 pm21 an21 cd21 ct21), sl21⟩) (c21 : PySem.W.codeIn K cd21 "part_web" = true) (k21 : PySem.W.keepIn K (.ref f21) = true)
    (a22 : PySem.W.nsIn K mainGlobals "_law_pot" = some (some (.ref f22))) (l22 : K.lookup f22 = some ⟨oc22, od22, .func (PySem.W.fnOf "_law_pot" "_law_pot" (defArgs s_law_pot) (defBody s_law_pot) (defScope s_law_pot) .none kV22 dc22 pm22 an22 cd22 ct22), sl22⟩) (c22 : PySem.W.codeIn K cd22 "_law_pot" = true) (k22 : PySem.W.keepIn K (.ref f22) = true)
    (a23 : PySem.W.nsIn K mainGlobals "_law_draw" = some (some (.ref f23))) (l23 : K.lookup f23 = some ⟨oc23, od23, .func (PySem.W.fnOf "_law_draw" "_law_draw" (defArgs s_law_draw) (defBody s_law_draw) (defScope s_law_draw) .none kV23 dc23 pm23 an23 cd23 ct23), sl23⟩) (c23 : PySem.W.codeIn K cd23 "_law_draw" = true) (k23 : PySem.W.keepIn K (.ref f23) = true)
    (a24 : PySem.W.nsIn K mainGlobals "_law_ties" = some (some (.ref f24))) (l24 : K.lookup f24 = some ⟨oc24, od24, .func (PySem.W.fnOf "_law_ties" "_law_ties" (defArgs s_law_ties) (defBody s_law_ties) (defScope s_law_ties) .none kV24 dc24 pm24 an24 cd24 ct24), sl24⟩) (c24 : PySem.W.codeIn K cd24 "_law_ties" = true) (k24 : PySem.W.keepIn K (.ref f24) = true)
    (a25 : PySem.W.nsIn K mainGlobals "_law_ring" = some (some (.ref f25))) (l25 : K.lookup f25 = some ⟨oc25, od25, .func (PySem.W.fnOf "_law_ring" "_law_ring" (defArgs s_law_ring) (defBody s_law_ring) (defScope s_law_ring) .none kV25 dc25 pm25 an25 cd25 ct25), sl25⟩) (c25 : PySem.W.codeIn K cd25 "_law_ring" = true) (k25 : PySem.W.keepIn K (.ref f25) = true)
    (a26 : PySem.W.nsIn K mainGlobals "_law_made" = some (some (.ref f26))) (l26 : K.lookup f26 = some ⟨oc26, od26, .func (PySem.W.fnOf "_law_made" "_law_made" (defArgs s_law_made) (defBody s_law_made) (defScope s_law_made) .none kV26 dc26 pm26 an26 cd26 ct26), sl26⟩) (c26 : PySem.W.codeIn K cd26 "_law_made" = true) (k26 : PySem.W.keepIn K (.ref f26) = true)
    (a27 : PySem.W.nsIn K mainGlobals "_law_reach" = some (some (.ref f27))) (l27 : K.lookup f27 = some ⟨oc27, od27, .func (PySem.W.fnOf "_law_reach" "_law_reach" (defArgs s_law_reach) (defBody s_law_reach) (defScope s_law_reach) .none kV27 dc27 pm27 an27 cd27 ct27), sl27⟩) (c27 : PySem.W.codeIn K cd27 "_law_reach" = true) (k27 : PySem.W.keepIn K (.ref f27) = true)
    (a28 : PySem.W.nsIn K mainGlobals "_law_parts" = some (some (.ref f28))) (l28 : K.lookup f28 = some ⟨oc28, od28, .func (PySem.W.fnOf "_law_parts" "_law_parts" (defArgs s_law_parts) (defBody s_law_parts) (defScope s_law_parts) .none kV28 dc28 pm28 an28 cd28 ct28), sl28⟩) (c28 : PySem.W.codeIn K cd28 "_law_parts" = true) (k28 : PySem.W.keepIn K (.ref f28) = true)
    (a29 : PySem.W.nsIn K mainGlobals "_law_part_right" = some (some (.ref f29))) (l29 : K.lookup f29 = some ⟨oc29, od29, .func (PySem.W.fnOf "_law_part_right" "_law_part_right" (defArgs s_law_part_right) (defBody s_law_part_right) (defScope s_law_part_right) .none kV29 dc29 pm29 an29 cd29 ct29), sl29⟩) (c29 : PySem.W.codeIn K cd29 "_law_part_right" = true) (k29 : PySem.W.keepIn K (.ref f29) = true)
    (a30 : PySem.W.nsIn K mainGlobals "_law_right" = some (some (.ref f30))) (l30 : K.lookup f30 = some ⟨oc30, od30, .func (PySem.W.fnOf "_law_right" "_law_right" (defArgs s_law_right) (defBody s_law_right) (defScope s_law_right) .none kV30 dc30 pm30 an30 cd30 ct30), sl30⟩) (c30 : PySem.W.codeIn K cd30 "_law_right" = true) (k30 : PySem.W.keepIn K (.ref f30) = true)
    (a31 : PySem.W.nsIn K mainGlobals "law" = some (some (.ref f31))) (l31 : K.lookup f31 = some ⟨oc31, od31, .func (PySem.W.fnOf "law" "law" (defArgs slaw) (defBody slaw) (defScope slaw) .none kV31 dc31 pm31 an31 cd31 ct31), sl31⟩) (c31 : PySem.W.codeIn K cd31 "law" = true) (k31 : PySem.W.keepIn K (.ref f31) = true)
    (pg : PySem.W.plainGet K C Str.empty = true) (hd : PySem.W.hasDictIn K C = true) (po : PySem.W.plainOver K C = true) (sa : PySem.W.findIn K (.ref C) "__setattr__" = some (some (.builtin "object.__setattr__"))) (mk : PySem.W.makesIn K C = true) (kc : PySem.W.keepIn K (.ref C) = true)
    (n0 : PySem.W.findIn K (.ref C) "_places" = some none)
    (n1 : PySem.W.findIn K (.ref C) "_ties" = some none)
    (n2 : PySem.W.findIn K (.ref C) "_ties_from" = some none)
    (n3 : PySem.W.findIn K (.ref C) "_ties_to" = some none)
    (q1 : PySem.W.findIn K (.ref C) "__class__" = some (some (.builtin "object.__class__"))) (q2 : PySem.W.specialIn K (.builtin "object.__class__") "__get__" = some (some (.builtin "getset_descriptor.__get__"))) (q3 : PySem.W.takesIn K (.builtin "object.__class__") = some true) (q4 : PySem.W.mroIn K C (.type "object") = some true)
    (w1 : PySem.W.findIn K (.ref C) "__ne__" = some (some (.builtin "object.__ne__")))
    (z0 : PySem.W.nsIn K mainGlobals "isinstance" = some none)
    (z1 : PySem.W.nsIn K mainGlobals "int" = some none)
    (z2 : PySem.W.nsIn K mainGlobals "bool" = some none)
    (z3 : PySem.W.nsIn K mainGlobals "list" = some none)
    (z4 : PySem.W.nsIn K mainGlobals "tuple" = some none)
    (z5 : PySem.W.nsIn K mainGlobals "len" = some none)
    (z6 : PySem.W.nsIn K mainGlobals "range" = some none)
    (z7 : PySem.W.nsIn K mainGlobals "abs" = some none)
    (z8 : PySem.W.nsIn K mainGlobals "max" = some none)
    (z9 : PySem.W.nsIn K mainGlobals "divmod" = some none)
    (z10 : PySem.W.nsIn K mainGlobals "sorted" = some none)
    (z11 : PySem.W.nsIn K mainGlobals "enumerate" = some none)
    (z12 : PySem.W.nsIn K mainGlobals "all" = some none)
    (z13 : PySem.W.nsIn K mainGlobals "repr" = some none)
    (y0 : PySem.W.nsIn K mainGlobals "MOST_PLACES" = some (some (.int 60 t0)))
    (y1 : PySem.W.nsIn K mainGlobals "MOST_TIES" = some (some (.int 80 t1)))
    : ∃ fd : FuncData, (∀ (s : Shared) (v : Value), BindsTo s fd ⟨[v], []⟩ [("_law_script", v)]) ∧ ∀ base : Heap, K.In base → base.Ns mainGlobals mg → FnG l.prog w K mg base 10 fa fd ["_law_script"] (splaw K 0) := by
  have e := hfa.symm.trans (PySem.W.mg_of X G a31)
  cases e
  have B : Bs mg := ⟨PySem.W.mg_none_of X G z0, PySem.W.mg_none_of X G z1, PySem.W.mg_none_of X G z2, PySem.W.mg_none_of X G z3, PySem.W.mg_none_of X G z4, PySem.W.mg_none_of X G z5, PySem.W.mg_none_of X G z6, PySem.W.mg_none_of X G z7, PySem.W.mg_none_of X G z8, PySem.W.mg_none_of X G z9, PySem.W.mg_none_of X G z10, PySem.W.mg_none_of X G z11, PySem.W.mg_none_of X G z12, PySem.W.mg_none_of X G z13⟩
  have Glb : Glo mg := ⟨⟨t0, PySem.W.mg_of X G y0⟩, ⟨t1, PySem.W.mg_of X G y1⟩⟩
  have WK : WebK K mg C := ⟨⟨pg, hd, po, sa⟩, n0, n1, n2, n3, PySem.W.mg_of X G aC, q1, q2, q3, q4, (by unfold PySem.W.kitOne; exact if_pos (beq_self_eq_true _)), w1⟩
  have DWeb___init__ : DefI K C "__init__" "Web.__init__" sWeb___init__ ["self", "places", "ties"] := ⟨fM0, _, fun_mk (st := sWeb___init__) lM0 cM0 kM0, ⟨mk, aM0, iM0, kc⟩, (fun_mk (st := sWeb___init__) lM0 cM0 kM0).binds (ps := ["self", "places", "ties"]) fun _ _ _ _ _ _ us hl => match us, hl with | [_, _, _], _ => rfl⟩
  have DWeb___eq__ : DefM K C "__eq__" "Web.__eq__" sWeb___eq__ ["self", "other"] := ⟨fM1, _, fun_mk (st := sWeb___eq__) lM1 cM1 kM1, ⟨aM1, iM1, kM1⟩, (fun_mk (st := sWeb___eq__) lM1 cM1 kM1).binds (ps := ["self", "other"]) fun _ _ _ _ _ _ us hl => match us, hl with | [_, _], _ => rfl⟩
  have DWeb_places : DefP K C "places" "Web.places" sWeb_places ["self"] := ⟨pM2, fM2, _, fun_mk (st := sWeb_places) lM2 cM2 kM2, ⟨aM2, gM2, tM2, _, rM2⟩, (fun_mk (st := sWeb_places) lM2 cM2 kM2).binds (ps := ["self"]) fun _ _ _ _ _ _ us hl => match us, hl with | [_], _ => rfl⟩
  have DWeb_many : DefP K C "many" "Web.many" sWeb_many ["self"] := ⟨pM3, fM3, _, fun_mk (st := sWeb_many) lM3 cM3 kM3, ⟨aM3, gM3, tM3, _, rM3⟩, (fun_mk (st := sWeb_many) lM3 cM3 kM3).binds (ps := ["self"]) fun _ _ _ _ _ _ us hl => match us, hl with | [_], _ => rfl⟩
  have DWeb_ties : DefM K C "ties" "Web.ties" sWeb_ties ["self"] := ⟨fM4, _, fun_mk (st := sWeb_ties) lM4 cM4 kM4, ⟨aM4, iM4, kM4⟩, (fun_mk (st := sWeb_ties) lM4 cM4 kM4).binds (ps := ["self"]) fun _ _ _ _ _ _ us hl => match us, hl with | [_], _ => rfl⟩
  have Dis_integer : Def K mg "is_integer" sis_integer ["value"] := def_mk X G a0 l0 c0 k0 fun _ _ _ _ _ _ us hl => match us, hl with | [_], _ => rfl
  have Dis_count : Def K mg "is_count" sis_count ["value"] := def_mk X G a1 l1 c1 k1 fun _ _ _ _ _ _ us hl => match us, hl with | [_], _ => rfl
  have Dis_between : Def K mg "is_between" sis_between ["value", "least", "most"] := def_mk X G a2 l2 c2 k2 fun _ _ _ _ _ _ us hl => match us, hl with | [_, _, _], _ => rfl
  have Dis_below : Def K mg "is_below" sis_below ["value", "limit"] := def_mk X G a3 l3 c3 k3 fun _ _ _ _ _ _ us hl => match us, hl with | [_, _], _ => rfl
  have Dis_listed : Def K mg "is_listed" sis_listed ["value"] := def_mk X G a4 l4 c4 k4 fun _ _ _ _ _ _ us hl => match us, hl with | [_], _ => rfl
  have Dparts_in_turn : Def K mg "parts_in_turn" sparts_in_turn ["points", "steps"] := def_mk X G a5 l5 c5 k5 fun _ _ _ _ _ _ us hl => match us, hl with | [_, _], _ => rfl
  have D_left_from : Def K mg "_left_from" s_left_from ["ends", "point", "seen"] := def_mk X G a6 l6 c6 k6 fun _ _ _ _ _ _ us hl => match us, hl with | [_, _, _], _ => rfl
  have Dare_ties : Def K mg "are_ties" sare_ties ["places", "value"] := def_mk X G a7 l7 c7 k7 fun _ _ _ _ _ _ us hl => match us, hl with | [_, _], _ => rfl
  have Dneed_web : Def K mg "need_web" sneed_web ["web"] := def_mk X G a8 l8 c8 k8 fun _ _ _ _ _ _ us hl => match us, hl with | [_], _ => rfl
  have Dneed_place : Def K mg "need_place" sneed_place ["web", "place"] := def_mk X G a9 l9 c9 k9 fun _ _ _ _ _ _ us hl => match us, hl with | [_, _], _ => rfl
  have Dare_numbers : Def K mg "are_numbers" sare_numbers ["web", "value"] := def_mk X G a10 l10 c10 k10 fun _ _ _ _ _ _ us hl => match us, hl with | [_, _], _ => rfl
  have Dweb_steps : Def K mg "web_steps" sweb_steps ["web"] := def_mk X G a11 l11 c11 k11 fun _ _ _ _ _ _ us hl => match us, hl with | [_], _ => rfl
  have Dback_web : Def K mg "back_web" sback_web ["web"] := def_mk X G a12 l12 c12 k12 fun _ _ _ _ _ _ us hl => match us, hl with | [_], _ => rfl
  have D_need_without : Def K mg "_need_without" s_need_without ["web", "without"] := def_mk X G a13 l13 c13 k13 fun _ _ _ _ _ _ us hl => match us, hl with | [_, _], _ => rfl
  have D_places_to : Def K mg "_places_to" s_places_to ["web", "without"] := def_mk X G a14 l14 c14 k14 fun _ _ _ _ _ _ us hl => match us, hl with | [_, _], _ => rfl
  have Dreach : Def K mg "reach" sreach ["web", "place", "without"] := def_mk X G a15 l15 c15 k15 fun _ _ _ _ _ _ us hl => match us, hl with | [_, _, _], _ => rfl
  have Dplain_parts : Def K mg "plain_parts" splain_parts ["web"] := def_mk X G a16 l16 c16 k16 fun _ _ _ _ _ _ us hl => match us, hl with | [_], _ => rfl
  have Dparts_of : Def K mg "parts_of" sparts_of ["web"] := def_mk X G a17 l17 c17 k17 fun _ _ _ _ _ _ us hl => match us, hl with | [_], _ => rfl
  have Dis_close : Def K mg "is_close" sis_close ["web"] := def_mk X G a18 l18 c18 k18 fun _ _ _ _ _ _ us hl => match us, hl with | [_], _ => rfl
  have Dis_single_ring : Def K mg "is_single_ring" sis_single_ring ["web"] := def_mk X G a19 l19 c19 k19 fun _ _ _ _ _ _ us hl => match us, hl with | [_], _ => rfl
  have D_need_part : Def K mg "_need_part" s_need_part ["web", "part"] := def_mk X G a20 l20 c20 k20 fun _ _ _ _ _ _ us hl => match us, hl with | [_, _], _ => rfl
  have Dpart_web : Def K mg "part_web" spart_web ["web", "part"] := def_mk X G a21 l21 c21 k21 fun _ _ _ _ _ _ us hl => match us, hl with | [_, _], _ => rfl
  have D_law_pot : Def K mg "_law_pot" s_law_pot ["_law_script", "_law_k"] := def_mk X G a22 l22 c22 k22 fun _ _ _ _ _ _ us hl => match us, hl with | [_, _], _ => rfl
  have D_law_draw : Def K mg "_law_draw" s_law_draw ["_law_pot_here", "_law_many"] := def_mk X G a23 l23 c23 k23 fun _ _ _ _ _ _ us hl => match us, hl with | [_, _], _ => rfl
  have D_law_ties : Def K mg "_law_ties" s_law_ties ["_law_pot_here", "_law_places", "_law_most"] := def_mk X G a24 l24 c24 k24 fun _ _ _ _ _ _ us hl => match us, hl with | [_, _, _], _ => rfl
  have D_law_ring : Def K mg "_law_ring" s_law_ring ["_law_first", "_law_many"] := def_mk X G a25 l25 c25 k25 fun _ _ _ _ _ _ us hl => match us, hl with | [_, _], _ => rfl
  have D_law_made : Def K mg "_law_made" s_law_made ["_law_pot_here"] := def_mk X G a26 l26 c26 k26 fun _ _ _ _ _ _ us hl => match us, hl with | [_], _ => rfl
  have D_law_reach : Def K mg "_law_reach" s_law_reach ["_law_ties_here", "_law_place", "_law_without"] := def_mk X G a27 l27 c27 k27 fun _ _ _ _ _ _ us hl => match us, hl with | [_, _, _], _ => rfl
  have D_law_parts : Def K mg "_law_parts" s_law_parts ["_law_places", "_law_ties_here"] := def_mk X G a28 l28 c28 k28 fun _ _ _ _ _ _ us hl => match us, hl with | [_, _], _ => rfl
  have D_law_part_right : Def K mg "_law_part_right" s_law_part_right ["_law_places", "_law_ties_here", "_law_web", "_law_part"] := def_mk X G a29 l29 c29 k29 fun _ _ _ _ _ _ us hl => match us, hl with | [_, _, _, _], _ => rfl
  have D_law_right : Def K mg "_law_right" s_law_right ["_law_pot_here"] := def_mk X G a30 l30 c30 k30 fun _ _ _ _ _ _ us hl => match us, hl with | [_], _ => rfl
  have Dlaw : Def K mg "law" slaw ["_law_script"] := def_mk X G a31 l31 c31 k31 fun _ _ _ _ _ _ us hl => match us, hl with | [_], _ => rfl
  refine ⟨PySem.W.fnOf "law" "law" (defArgs slaw) (defBody slaw) (defScope slaw) .none kV31 dc31 pm31 an31 cd31 ct31, fun s v => .of_eq rfl, fun base _ _ => ?_⟩
  have H_law_draw := ok_law_draw (P := l.prog) (w := w) (base := base) D_law_draw B Glb WK
  have H_law_ring := ok_law_ring (P := l.prog) (w := w) (base := base) D_law_ring B Glb WK
  have H_law_ties := ok_law_ties (P := l.prog) (w := w) (base := base) D_law_ties B Glb WK H_law_draw
  have H_law_made := ok_law_made (P := l.prog) (w := w) (base := base) D_law_made B Glb WK H_law_draw H_law_ring H_law_ties
  have Hneed_web := okneed_web (P := l.prog) (w := w) (base := base) Dneed_web B Glb WK
  have H_left_from := ok_left_from (P := l.prog) (w := w) (base := base) D_left_from B Glb WK
  have Hparts_in_turn := okparts_in_turn (P := l.prog) (w := w) (base := base) Dparts_in_turn B Glb WK H_left_from
  have HWeb_ties := okWeb_ties (P := l.prog) (w := w) (base := base) DWeb_ties B Glb WK
  have Hweb_steps := okweb_steps (P := l.prog) (w := w) (base := base) Dweb_steps B Glb WK HWeb_ties
  have HWeb_places := okWeb_places (P := l.prog) (w := w) (base := base) DWeb_places B Glb WK
  have Hparts_of := okparts_of (P := l.prog) (w := w) (base := base) Dparts_of B Glb WK Hneed_web Hparts_in_turn Hweb_steps HWeb_places
  have H_law_reach := ok_law_reach (P := l.prog) (w := w) (base := base) D_law_reach B Glb WK
  have H_law_parts := ok_law_parts (P := l.prog) (w := w) (base := base) D_law_parts B Glb WK H_law_reach
  have His_integer := okis_integer (P := l.prog) (w := w) (base := base) Dis_integer B Glb WK
  have His_count := okis_count (P := l.prog) (w := w) (base := base) Dis_count B Glb WK His_integer
  have His_below := okis_below (P := l.prog) (w := w) (base := base) Dis_below B Glb WK His_count
  have Hneed_place := okneed_place (P := l.prog) (w := w) (base := base) Dneed_place B Glb WK His_below HWeb_places
  have His_listed := okis_listed (P := l.prog) (w := w) (base := base) Dis_listed B Glb WK
  have HWeb_many := okWeb_many (P := l.prog) (w := w) (base := base) DWeb_many B Glb WK
  have Hare_numbers := okare_numbers (P := l.prog) (w := w) (base := base) Dare_numbers B Glb WK His_listed His_below HWeb_many
  have H_need_without := ok_need_without (P := l.prog) (w := w) (base := base) D_need_without B Glb WK Hare_numbers
  have H_places_to := ok_places_to (P := l.prog) (w := w) (base := base) D_places_to B Glb WK HWeb_ties HWeb_places
  have Hreach := okreach (P := l.prog) (w := w) (base := base) Dreach B Glb WK Hneed_web Hneed_place H_need_without H_places_to
  have Hplain_parts := okplain_parts (P := l.prog) (w := w) (base := base) Dplain_parts B Glb WK Hneed_web Hreach HWeb_places
  have H_need_part := ok_need_part (P := l.prog) (w := w) (base := base) D_need_part B Glb WK His_listed Hparts_of His_count
  have His_between := okis_between (P := l.prog) (w := w) (base := base) Dis_between B Glb WK His_integer
  have Hare_ties := okare_ties (P := l.prog) (w := w) (base := base) Dare_ties B Glb WK His_listed His_below
  have HWeb___init__ := okWeb___init__ (P := l.prog) (w := w) (base := base) DWeb___init__ B Glb WK His_between Hare_ties
  have Hpart_web := okpart_web (P := l.prog) (w := w) (base := base) Dpart_web B Glb WK Hneed_web H_need_part HWeb_ties HWeb___init__
  have His_close := okis_close (P := l.prog) (w := w) (base := base) Dis_close B Glb WK Hneed_web Hparts_of HWeb_many
  have HWeb___eq__ := okWeb___eq__ (P := l.prog) (w := w) (base := base) DWeb___eq__ B Glb WK
  have H_law_part_right := ok_law_part_right (P := l.prog) (w := w) (base := base) D_law_part_right B Glb WK Hpart_web His_close HWeb___eq__ HWeb___init__
  have Hback_web := okback_web (P := l.prog) (w := w) (base := base) Dback_web B Glb WK Hneed_web HWeb___init__ HWeb_places HWeb_ties
  have His_single_ring := okis_single_ring (P := l.prog) (w := w) (base := base) Dis_single_ring B Glb WK His_close HWeb_many HWeb_places
  have H_law_right := ok_law_right (P := l.prog) (w := w) (base := base) D_law_right B Glb WK H_law_made Hparts_of H_law_parts Hplain_parts H_law_part_right Hback_web His_close His_single_ring HWeb___init__
  have H_law_pot := ok_law_pot (P := l.prog) (w := w) (base := base) D_law_pot B Glb WK
  have Hlaw := oklaw (P := l.prog) (w := w) (base := base) Dlaw B Glb WK H_law_right H_law_pot
  obtain ⟨f, fd, O, m, k, b, F⟩ := Hlaw
  have e2 := m.symm.trans hfa
  cases e2
  rw [fd_is F l31] at O
  exact O
theorem walk {l : PySem.W.OpenLaw} {q : Program} {loose : List Str} {XP : (Str → Option Value) → Heap → Prop} {YP : World → Heap → Prop} {d : DefRec} {K : Params → PySem.W.Frag} (hn : l.most = some 63) (hdf : d.params.defaults = [])
    (hY : ∀ (w : World) (h : Heap), YP w h → (K w.params).In h)
    (F : ∀ (w : World) (mg : Str → Option Value) (fa : Addr) (h : Heap), (K w.params).In h → h.Ns mainGlobals mg → mg d.name = some (.ref fa) →
      ∃ fd : FuncData, (∀ (s : Shared) (u : Value), BindsTo s fd ⟨[u], []⟩ [("_law_script", u)]) ∧ ∀ base : Heap, (K w.params).In base → base.Ns mainGlobals mg → FnG l.prog w (K w.params) mg base 10 fa fd ["_law_script"] (splaw (K w.params) 0)) :
    PySem.W.WalkO q loose XP YP l.row.toRowW d [] (fun f vs => PySem.call f vs) :=
  walk_ofG (n := 63) (k := 10) (x := "_law_script") (sp := fun w => splaw (K w.params) 0) hn (by decide) hdf ⟨rfl, by decide, by decide⟩ hY F (fun _ _ a ns hl _ hS => ⟨a, ns, rfl, hS, hl, fun _ => rfl⟩)
end My
open PySem PySem.W PyProof.Rows
set_option maxRecDepth 100000 in
set_option maxHeartbeats 0 in
theorem PySem.Challenge.cw_suretexts_k23_whole_parts_holds : PySem.Challenge.rw_suretexts_k23_whole_parts.Holds := by
  w_on; o_law; k_head; (case hw => w_witness2)
  k_fill
  refine My.walk (l := PySem.Challenge.rw_suretexts_k23_whole_parts) rfl rfl (fun w h Y => PySem.W.kIn_of Y) ?F
  case F =>
    intro w mg fa h KX G hmg
    refine' My.all_mk KX G hmg ?aC ?aM0 ?iM0 ?lM0 ?cM0 ?kM0 ?aM1 ?iM1 ?lM1 ?cM1 ?kM1 ?aM2 ?gM2 ?tM2 ?rM2 ?lM2 ?cM2 ?kM2 ?aM3 ?gM3 ?tM3 ?rM3 ?lM3 ?cM3 ?kM3 ?aM4 ?iM4 ?lM4 ?cM4 ?kM4 ?a0 ?l0 ?c0 ?k0 ?a1 ?l1 ?c1 ?k1 ?a2 ?l2 ?c2 ?k2 ?a3 ?l3 ?c3 ?k3 ?a4 ?l4 ?c4 ?k4 ?a5 ?l5 ?c5 ?k5 ?a6 ?l6 ?c6 ?k6 ?a7 ?l7 ?c7 ?k7 ?a8 ?l8 ?c8 ?k8 ?a9 ?l9 ?c9 ?k9 ?a10 ?l10 ?c10 ?k10 ?a11 ?l11 ?c11 ?k11 ?a12 ?l12 ?c12 ?k12 ?a13 ?l13 ?c13 ?k13 ?a14 ?l14 ?c14 ?k14 ?a15 ?l15 ?c15 ?k15 ?a16 ?l16 ?c16 ?k16 ?a17 ?l17 ?c17 ?k17 ?a18 ?l18 ?c18 ?k18 ?a19 ?l19 ?c19 ?k19 ?a20 ?l20 ?c20 ?k20 ?a21 ?l21 ?c21 ?k21 ?a22 ?l22 ?c22 ?k22 ?a23 ?l23 ?c23 ?k23 ?a24 ?l24 ?c24 ?k24 ?a25 ?l25 ?c25 ?k25 ?a26 ?l26 ?c26 ?k26 ?a27 ?l27 ?c27 ?k27 ?a28 ?l28 ?c28 ?k28 ?a29 ?l29 ?c29 ?k29 ?a30 ?l30 ?c30 ?k30 ?a31 ?l31 ?c31 ?k31 ?pg ?hd ?po ?sa ?mk ?kc ?n0 ?n1 ?n2 ?n3 ?q1 ?q2 ?q3 ?q4 ?w1 ?z0 ?z1 ?z2 ?z3 ?z4 ?z5 ?z6 ?z7 ?z8 ?z9 ?z10 ?z11 ?z12 ?z13 ?y0 ?y1
    (case aC => k_is)
    (case aM0 => k_is)
    (case iM0 => k_is)
    (case lM0 => k_is)
    (case cM0 => k_is)
    (case kM0 => k_is)
    (case aM1 => k_is)
    (case iM1 => k_is)
    (case lM1 => k_is)
    (case cM1 => k_is)
    (case kM1 => k_is)
    (case aM2 => k_is)
    (case gM2 => k_is)
    (case tM2 => k_is)
    (case rM2 => k_is)
    (case lM2 => k_is)
    (case cM2 => k_is)
    (case kM2 => k_is)
    (case aM3 => k_is)
    (case gM3 => k_is)
    (case tM3 => k_is)
    (case rM3 => k_is)
    (case lM3 => k_is)
    (case cM3 => k_is)
    (case kM3 => k_is)
    (case aM4 => k_is)
    (case iM4 => k_is)
    (case lM4 => k_is)
    (case cM4 => k_is)
    (case kM4 => k_is)
    (case a0 => k_is)
    (case l0 => k_is)
    (case c0 => k_is)
    (case k0 => k_is)
    (case a1 => k_is)
    (case l1 => k_is)
    (case c1 => k_is)
    (case k1 => k_is)
    (case a2 => k_is)
    (case l2 => k_is)
    (case c2 => k_is)
    (case k2 => k_is)
    (case a3 => k_is)
    (case l3 => k_is)
    (case c3 => k_is)
    (case k3 => k_is)
    (case a4 => k_is)
    (case l4 => k_is)
    (case c4 => k_is)
    (case k4 => k_is)
    (case a5 => k_is)
    (case l5 => k_is)
    (case c5 => k_is)
    (case k5 => k_is)
    (case a6 => k_is)
    (case l6 => k_is)
    (case c6 => k_is)
    (case k6 => k_is)
    (case a7 => k_is)
    (case l7 => k_is)
    (case c7 => k_is)
    (case k7 => k_is)
    (case a8 => k_is)
    (case l8 => k_is)
    (case c8 => k_is)
    (case k8 => k_is)
    (case a9 => k_is)
    (case l9 => k_is)
    (case c9 => k_is)
    (case k9 => k_is)
    (case a10 => k_is)
    (case l10 => k_is)
    (case c10 => k_is)
    (case k10 => k_is)
    (case a11 => k_is)
    (case l11 => k_is)
    (case c11 => k_is)
    (case k11 => k_is)
    (case a12 => k_is)
    (case l12 => k_is)
    (case c12 => k_is)
    (case k12 => k_is)
    (case a13 => k_is)
    (case l13 => k_is)
    (case c13 => k_is)
    (case k13 => k_is)
    (case a14 => k_is)
    (case l14 => k_is)
    (case c14 => k_is)
    (case k14 => k_is)
    (case a15 => k_is)
    (case l15 => k_is)
    (case c15 => k_is)
    (case k15 => k_is)
    (case a16 => k_is)
    (case l16 => k_is)
    (case c16 => k_is)
    (case k16 => k_is)
    (case a17 => k_is)
    (case l17 => k_is)
    (case c17 => k_is)
    (case k17 => k_is)
    (case a18 => k_is)
    (case l18 => k_is)
    (case c18 => k_is)
    (case k18 => k_is)
    (case a19 => k_is)
    (case l19 => k_is)
    (case c19 => k_is)
    (case k19 => k_is)
    (case a20 => k_is)
    (case l20 => k_is)
    (case c20 => k_is)
    (case k20 => k_is)
    (case a21 => k_is)
    (case l21 => k_is)
    (case c21 => k_is)
    (case k21 => k_is)
    (case a22 => k_is)
    (case l22 => k_is)
    (case c22 => k_is)
    (case k22 => k_is)
    (case a23 => k_is)
    (case l23 => k_is)
    (case c23 => k_is)
    (case k23 => k_is)
    (case a24 => k_is)
    (case l24 => k_is)
    (case c24 => k_is)
    (case k24 => k_is)
    (case a25 => k_is)
    (case l25 => k_is)
    (case c25 => k_is)
    (case k25 => k_is)
    (case a26 => k_is)
    (case l26 => k_is)
    (case c26 => k_is)
    (case k26 => k_is)
    (case a27 => k_is)
    (case l27 => k_is)
    (case c27 => k_is)
    (case k27 => k_is)
    (case a28 => k_is)
    (case l28 => k_is)
    (case c28 => k_is)
    (case k28 => k_is)
    (case a29 => k_is)
    (case l29 => k_is)
    (case c29 => k_is)
    (case k29 => k_is)
    (case a30 => k_is)
    (case l30 => k_is)
    (case c30 => k_is)
    (case k30 => k_is)
    (case a31 => k_is)
    (case l31 => k_is)
    (case c31 => k_is)
    (case k31 => k_is)
    (case pg => k_is)
    (case hd => k_is)
    (case po => k_is)
    (case sa => k_is)
    (case mk => k_is)
    (case kc => k_is)
    (case n0 => k_is)
    (case n1 => k_is)
    (case n2 => k_is)
    (case n3 => k_is)
    (case q1 => k_is)
    (case q2 => k_is)
    (case q3 => k_is)
    (case q4 => k_is)
    (case w1 => k_is)
    (case z0 => k_is)
    (case z1 => k_is)
    (case z2 => k_is)
    (case z3 => k_is)
    (case z4 => k_is)
    (case z5 => k_is)
    (case z6 => k_is)
    (case z7 => k_is)
    (case z8 => k_is)
    (case z9 => k_is)
    (case z10 => k_is)
    (case z11 => k_is)
    (case z12 => k_is)
    (case z13 => k_is)
    (case y0 => k_is)
    (case y1 => k_is)
