import PyProof.Rows.All
import Wide.All
import OpenK.AllK
import Wide.FinOn
import HandS.ForMost
import HandS.IsInst
import HandS.SortInts
import HandS.Walk
import HandS.Property
import HandS.Style
import HandS.DictTup
import KE.SortData
import KE.KDictWalk
import HandS.OwnEq
import PyProof.InstNe
import PyProof.ListRange
import HandS.Conv
import KE.DataMinMax
import PyProof.Rows.StrStep
import HandS.Deep
import KE.GoesMore
import KE.GoesEnum
import HandS.Iter
import HandS.More
import PySem.Challenge.RW_suretexts_k66_whole_mates_kept
set_option Elab.async false
set_option maxRecDepth 100000
set_option linter.all false
namespace My
/-! ### reading round and round -/
def rd (l : List Nat) (p n : Nat) : List Nat := (List.range n).map fun k => l.getD ((p + k) % l.length) 0
theorem rd_len (l : List Nat) (p n : Nat) : (rd l p n).length = n := by simp [rd]
theorem rd_zero (l : List Nat) (p : Nat) : rd l p 0 = [] := rfl
theorem rd_succ (l : List Nat) (p n : Nat) : rd l p (n + 1) = rd l p n ++ [l.getD ((p + n) % l.length) 0] := by
  simp [rd, List.range_succ]
theorem rd_get (l : List Nat) (p n k : Nat) (h : k < n) : (rd l p n)[k]? = some (l.getD ((p + k) % l.length) 0) := by
  simp [rd, h]
theorem rd_drop (l : List Nat) (p n k : Nat) : (rd l p n).drop k = rd l (p + k) (n - k) := by
  apply List.ext_getElem?
  intro i
  rw [List.getElem?_drop]
  by_cases h : k + i < n
  · rw [rd_get _ _ _ _ h, rd_get _ _ _ _ (by omega), Nat.add_assoc]
  · rw [List.getElem?_eq_none (by rw [rd_len]; omega), List.getElem?_eq_none (by rw [rd_len]; omega)]
theorem rd_mod (l : List Nat) (p n : Nat) : rd l (p % l.length) n = rd l p n := by
  unfold rd
  apply List.map_congr_left
  intro k _
  rw [Nat.mod_add_mod]
theorem rd_self (l : List Nat) : rd l 0 l.length = l := by
  apply List.ext_getElem?
  intro i
  by_cases h : i < l.length
  · rw [rd_get _ _ _ _ h, Nat.zero_add, Nat.mod_eq_of_lt h, List.getElem?_eq_getElem h, List.getD_eq_getElem?_getD, List.getElem?_eq_getElem h]
    rfl
  · rw [List.getElem?_eq_none (by rw [rd_len]; omega), List.getElem?_eq_none (by omega)]
/-- turned -/
theorem rd_turn (l : List Nat) (p : Nat) (h : p < l.length) : rd l p l.length = l.drop p ++ l.take p := by
  apply List.ext_getElem?
  intro i
  by_cases hi : i < l.length
  · rw [rd_get _ _ _ _ hi]
    by_cases h2 : i < l.length - p
    · rw [List.getElem?_append_left (by rw [List.length_drop]; exact h2), List.getElem?_drop, Nat.mod_eq_of_lt (by omega), List.getElem?_eq_getElem (by omega), List.getD_eq_getElem?_getD, List.getElem?_eq_getElem (by omega)]
      rfl
    · rw [List.getElem?_append_right (by rw [List.length_drop]; omega), List.length_drop, List.getElem?_take_of_lt (by omega)]
      have e : (p + i) % l.length = i - (l.length - p) := by
        rw [Nat.mod_eq_sub_mod (by omega), Nat.mod_eq_of_lt (by omega)]
        omega
      rw [e, List.getElem?_eq_getElem (by omega), List.getD_eq_getElem?_getD, List.getElem?_eq_getElem (by omega)]
      rfl
  · rw [List.getElem?_eq_none (by rw [rd_len]; omega), List.getElem?_eq_none (by rw [List.length_append, List.length_drop, List.length_take]; omega)]
/-- reading from a turned ring -/
theorem rd_turned (l : List Nat) (b p n : Nat) (hl : 0 < l.length) : rd (rd l b l.length) p n = rd l (b + p) n := by
  unfold rd
  apply List.map_congr_left
  intro k _
  have e : ((List.range l.length).map fun k => l.getD ((b + k) % l.length) 0).length = l.length := by simp
  rw [e]
  have h2 : (p + k) % l.length < l.length := Nat.mod_lt _ hl
  rw [List.getD_eq_getElem?_getD, List.getElem?_map, List.getElem?_range h2]
  show l.getD ((b + (p + k) % l.length) % l.length) 0 = _
  rw [Nat.add_mod_mod, Nat.add_assoc]

/-! ### beginnings that are endings -/
def Pre (w t : List Nat) (k : Nat) : Prop := k ≤ w.length ∧ w.take k <:+ t
def Longest (w t : List Nat) (k : Nat) : Prop := Pre w t k ∧ ∀ k', Pre w t k' → k' ≤ k
def IsLB (p : List Nat) (b : Nat) : Prop := b < p.length ∧ p.take b <:+ p ∧ ∀ b', b' < p.length → p.take b' <:+ p → b' ≤ b
def At (w t : List Nat) (c k : Nat) : Prop := Pre w t k ∧ ∀ k', Pre w t k' → w[k']? = some c → k' ≤ k
theorem suff_one {a t : List Nat} {x c : Nat} : a ++ [x] <:+ t ++ [c] ↔ a <:+ t ∧ x = c := by
  constructor
  · rintro ⟨u, hu⟩
    rw [← List.append_assoc] at hu
    have h := List.append_inj' hu rfl
    exact ⟨⟨u, h.1⟩, by simpa using h.2⟩
  · rintro ⟨⟨u, hu⟩, rfl⟩
    exact ⟨u, by rw [← hu, List.append_assoc]⟩
theorem pre_succ {w t : List Nat} {c k : Nat} : Pre w (t ++ [c]) (k + 1) ↔ Pre w t k ∧ w[k]? = some c := by
  unfold Pre
  constructor
  · rintro ⟨h1, h2⟩
    have hk : k < w.length := by omega
    rw [List.take_succ_eq_append_getElem hk, suff_one] at h2
    exact ⟨⟨by omega, h2.1⟩, by rw [List.getElem?_eq_getElem hk, h2.2]⟩
  · rintro ⟨⟨h1, h2⟩, h3⟩
    have hk : k < w.length := by
      rw [List.getElem?_eq_some_iff] at h3
      exact h3.1
    rw [List.take_succ_eq_append_getElem hk, suff_one]
    rw [List.getElem?_eq_getElem hk] at h3
    exact ⟨by omega, h2, Option.some.inj h3⟩
theorem pre_zero (w t : List Nat) : Pre w t 0 := ⟨Nat.zero_le _, by simp⟩
theorem at_start {w t : List Nat} {c k : Nat} (h : Longest w t k) : At w t c k := ⟨h.1, fun k' h' _ => h.2 k' h'⟩
theorem at_fall {w t : List Nat} {c k b : Nat} (h : At w t c k) (hne : w[k]? ≠ some c) (hb : IsLB (w.take k) b) : At w t c b := by
  obtain ⟨h1, h2⟩ := h
  obtain ⟨b1, b2, b3⟩ := hb
  have lk : (w.take k).length = k := by rw [List.length_take]; have := h1.1; omega
  rw [lk] at b1 b3
  have tk : ∀ j, j ≤ k → (w.take k).take j = w.take j := fun j hj => by rw [List.take_take, Nat.min_eq_left hj]
  refine ⟨⟨by have := h1.1; omega, ?_⟩, fun k' p' e' => ?_⟩
  · rw [← tk b (by omega)]
    exact b2.trans h1.2
  · have l1 := h2 k' p' e'
    have l2 : k' ≠ k := by rintro rfl; exact hne e'
    have l3 : k' < k := by omega
    refine b3 k' l3 ?_
    rw [tk k' (by omega)]
    refine List.suffix_of_suffix_length_le p'.2 h1.2 ?_
    rw [List.length_take, List.length_take]
    have := h1.1
    omega
theorem at_hit {w t : List Nat} {c k : Nat} (h : At w t c k) (he : w[k]? = some c) : Longest w (t ++ [c]) (k + 1) := by
  refine ⟨pre_succ.mpr ⟨h.1, he⟩, fun k' p' => ?_⟩
  cases k' with
  | zero => omega
  | succ j =>
    have q := pre_succ.mp p'
    have := h.2 j q.1 q.2
    omega
theorem at_miss {w t : List Nat} {c : Nat} (h : At w t c 0) (he : w[0]? ≠ some c) : Longest w (t ++ [c]) 0 := by
  refine ⟨pre_zero _ _, fun k' p' => ?_⟩
  cases k' with
  | zero => omega
  | succ j =>
    have q := pre_succ.mp p'
    have l := h.2 j q.1 q.2
    have e : j = 0 := by omega
    subst e
    exact absurd q.2 he
theorem longest_nil (w : List Nat) : Longest w [] 0 := by
  refine ⟨pre_zero _ _, fun k' p' => ?_⟩
  have h := List.suffix_nil.mp p'.2
  have h2 : (w.take k').length = 0 := by rw [h]; rfl
  rw [List.length_take] at h2
  have := p'.1
  omega
theorem longest_le {w t : List Nat} {k : Nat} (h : Longest w t k) : k ≤ t.length := by
  have h1 := h.1.2.length_le
  rw [List.length_take] at h1
  have := h.1.1
  omega
/-- the longest beginning that ends the letters behind the first one is the longest border -/
theorem lb_of_longest {w : List Nat} {i k : Nat} (hi : i < w.length) (h : Longest w ((w.drop 1).take i) k) : IsLB (w.take (i + 1)) k := by
  have hk := longest_le h
  have ht : ((w.drop 1).take i).length = i := by rw [List.length_take, List.length_drop]; omega
  rw [ht] at hk
  have hl : (w.take (i + 1)).length = i + 1 := by rw [List.length_take]; omega
  have tk : ∀ j, j ≤ i + 1 → (w.take (i + 1)).take j = w.take j := fun j hj => by rw [List.take_take, Nat.min_eq_left hj]
  obtain ⟨a, r, rfl⟩ : ∃ a r, w = a :: r := by
    cases w with
    | nil => simp at hi
    | cons a r => exact ⟨a, r, rfl⟩
  have e : (a :: r).take (i + 1) = a :: ((a :: r).drop 1).take i := by simp
  refine ⟨by omega, ?_, fun b' hb' hs => ?_⟩
  · rw [tk k (by omega), e]
    exact h.1.2.trans (List.suffix_cons _ _)
  · rw [hl] at hb'
    refine h.2 b' ⟨by omega, ?_⟩
    rw [tk b' (by omega), e, List.suffix_cons_iff] at hs
    rcases hs with hs | hs
    · have hq := congrArg List.length hs
      rw [List.length_take, ← e, hl] at hq
      omega
    · exact hs
theorem lb_one {w : List Nat} (h : 0 < w.length) : IsLB (w.take 1) 0 := lb_of_longest h (by simpa using longest_nil w)
theorem lb_unique {p : List Nat} {a b : Nat} (h1 : IsLB p a) (h2 : IsLB p b) : a = b := by
  have := h1.2.2 b h2.1 h2.2.1
  have := h2.2.2 a h1.1 h1.2.1
  omega
/-- the list of the longest borders -/
def Bords (w : List Nat) (L : List Nat) : Prop := L.length = w.length ∧ ∀ j, j < w.length → ∃ b, L[j]? = some b ∧ IsLB (w.take (j + 1)) b
theorem bords_unique {w A B : List Nat} (h1 : Bords w A) (h2 : Bords w B) : A = B := by
  apply List.ext_getElem?
  intro i
  by_cases h : i < w.length
  · obtain ⟨a, ea, la⟩ := h1.2 i h
    obtain ⟨b, eb, lb⟩ := h2.2 i h
    rw [ea, eb, lb_unique la lb]
  · rw [List.getElem?_eq_none (by rw [h1.1]; omega), List.getElem?_eq_none (by rw [h2.1]; omega)]
/-- some first ones of them -/
def BordsTo (w : List Nat) (n : Nat) (L : List Nat) : Prop := L.length = n ∧ ∀ j, j < n → ∃ b, L[j]? = some b ∧ IsLB (w.take (j + 1)) b
theorem bordsTo_one {w : List Nat} (h : 0 < w.length) : BordsTo w 1 [0] := by
  refine ⟨rfl, fun j hj => ?_⟩
  have e : j = 0 := by omega
  subst e
  exact ⟨0, rfl, lb_one h⟩
theorem bordsTo_succ {w L : List Nat} {i k : Nat} (hi : i < w.length) (hB : BordsTo w i L) (h : Longest w ((w.drop 1).take i) k) : BordsTo w (i + 1) (L ++ [k]) := by
  refine ⟨by rw [List.length_append, hB.1]; rfl, fun j hj => ?_⟩
  by_cases hji : j < i
  · obtain ⟨b, e, l⟩ := hB.2 j hji
    exact ⟨b, by rw [List.getElem?_append_left (by rw [hB.1]; exact hji)]; exact e, l⟩
  · have e : j = i := by omega
    subst e
    refine ⟨k, ?_, lb_of_longest hi h⟩
    rw [List.getElem?_append_right (by rw [hB.1]; omega), hB.1, Nat.sub_self]
    rfl
theorem bordsTo_at {w L : List Nat} {n k : Nat} (hB : BordsTo w n L) (h0 : 0 < k) (hk : k ≤ n) : ∃ b, L[k - 1]? = some b ∧ IsLB (w.take k) b ∧ b < k := by
  obtain ⟨b, e, l⟩ := hB.2 (k - 1) (by omega)
  rw [show k - 1 + 1 = k by omega] at l
  refine ⟨b, e, l, ?_⟩
  have := l.1
  rw [List.length_take] at this
  omega
theorem bords_of {w L : List Nat} : BordsTo w w.length L ↔ Bords w L := Iff.rfl

/-! ### a word begins at a place -/
def due (l w : List Nat) : List Nat := (List.range l.length).filter fun p => rd l p w.length == w
theorem mem_due {l w : List Nat} {p : Nat} : p ∈ due l w ↔ p < l.length ∧ rd l p w.length = w := by
  simp [due]
/-- of the first n letters read -/
def dueTo (l w : List Nat) (n : Nat) : List Nat := (List.range n).filter fun p => rd l p w.length == w
theorem dueTo_all (l w : List Nat) : dueTo l w l.length = due l w := rfl
theorem dueTo_succ_yes {l w : List Nat} {n : Nat} (h : rd l n w.length = w) : dueTo l w (n + 1) = dueTo l w n ++ [n] := by
  simp [dueTo, List.range_succ, List.filter_append, h]
theorem dueTo_succ_no {l w : List Nat} {n : Nat} (h : ¬ rd l n w.length = w) : dueTo l w (n + 1) = dueTo l w n := by
  simp [dueTo, List.range_succ, List.filter_append, h]
/-- the whole word was just read -/
theorem longest_full {l w : List Nat} {n k : Nat} (h : Longest w (rd l 0 n) k) : k = w.length ↔ w.length ≤ n ∧ rd l (n - w.length) w.length = w := by
  have key : w <:+ rd l 0 n ↔ w.length ≤ n ∧ rd l (n - w.length) w.length = w := by
    constructor
    · intro hs
      have hl := hs.length_le
      rw [rd_len] at hl
      refine ⟨hl, ?_⟩
      have e := List.suffix_iff_eq_drop.mp hs
      rw [rd_len, rd_drop, Nat.zero_add, show n - (n - w.length) = w.length by omega] at e
      exact e.symm
    · rintro ⟨hl, e⟩
      rw [List.suffix_iff_eq_drop, rd_len, rd_drop, Nat.zero_add, show n - (n - w.length) = w.length by omega]
      exact e.symm
  rw [← key]
  constructor
  · rintro rfl
    have := h.1.2
    rw [List.take_length] at this
    exact this
  · intro hs
    have h1 := h.1.1
    have h2 := h.2 w.length ⟨Nat.le_refl _, by rw [List.take_length]; exact hs⟩
    omega

/-! ### the period -/
theorem getD_lt {l : List Nat} {i : Nat} (h : i < l.length) : l[i]? = some (l.getD i 0) := by
  rw [List.getD_eq_getElem?_getD, List.getElem?_eq_getElem h]
  rfl
theorem line_period {l : List Nat} {b : Nat} (h : IsLB l b) (i : Nat) (hi : i + (l.length - b) < l.length) : l.getD (i + (l.length - b)) 0 = l.getD i 0 := by
  have hb := h.1
  have e := List.suffix_iff_eq_drop.mp h.2.1
  have hl : (l.take b).length = b := by rw [List.length_take]; omega
  rw [hl] at e
  have e2 := congrArg (fun z : List Nat => z[i]?) e
  simp only [List.getElem?_take, List.getElem?_drop] at e2
  rw [if_pos (by omega)] at e2
  rw [List.getD_eq_getElem?_getD, List.getD_eq_getElem?_getD, e2, Nat.add_comm]
theorem line_mult {l : List Nat} {s : Nat} (h : ∀ i, i + s < l.length → l.getD (i + s) 0 = l.getD i 0) : ∀ (m i : Nat), i + m * s < l.length → l.getD (i + m * s) 0 = l.getD i 0
  | 0, i, _ => by simp
  | m + 1, i, hi => by
    have e : i + (m + 1) * s = (i + m * s) + s := by rw [Nat.succ_mul]; omega
    rw [e] at hi ⊢
    rw [h _ hi]
    exact line_mult h m i (by omega)
theorem round_period {l : List Nat} {s : Nat} (_hs : 0 < s) (hsl : s ≤ l.length) (hd : l.length % s = 0) (h : ∀ i, i + s < l.length → l.getD (i + s) 0 = l.getD i 0) (i : Nat) (hi : i < l.length) : l.getD ((i + s) % l.length) 0 = l.getD i 0 := by
  by_cases hlt : i + s < l.length
  · rw [Nat.mod_eq_of_lt hlt]
    exact h i hlt
  · have e1 : (i + s) % l.length = i + s - l.length := by
      rw [Nat.mod_eq_sub_mod (by omega), Nat.mod_eq_of_lt (by omega)]
    rw [e1]
    obtain ⟨q, hq⟩ : ∃ q, l.length = s * q := ⟨l.length / s, by rw [Nat.mul_div_cancel' (Nat.dvd_of_mod_eq_zero hd)]⟩
    have hq0 : 0 < q := by
      rcases Nat.eq_zero_or_pos q with z | z
      · subst z; omega
      · exact z
    obtain ⟨r, rfl⟩ : ∃ r, q = r + 1 := ⟨q - 1, by omega⟩
    have e2 : l.length = r * s + s := by rw [hq, Nat.mul_succ, Nat.mul_comm]
    have e3 : i = (i + s - l.length) + r * s := by omega
    have := line_mult h r (i + s - l.length) (by omega)
    rw [← e3] at this
    exact this.symm
/-- the told period -/
def per (l : List Nat) (b : Nat) : Nat := if l.length % (l.length - b) = 0 then l.length - b else l.length
theorem per_turns {l : List Nat} {b : Nat} (h : IsLB l b) (i : Nat) (hi : i < l.length) : l.getD ((i + per l b) % l.length) 0 = l.getD i 0 := by
  have hb := h.1
  unfold per
  split
  · exact round_period (by omega) (by omega) (by assumption) (fun j hj => line_period h j hj) i hi
  · rw [Nat.add_mod_right, Nat.mod_eq_of_lt hi]
theorem rd_per {l : List Nat} {b : Nat} (h : IsLB l b) (p n : Nat) : rd l (p + per l b) n = rd l p n := by
  have hb := h.1
  unfold rd
  apply List.map_congr_left
  intro k _
  rw [show p + per l b + k = (p + k) + per l b by omega, ← Nat.mod_add_mod]
  rw [per_turns h ((p + k) % l.length) (Nat.mod_lt _ (by omega))]
theorem per_pos {l : List Nat} {b : Nat} (h : IsLB l b) : 0 < per l b ∧ per l b ≤ l.length := by
  have hb := h.1
  unfold per
  split <;> omega

/-! ### rising lists of the same numbers are one list -/
theorem rising_ext : ∀ {a b : List Int}, a.Pairwise (· < ·) → b.Pairwise (· < ·) → (∀ x, x ∈ a ↔ x ∈ b) → a = b
  | [], [], _, _, _ => rfl
  | [], y :: ys, _, _, h => by have := (h y).mpr (by simp); simp at this
  | x :: xs, [], _, _, h => by have := (h x).mp (by simp); simp at this
  | x :: xs, y :: ys, ha, hb, h => by
    rw [List.pairwise_cons] at ha hb
    have e : x = y := by
      have h1 := (h x).mp (by simp)
      have h2 := (h y).mpr (by simp)
      rw [List.mem_cons] at h1 h2
      rcases h1 with h1 | h1
      · exact h1
      · rcases h2 with h2 | h2
        · exact h2.symm
        · have := ha.1 y h2
          have := hb.1 x h1
          omega
    subst e
    congr 1
    refine rising_ext ha.2 hb.2 fun z => ?_
    constructor
    · intro hz
      have := (h z).mp (List.mem_cons_of_mem _ hz)
      rw [List.mem_cons] at this
      rcases this with rfl | this
      · have := ha.1 _ hz; omega
      · exact this
    · intro hz
      have := (h z).mpr (List.mem_cons_of_mem _ hz)
      rw [List.mem_cons] at this
      rcases this with rfl | this
      · have := hb.1 _ hz; omega
      · exact this
theorem rising_of {s : List Int} (h : s.Pairwise (· ≤ ·)) (n : s.Nodup) : s.Pairwise (· < ·) := by
  have := h.and n
  exact this.imp fun ⟨h1, h2⟩ => by omega
/-- sorted, and the same numbers, none twice: that is it -/
theorem sorted_is {s m d : List Int} (hp : List.Perm s m) (hs : s.Pairwise (· ≤ ·)) (hn : m.Nodup) (hd : d.Pairwise (· < ·)) (h : ∀ x, x ∈ m ↔ x ∈ d) : s = d := by
  refine rising_ext (rising_of hs (hp.nodup_iff.mpr hn)) hd fun x => ?_
  rw [hp.mem_iff]
  exact h x
theorem due_rising (l w : List Nat) : ((due l w).map fun n : Nat => (n : Int)).Pairwise (· < ·) := by
  rw [List.pairwise_map]
  refine List.Pairwise.imp (fun {a b} (h : a < b) => by omega) ?_
  exact List.Pairwise.filter _ List.pairwise_lt_range
end My
namespace My
open PySem L2 PyProof.Rows
/-- a text by its letters -/
abbrev T (l : List Nat) : V := .str ⟨l.toArray⟩
section
variable {X : Cx}
theorem mul_flat (l : List Nat) (n : Nat) : ((List.replicate n l.toArray).foldl (· ++ ·) (#[] : Array Nat)) = (List.replicate n l).flatten.toArray := by
  have h : ∀ (m : Nat) (acc : List Nat), (List.replicate m l.toArray).foldl (· ++ ·) acc.toArray = (acc ++ (List.replicate m l).flatten).toArray := by
    intro m
    induction m with
    | zero => intro acc; simp
    | succ m ih =>
      intro acc
      rw [List.replicate_succ, List.foldl_cons]
      have e : acc.toArray ++ l.toArray = (acc ++ l).toArray := by simp
      rw [e, ih, List.replicate_succ, List.flatten_cons, List.append_assoc]
  have := h n []
  simpa using this
theorem op_mul_str : OpR X (binaryOp .Mult) (fun x y H Q => ∃ l n, x = T l ∧ y = .int (n : Nat) ∧ 1 ≤ n ∧ n ≤ 1000 ∧ l.length ≤ 1000 ∧ Q (T (List.replicate n l).flatten) H) := by
  intro pins s σ H x y v u Q I rx ry h
  obtain ⟨l, n, rfl, rfl, h1, h2, h3, q⟩ := h
  obtain ⟨t, rfl⟩ := rx
  obtain ⟨t', rfl⟩ := ry
  have hlen : (⟨l.toArray⟩ : Str).length = l.length := by simp [Str.length]
  have ok : MulOk ⟨l.toArray⟩ (n : Int) := by
    refine ⟨?_, fun _ _ => ?_, fun _ _ => ?_⟩
    · have a1 : decide ((n : Int) < -(2 ^ 63 : Int)) = false := decide_eq_false (by omega)
      have a2 : decide ((n : Int) ≥ 2 ^ 63) = false := decide_eq_false (by omega)
      rw [a1, a2]
      rfl
    · rw [hlen]
      have : (1000000 : Int) ≤ (2 ^ 63 - 1) / (n : Int) := by
        rw [Int.le_ediv_iff_mul_le (by omega)]
        omega
      omega
    · rw [hlen]
      have e : (n : Int).toNat = n := by omega
      rw [e]
      have : l.length * n ≤ 1000 * 1000 := Nat.mul_le_mul h3 h2
      have z : (1000000 : Nat) ≤ sizeLine := by decide
      simp [Builtin.Str.tooLong]
      omega
  refine SB.mul ok fun t'' k => ?_
  have em : Txt.mul ⟨l.toArray⟩ (n : Int) = ⟨(List.replicate n l).flatten.toArray⟩ := by
    unfold Txt.mul
    rw [if_neg (by omega)]
    split
    · rename_i c
      rw [hlen] at c
      simp at c
      rcases c with c | c
      · have : n = 1 := by omega
        subst this
        simp
      · subst c
        simp
    · have e : (n : Int).toNat = n := by omega
      rw [e]
      exact congrArg Str.mk (mul_flat l n)
  rw [em]
  exact ⟨.str _, H, I.tok _, ⟨_, rfl⟩, q⟩
theorem call_repr_bl : CallR X (.builtin "repr") (fun xs H Q => ∃ b, xs = [.bl b] ∧ Q (.str (if b then "True" else "False")) H) := by
  intro pins s σ H xs us Q I r h
  obtain ⟨b, rfl, q⟩ := h
  obtain ⟨u, rfl, e⟩ := vals1 r
  cases e
  exact PySem.P.repr_of_bool ⟨.str _, H, I.tok _, ⟨_, rfl⟩, q⟩
/-- a module's constant that is an int -/
theorem pe_globI {x : Str} {n : Int} {pos : Pos} (h : ∃ t, X.mg x = some (.int n t)) (hg : Gl X x := by rfl) (hd : (x == ("__debug__" : Str)) = false := by decide) : PE X (.Name x pos) (tC (.int n)) := by
  obtain ⟨t, e⟩ := h
  exact pe_glob (v := .int n) hg e ⟨t, rfl⟩ hd
variable {CX : CXT} {k : Nat} {f : Addr} {fd : FuncData} {ps ks : List Str} {sp : Sp} {E : XK} {x : Str} {p pos : Pos} {kws : List Keyword} {tk : TA} {g : List Value → List Value → List Value} {gV : List V → List V → List V}
/-- f(a=.., b=..) -/
theorem pe_callKK (F : FnOk X.prog X.w X.K X.mg X.base CX k f fd ps sp) (hr : Room k X.A) (hg : Gl X x) (hm : X.mg x = some (.ref f)) (hk : PySem.W.keepIn X.K (.ref f) = true) (hb : KBinds X.K fd ps ks g gV) (hx : Passes CX X E)
    (hkw : PK X kws tk) (hall : (backToKw pos (keywordEach kws X.env)).all (·.1.isSome) = true := by rfl) (hks : (backToKw pos (keywordEach kws X.env)).filterMap (·.1) = ks := by rfl)
    (hdb : (x == ("__debug__" : Str)) = false := by decide)
    (hpl : ((backTo pos (starEach [] X.env)).any (·.1) || (backToKw pos (keywordEach kws X.env)).any (·.1.isNone)) = false := by rfl) :
    PE X (.Call (.Name x p) [] kws pos) (tCallK sp gV E tNil tk) := by
  refine ⟨fun pins s σ H Q I h => ?_⟩
  refine wpAny_Call_Name_kw (ld_glob I hg hm ?_ hdb)
  refine PySem.W.callWith_KW0 (h₀ := X.base) I.ok.mod.kin hk hall (thn (hkw.run pos pins s σ H _ I h) fun ws s2 ⟨zs, H2, I2, rz, q2⟩ => ⟨I2.kIn, ?_⟩) hpl
  rw [hks]
  exact run_fnk F hr hb hx I2 .nil rz q2
end
/-! ### a def that stands, and one that keeps a promise -/
def Def (K : PySem.W.Frag) (mg : Str → Option Value) (x : Str) (st : Stmt) (ps : List Str) : Prop := ∃ (f : Addr) (fd : FuncData), Fun K x x st f fd ∧ mg x = some (.ref f) ∧ Binds K fd ps []
section
variable {P : Program} {w : World} {K : PySem.W.Frag} {mg : Str → Option Value} {base : Heap}
def Good (P : Program) (w : World) (K : PySem.W.Frag) (mg : Str → Option Value) (base : Heap) (x : Str) (st : Stmt) (ps : List Str) (k : Nat) (sp : Sp) : Prop := ∃ (f : Addr) (fd : FuncData), FnOk P w K mg base CX0 k f fd ps sp ∧ mg x = some (.ref f) ∧ PySem.W.keepIn K (.ref f) = true ∧ Binds K fd ps [] ∧ Fun K x x st f fd
theorem Def.good {x : Str} {st : Stmt} {ps : List Str} {k : Nat} {sp : Sp} (D : Def K mg x st ps) (h : ∀ f fd, Fun K x x st f fd → FnOk P w K mg base CX0 k f fd ps sp) : Good P w K mg base x st ps k sp := by
  obtain ⟨f, fd, F, m, b⟩ := D
  exact ⟨f, fd, h f fd F, m, F.kp, b, F⟩
theorem def_mk {h : Heap} (X : K.In h) (G : h.Ns mainGlobals mg) {x : Str} {st : Stmt} {ps : List Str} {f : Addr} {oc : Value} {od an : Option Addr} {osl : Array (Option Value)} {kV doc pm cdv ct : Value} (a : PySem.W.nsIn K mainGlobals x = some (some (.ref f)))
    (l : K.lookup f = some ⟨oc, od, .func (PySem.W.fnOf x x (defArgs st) (defBody st) (defScope st) .none kV doc pm an cdv ct), osl⟩) (c : PySem.W.codeIn K cdv x = true) (k : PySem.W.keepIn K (.ref f) = true)
    (hb : ∀ (kV doc pm : Value) (an : Option Addr) (cdv ct : Value) (us : List Value), us.length = ps.length → bindArgs (PySem.W.fnOf x x (defArgs st) (defBody st) (defScope st) .none kV doc pm an cdv ct) ⟨us, []⟩ = pure (ps.zip us)) : Def K mg x st ps :=
  ⟨f, _, fun_mk l c k, PySem.W.mg_of X G a, (fun_mk l c k).binds hb⟩
theorem fun_kbinds {x qual : Str} {st : Stmt} {f : Addr} {fd : FuncData} {ps ks : List Str} (F : Fun K x qual st f fd) (g : List Value → List Value → List Value) (gV : List V → List V → List V)
    (hrel : ∀ {vs : List V} {us : List Value} {zs : List V} {ws : List Value}, Vals vs us → Vals zs ws → Vals (gV vs zs) (g us ws))
    (h : ∀ (kV doc pm : Value) (an : Option Addr) (cdv ct : Value) (us ws : List Value), (g us ws).length = ps.length → bindArgs (PySem.W.fnOf x qual (defArgs st) (defBody st) (defScope st) .none kV doc pm an cdv ct) ⟨us, ks.zip ws⟩ = pure (ps.zip (g us ws))) : KBinds K fd ps ks g gV := by
  obtain ⟨oc, od, kV, doc, pm, an, cdv, ct, osl, rfl, lk, hcd⟩ := F.ex
  exact ⟨fun s us ws X hl => .of_eq (h kV doc pm an cdv ct us ws hl), hrel⟩
/-- two keywords, in the parameters' order, or turned; one -/
def g12 {α : Type} : List α → List α → List α | [], [a, b] => [a, b] | _, _ => []
def g21 {α : Type} : List α → List α → List α | [], [a, b] => [b, a] | _, _ => []
def g1 {α : Type} : List α → List α → List α | [], [a] => [a] | _, _ => []
theorem g12_inv {α : Type} {us ws : List α} (h : (g12 us ws).length = 2) : us = [] ∧ ∃ a b, ws = [a, b] := by
  match us, ws, h with
  | [], [a, b], _ => exact ⟨rfl, a, b, rfl⟩
  | [], [], h => exact absurd h (by simp [g12, g21, g1])
  | [], [_], h => exact absurd h (by simp [g12])
  | [], _ :: _ :: _ :: _, h => exact absurd h (by simp [g12])
  | _ :: _, _, h => exact absurd h (by simp [g12])
theorem g21_inv {α : Type} {us ws : List α} (h : (g21 us ws).length = 2) : us = [] ∧ ∃ a b, ws = [a, b] := by
  match us, ws, h with
  | [], [a, b], _ => exact ⟨rfl, a, b, rfl⟩
  | [], [], h => exact absurd h (by simp [g12, g21, g1])
  | [], [_], h => exact absurd h (by simp [g21])
  | [], _ :: _ :: _ :: _, h => exact absurd h (by simp [g21])
  | _ :: _, _, h => exact absurd h (by simp [g21])
theorem g1_inv {α : Type} {us ws : List α} (h : (g1 us ws).length = 1) : us = [] ∧ ∃ a, ws = [a] := by
  match us, ws, h with
  | [], [a], _ => exact ⟨rfl, a, rfl⟩
  | [], [], h => exact absurd h (by simp [g12, g21, g1])
  | [], _ :: _ :: _, h => exact absurd h (by simp [g1])
  | _ :: _, _, h => exact absurd h (by simp [g1])
theorem rel12 {vs : List V} {us : List Value} {zs : List V} {ws : List Value} (a : Vals vs us) (b : Vals zs ws) : Vals (g12 vs zs) (g12 us ws) := by
  cases a with
  | nil =>
    cases b with
    | nil => exact .nil
    | cons r b =>
      cases b with
      | nil => exact .nil
      | cons r2 b =>
        cases b with
        | nil => exact .cons r (.cons r2 .nil)
        | cons r3 b => exact .nil
  | cons r a => exact .nil
theorem rel21 {vs : List V} {us : List Value} {zs : List V} {ws : List Value} (a : Vals vs us) (b : Vals zs ws) : Vals (g21 vs zs) (g21 us ws) := by
  cases a with
  | nil =>
    cases b with
    | nil => exact .nil
    | cons r b =>
      cases b with
      | nil => exact .nil
      | cons r2 b =>
        cases b with
        | nil => exact .cons r2 (.cons r .nil)
        | cons r3 b => exact .nil
  | cons r a => exact .nil
theorem rel1 {vs : List V} {us : List Value} {zs : List V} {ws : List Value} (a : Vals vs us) (b : Vals zs ws) : Vals (g1 vs zs) (g1 us ws) := by
  cases a with
  | nil =>
    cases b with
    | nil => exact .nil
    | cons r b =>
      cases b with
      | nil => exact .cons r .nil
      | cons r3 b => exact .nil
  | cons r a => exact .nil
end
end My
namespace My
open PySem L2 PyProof.Rows
/-! ### methods, properties, __init__ of a class at C -/
section
variable {P : Program} {w : World} {K : PySem.W.Frag} {mg : Str → Option Value} {base : Heap} {C : Addr}
def DefM (K : PySem.W.Frag) (C : Addr) (x qual : Str) (st : Stmt) (ps : List Str) : Prop := ∃ (f : Addr) (fd : FuncData), Fun K x qual st f fd ∧ Meth K C x f ∧ Binds K fd ps []
def DefP (K : PySem.W.Frag) (C : Addr) (x qual : Str) (st : Stmt) (ps : List Str) : Prop := ∃ (p f : Addr) (fd : FuncData), Fun K x qual st f fd ∧ PropOf K C x p f ∧ Binds K fd ps []
def DefI (K : PySem.W.Frag) (C : Addr) (x qual : Str) (st : Stmt) (ps : List Str) : Prop := ∃ (f : Addr) (fd : FuncData), Fun K x qual st f fd ∧ Mk K C f ∧ Binds K fd ps []
def GoodM (P : Program) (w : World) (K : PySem.W.Frag) (mg : Str → Option Value) (base : Heap) (C : Addr) (x qual : Str) (st : Stmt) (ps : List Str) (k : Nat) (sp : Sp) : Prop := ∃ (f : Addr) (fd : FuncData), FnOk P w K mg base CX0 k f fd ps sp ∧ Meth K C x f ∧ Binds K fd ps [] ∧ Fun K x qual st f fd
def GoodP (P : Program) (w : World) (K : PySem.W.Frag) (mg : Str → Option Value) (base : Heap) (C : Addr) (x _qual : Str) (_st : Stmt) (ps : List Str) (k : Nat) (sp : Sp) : Prop := ∃ (p f : Addr) (fd : FuncData), FnOk P w K mg base CX0 k f fd ps sp ∧ PropOf K C x p f ∧ Binds K fd ps []
def GoodI (P : Program) (w : World) (K : PySem.W.Frag) (mg : Str → Option Value) (base : Heap) (C : Addr) (x _qual : Str) (_st : Stmt) (ps : List Str) (k : Nat) (sp : Sp) : Prop := ∃ (f : Addr) (fd : FuncData), FnOk P w K mg base CX0 k f fd ps sp ∧ Mk K C f ∧ Binds K fd ps []
theorem DefM.good {x qual : Str} {st : Stmt} {ps : List Str} {k : Nat} {sp : Sp} (D : DefM K C x qual st ps) (h : ∀ f fd, Fun K x qual st f fd → FnOk P w K mg base CX0 k f fd ps sp) : GoodM P w K mg base C x qual st ps k sp := by
  obtain ⟨f, fd, F, m, b⟩ := D
  exact ⟨f, fd, h f fd F, m, b, F⟩
theorem DefP.good {x qual : Str} {st : Stmt} {ps : List Str} {k : Nat} {sp : Sp} (D : DefP K C x qual st ps) (h : ∀ f fd, Fun K x qual st f fd → FnOk P w K mg base CX0 k f fd ps sp) : GoodP P w K mg base C x qual st ps k sp := by
  obtain ⟨p, f, fd, F, m, b⟩ := D
  exact ⟨p, f, fd, h f fd F, m, b⟩
theorem DefI.good {x qual : Str} {st : Stmt} {ps : List Str} {k : Nat} {sp : Sp} (D : DefI K C x qual st ps) (h : ∀ f fd, Fun K x qual st f fd → FnOk P w K mg base CX0 k f fd ps sp) : GoodI P w K mg base C x qual st ps k sp := by
  obtain ⟨f, fd, F, m, b⟩ := D
  exact ⟨f, fd, h f fd F, m, b⟩
end
def g123 {α : Type} : List α → List α → List α | [], [a, b, c] => [a, b, c] | _, _ => []
theorem g123_inv {α : Type} {us ws : List α} (h : (g123 us ws).length = 3) : us = [] ∧ ∃ a b c, ws = [a, b, c] := by
  unfold g123 at h
  split at h
  · exact ⟨rfl, _, _, _, rfl⟩
  · simp at h
theorem rel123 {vs : List V} {us : List Value} {zs : List V} {ws : List Value} (a : Vals vs us) (b : Vals zs ws) : Vals (g123 vs zs) (g123 us ws) := by
  cases a with
  | cons h t => exact .nil
  | nil => cases b with
    | nil => exact .nil
    | cons h1 t => cases t with
      | nil => exact .nil
      | cons h2 t => cases t with
        | nil => exact .nil
        | cons h3 t => cases t with
          | nil => exact .cons h1 (.cons h2 (.cons h3 .nil))
          | cons h4 t => exact .nil
/-- self, then one keyword -/
def gm1 {α : Type} : List α → List α → List α | [a], [b] => [a, b] | _, _ => []
theorem gm1_inv {α : Type} {us ws : List α} (h : (gm1 us ws).length = 2) : ∃ a b, us = [a] ∧ ws = [b] := by
  unfold gm1 at h
  split at h
  · exact ⟨_, _, rfl, rfl⟩
  · simp at h
theorem relm1 {vs : List V} {us : List Value} {zs : List V} {ws : List Value} (a : Vals vs us) (b : Vals zs ws) : Vals (gm1 vs zs) (gm1 us ws) := by
  cases a with
  | nil => exact .nil
  | cons h t => cases t with
    | cons h2 t => exact .nil
    | nil => cases b with
      | nil => exact .nil
      | cons h1 t => cases t with
        | nil => exact .cons h (.cons h1 .nil)
        | cons h2 t => exact .nil
/-! ### a list or a tuple, gone through -/
section
variable {X : Cx}
theorem pi_or {tg e : Expr} {w1 w2 : TI} (h1 : PI X tg e w1) (h2 : PI X tg e w2) : PI X tg e (fun σ H R => w1 σ H R ∨ w2 σ H R) := by
  constructor
  intro pins s σ H R I h
  rcases h with h | h
  · exact h1.run pins s σ H R I h
  · exact h2.run pins s σ H R I h
end
end My
namespace My
open PySem PySem.W L2 L2.DX PyProof.Rows
/-! ### d.items() of a dict by texts, sorted -/
section
variable {X : Cx}
def rItemsK : V → List V → Hp → VK → Prop := fun x xs H Q => ∃ (a : Addr) (kvs : List (Key × V)), x = .ref a ∧ xs = [] ∧ H a = some (.dK kvs) ∧ ∀ p, H p = none → Q (.ref p) (upd H p (itemsO p a))
theorem mt_itemsK : MtR X "dict.items" rItemsK := by
  intro pins s σ H x xs v us Q I rx rxs h
  obtain ⟨d, kvs, rfl, rfl, hd0, q⟩ := h
  cases rx
  cases rxs
  obtain ⟨_, hd, vs, rel, dof⟩ := dk_of I.hok hd0
  obtain ⟨es, ep, raw, _, _⟩ := PySem.Heap.DictOf.raw dof
  exact DT.callItems (es := es) (ep := ep) hd raw ⟨.ref s.heap.objs.size, upd H s.heap.objs.size (itemsO s.heap.objs.size d), I.laid (t' := s.toks) (fun b u e => Heap.get?_push_of_some _ e) (Nat.le_refl _) (itemsO_ok (Heap.get?_push_size _ rfl)), rfl, q _ (I.hok.fresh (Nat.le_refl _))⟩
/-- an entry: a text and a number -/
abbrev entSI (e : Str × Int) : Key × V := (Sum.inr e.1, .int e.2)
abbrev encSI (e : Str × Int) : PyData := .tuple [.str e.1, .int e.2]
theorem kv_at : ∀ {kvs : List (Key × V)} {vs : List (Key × Value)}, KV kvs vs → ∀ {j : Nat} {p : Key × V}, kvs[j]? = some p → ∃ q, vs[j]? = some q ∧ p.1 = q.1 ∧ RelV p.2 q.2
  | _, _, .nil, _, _, h => by simp at h
  | _, _, .cons r _, 0, _, h => by
    cases h
    exact ⟨_, rfl, r⟩
  | _, _, .cons _ t, j + 1, p, h => by
    obtain ⟨q, h1, h2⟩ := kv_at t (j := j) (by simpa using h)
    exact ⟨q, by simpa using h1, h2⟩
theorem eachIs_of {α β : Type} {R : α → β → Prop} : ∀ {as : List α} {bs : List β}, as.length = bs.length → (∀ (j : Nat) (a : α) (b : β), as[j]? = some a → bs[j]? = some b → R a b) → PySem.W.EachIs R as bs
  | [], [], _, _ => .nil
  | [], _ :: _, h, _ => by simp at h
  | _ :: _, [], h, _ => by simp at h
  | a :: as, b :: bs, h, k => .cons (k 0 a b rfl rfl) (eachIs_of (by simpa using h) fun j x y hx hy => k (j + 1) x y (by simpa using hx) (by simpa using hy))
theorem encSI_alike (kvs : List (Str × Int)) : AllAlike (kvs.map encSI) := by
  intro d hd d' hd'
  obtain ⟨e, _, rfl⟩ := List.mem_map.mp hd
  obtain ⟨e', _, rfl⟩ := List.mem_map.mp hd'
  rfl
theorem encSI_sortable (kvs : List (Str × Int)) : Sortable (kvs.map encSI) := .tuples fun b => ⟨_, _, rfl⟩
theorem eachIs_refs {β : Type} {as : List Addr} {bs : List β} : ∀ {out : List Value} {cs : List β}, PySem.W.EachIs (fun v b => ∃ (j : Nat) (x : Addr), v = Value.ref x ∧ as[j]? = some x ∧ bs[j]? = some b) out cs →
    ∃ ts : List Addr, out = ts.map Value.ref ∧ Paired (fun (x : Addr) (b : β) => ∃ j : Nat, as[j]? = some x ∧ bs[j]? = some b) ts cs
  | _, _, .nil => ⟨[], rfl, .nil⟩
  | _, _, .cons h t => by
    obtain ⟨j, x, rfl, h1, h2⟩ := h
    obtain ⟨ts, rfl, hp⟩ := eachIs_refs t
    exact ⟨x :: ts, rfl, .cons ⟨j, h1, h2⟩ hp⟩
theorem paired_imp {α β : Type} {F G : α → β → Prop} (h : ∀ a b, F a b → G a b) : ∀ {l1 : List α} {l2 : List β}, Paired F l1 l2 → Paired G l1 l2
  | _, _, .nil => .nil
  | _, _, .cons a r => .cons (h _ _ a) (paired_imp h r)
theorem vals_refs : ∀ ts : List Addr, Vals (ts.map V.ref) (ts.map Value.ref)
  | [] => .nil
  | _ :: r => .cons rfl (vals_refs r)
/-- the told list is new, its pairs too -/
def rSortItK : List V → Hp → VK → Prop := fun vs H Q => ∃ (p a : Addr) (kvs : List (Str × Int)), vs = [.ref p] ∧ H p = some (itemsO p a) ∧ H a = some (.dK (kvs.map entSI)) ∧ kvs.length ≤ 100000 ∧
  ∀ (H' : Hp) (l : Addr) (ts : List Addr), (∀ b o, H b = some o → H' b = some o) → H l = none → H' l = some (.lst (ts.map V.ref)) → Paired (fun t (e : Str × Int) => H' t = some (.tup [.str e.1, .int e.2])) ts (kvs.mergeSort (dataLe false encSI)) → Q (.ref l) H'
theorem cr_sortItK (hc : X.calm = true) (hu : X.A.units + 64 < cLine) : CallR X (.builtin "sorted") rSortItK := by
  intro pins s σ H xs us Q I r h
  obtain ⟨p, a, kvs, rfl, hp, ha, hlen, q⟩ := h
  obtain rfl := Vals.ref1 r
  have vw : s.heap.IsItemsView p a := by
    have z : ObjOk X.prog X.w H s.heap p (itemsO p a) := I.hok p _ hp
    exact z.1
  obtain ⟨_, hd, vs, rel, dof⟩ := dk_of I.hok ha
  obtain ⟨es, ep, raw, hsz, hent⟩ := PySem.Heap.DictOf.raw dof
  have l1 : vs.length = kvs.length := by
    have := Paired.length rel
    rw [List.length_map] at this
    exact this.symm
  have small : kvs.length ≤ sizeLine := Nat.le_trans hlen (by decide)
  refine DT.sortedI (es := es) (ep := ep) (I.ok.hd hc) vw raw (by rw [hsz, l1]; exact small) fun h' tk as kpt hlt hl mde => ?_
  have lak : as.length = kvs.length := by rw [hl, hsz, l1]
  have nod : as.Nodup := List.Pairwise.imp (fun h => Nat.ne_of_lt h) mde.rise
  have pr : ∀ (j : Nat) (b : Addr), as[j]? = some b → ∃ (e : Str × Int) (t t' : Tok), kvs[j]? = some e ∧ h'.get? b = some { cls := .type "tuple", data := .seq #[Value.str e.1 t, Value.int e.2 t'] } := fun j b ej => by
    obtain ⟨en, ee, gh⟩ := mde.pairs j b ej
    have hj2 : j < es.size := (Array.getElem?_eq_some_iff.mp ee).1
    have hj3 : j < kvs.length := by rw [← l1, ← hsz]; exact hj2
    obtain ⟨⟨k, v⟩, g1, g2, g3⟩ := kv_at rel (j := j) (p := entSI kvs[j]) (by rw [List.getElem?_map, List.getElem?_eq_getElem hj3]; rfl)
    obtain ⟨m1, m2⟩ := hent j hj2 k v g1
    have e1 : es[j] = en := (Array.getElem?_eq_some_iff.mp ee).2
    rw [e1] at m1 m2
    have g2' : k = Sum.inr kvs[j].1 := g2.symm
    subst g2'
    obtain ⟨t', ev⟩ : ∃ t', v = Value.int kvs[j].2 t' := g3
    rcases keyIs_shape (show keyIs (Sum.inr kvs[j].1) en.key = true from m1) with ⟨i, t, z, _⟩ | ⟨x, t, z, ek⟩
    · cases z
    · have ex : kvs[j].1 = x := Sum.inr.inj z
      refine ⟨kvs[j], t, t', List.getElem?_eq_getElem hj3, ?_⟩
      rw [gh, ek, m2, ev, ex]
  have gl : (h'.push { cls := .type "list", data := .seq (as.map Value.ref).toArray }).get? h'.objs.size = some (seqObj "list" (as.map Value.ref).toArray 0) := Heap.get?_push_size _ rfl
  have far : ∀ b o, h'.get? b = some o → b ≠ h'.objs.size := fun b o e => Nat.ne_of_lt (Heap.lt_size e)
  have kp : ∀ b o, h'.get? b = some o → (h'.push { cls := .type "list", data := .seq (as.map Value.ref).toArray }).get? b = some o := fun b o e => Heap.get?_push_of_some _ e
  generalize h'.push { cls := .type "list", data := .seq (as.map Value.ref).toArray } = h2 at gl kp ⊢
  have at_ : ∀ (j : Nat) (v : Value) (e : Str × Int), (as.map Value.ref)[j]? = some v → kvs[j]? = some e → ∃ b, v = .ref b ∧ as[j]? = some b := fun j v e hv _ => by
    rw [List.getElem?_map] at hv
    cases z : as[j]? with
    | none => rw [z] at hv; cases hv
    | some b => rw [z] at hv; exact ⟨b, (Option.some.inj hv).symm, rfl⟩
  refine list_sort_data (s := { s with heap := h2, toks := tk }) (R := fun v e => ∃ (j : Nat) (x : Addr), v = Value.ref x ∧ as[j]? = some x ∧ kvs[j]? = some e) (enc := encSI) (bs := kvs) gl (eachIs_of (by rw [List.length_map]; exact lak) fun j v e hv ee => ?_) (eachIs_of (by rw [List.length_map]; exact lak) fun j v e hv ee => ?_) (encSI_alike kvs) (encSI_sortable kvs) small (fun b _ => ?_) fun out ho1 ho2 => ?_
  · obtain ⟨b, e1, e2⟩ := at_ j v e hv ee
    exact ⟨j, b, e1, e2, ee⟩
  · obtain ⟨b, rfl, e2⟩ := at_ j v e hv ee
    obtain ⟨e', t, t', g1, g2⟩ := pr j b e2
    rw [ee] at g1
    cases g1
    exact ⟨[] ++ ([] ++ []), .tuple (kp _ _ g2) rfl rfl (.cons (.str _ _) (.cons (.int _ _) .nil)), by simp⟩
  · show X.A.units + 1 + 1 + 1 < cLine
    omega
  obtain ⟨ts, rfl, hts⟩ := eachIs_refs ho2
  show EP X pins σ Q (.ref h'.objs.size) { s with heap := sortedHeap h2 h'.objs.size (as.map Value.ref) (ts.map Value.ref).toArray, toks := tk }
  have kF : ∀ b o, b ≠ h'.objs.size → h2.get? b = some o → (sortedHeap h2 h'.objs.size (as.map Value.ref) (ts.map Value.ref).toArray).get? b = some o := fun b o hb e => (PyProof.Rows.sortedHeap_old hb (Heap.lt_size e)).trans e
  have kS : ∀ b o, s.heap.get? b = some o → (sortedHeap h2 h'.objs.size (as.map Value.ref) (ts.map Value.ref).toArray).get? b = some o := fun b o e => kF b o (far _ _ (kpt b o e)) (kp b o (kpt b o e))
  obtain ⟨eF, heF⟩ := PyProof.Rows.sortedHeap_at (vs := as.map Value.ref) (out := (ts.map Value.ref).toArray) gl
  generalize sortedHeap h2 h'.objs.size (as.map Value.ref) (ts.map Value.ref).toArray = hz at kF kS heF ⊢
  have free0 : H h'.objs.size = none := I.hok.fresh (Nat.le_of_lt hlt)
  have htl : (ts.map V.ref).length ≤ sizeLine := by
    rw [List.length_map] at ho1 ⊢
    rw [ho1]
    exact small
  have I2 : Inv X pins σ (upd H h'.objs.size (.lst (ts.map V.ref))) { s with heap := hz, toks := tk } :=
    (I.kept (t' := tk) kS).take (h' := hz) (t' := tk) (fun b ob _ e => e) (I.fpOk (Nat.le_of_lt hlt) free0) ⟨htl, ts.map Value.ref, eF, vals_refs ts, heF⟩
  obtain ⟨H2, I3, g, qt⟩ := takeT (P := fun b vs => ∃ (j : Nat) (e : Str × Int), as[j]? = some b ∧ kvs[j]? = some e ∧ vs = [.str e.1, .int e.2]) I as _ I2 nod fun b hb => by
    obtain ⟨j, ej⟩ := List.mem_iff_getElem?.mp hb
    obtain ⟨e, t, t', ee, gh⟩ := pr j b ej
    have big : s.heap.objs.size ≤ b := Nat.le_of_lt (mde.above b hb)
    refine ⟨big, by rw [upd_ne (far _ _ gh)]; exact I.hok.fresh big, [.str e.1, .int e.2], ⟨j, e, ej, ee, rfl⟩, fun H3 => ⟨(by show 2 ≤ sizeLine; decide), [Value.str e.1 t, Value.int e.2 t'], .cons ⟨t, rfl⟩ (.cons ⟨t', rfl⟩ .nil), ⟨_, kF _ _ (far _ _ gh) (kp _ _ gh), rfl, 0, rfl⟩⟩⟩
  refine ⟨.ref h'.objs.size, H2, I3, rfl, q H2 h'.objs.size ts (fun b o e => g b o (by rw [upd_ne (ne_of_none e free0)]; exact e)) free0 (g _ _ upd_same) (paired_imp (fun x e hx => ?_) hts)⟩
  obtain ⟨i, i1, i2⟩ := hx
  obtain ⟨vs', ⟨j, e', j1, j2, ev⟩, hH⟩ := qt x (List.mem_of_getElem? i1)
  have eqi : i = j := (List.getElem?_inj (List.getElem?_eq_some_iff.mp i1).1 nod).mp (i1.trans j1.symm)
  subst eqi
  rw [i2] at j2
  cases j2
  rw [ev] at hH
  exact hH
end
end My
namespace My
open PySem PySem.W L2 L2.DX PyProof.Rows
section
variable {X : Cx}
theorem dp_at {K : PySem.W.Frag} {H : Hp} : ∀ {ys : List V} {ds : List PyData}, DpAll K H ys ds → ∀ {j : Nat} {y : V} {d : PyData}, ys[j]? = some y → ds[j]? = some d → Dp K H y d
  | _, _, .nil, _, _, _, h, _ => by simp at h
  | _, _, .cons p _, 0, _, _, h, k => by
    cases h
    cases k
    exact p
  | _, _, .cons _ t, j + 1, _, _, h, k => dp_at t (j := j) (by simpa using h) (by simpa using k)
theorem dp_len {K : PySem.W.Frag} {H : Hp} : ∀ {ys : List V} {ds : List PyData}, DpAll K H ys ds → ys.length = ds.length
  | _, _, .nil => rfl
  | _, _, .cons _ t => congrArg Nat.succ (dp_len t)
theorem vals_at : ∀ {ys : List V} {us : List Value}, Vals ys us → ∀ {j : Nat} {u : Value}, us[j]? = some u → ∃ y, ys[j]? = some y ∧ RelV y u
  | _, _, .nil, _, _, h => by simp at h
  | _, _, .cons r _, 0, _, h => by
    cases h
    exact ⟨_, rfl, r⟩
  | _, _, .cons _ t, j + 1, _, h => by
    obtain ⟨y, h1, h2⟩ := vals_at t (j := j) (by simpa using h)
    exact ⟨y, by simpa using h1, h2⟩
theorem out_vals {ys : List V} {ds : List PyData} : ∀ {out : List Value} {cs : List PyData}, PySem.W.EachIs (fun v d => ∃ (j : Nat) (y : V), ys[j]? = some y ∧ ds[j]? = some d ∧ RelV y v) out cs →
    ∃ zs : List V, Vals zs out ∧ Paired (fun (z : V) (d : PyData) => ∃ j : Nat, ys[j]? = some z ∧ ds[j]? = some d) zs cs
  | _, _, .nil => ⟨[], .nil, .nil⟩
  | _, _, .cons h t => by
    obtain ⟨j, y, h1, h2, h3⟩ := h
    obtain ⟨zs, g1, g2⟩ := out_vals t
    exact ⟨y :: zs, .cons h3 g1, .cons ⟨j, h1, h2⟩ g2⟩
theorem vals_len : ∀ {ys : List V} {us : List Value}, Vals ys us → ys.length = us.length
  | _, _, .nil => rfl
  | _, _, .cons _ t => congrArg Nat.succ (vals_len t)
/-- sorted(xs), data of one shape: the items are set in sequence by what they are -/
def rSortD (K : PySem.W.Frag) : List V → Hp → VK → Prop := fun vs H Q => ∃ (a : Addr) (ys : List V) (ds : List PyData), vs = [.ref a] ∧ SqL K H a ys ∧ DpAll K H ys ds ∧ AllAlike ds ∧ Sortable ds ∧ (∀ d ∈ ds, d.depth ≤ 8) ∧ ys.length ≤ 100000 ∧
  ∀ (zs : List V) (p : Addr), Paired (fun (z : V) (d : PyData) => ∃ j : Nat, ys[j]? = some z ∧ ds[j]? = some d) zs (ds.mergeSort (dataLe false id)) → H p = none → Q (.ref p) (upd H p (.lst zs))
theorem cr_sortD (hu : X.A.units + 64 < cLine) : CallR X (.builtin "sorted") (rSortD X.K) := by
  intro pins s σ H xs us Q I r h
  obtain ⟨a, ys, ds, rfl, hs, hd, hal, hk, hdp, hlen, q⟩ := h
  obtain rfl := Vals.ref1 r
  obtain ⟨its, rv, pl, _⟩ := I.list hs
  have li : its.length = ds.length := by rw [← vals_len rv]; exact dp_len hd
  have small : ds.length ≤ sizeLine := by rw [← dp_len hd]; exact Nat.le_trans hlen (by decide)
  refine sorted_data (R := fun v d => ∃ (j : Nat) (y : V), ys[j]? = some y ∧ ds[j]? = some d ∧ RelV y v) (enc := id) (bs := ds) pl.isList (eachIs_of li fun j v d hv he => ?_) (eachIs_of li fun j v d hv he => ?_) (by rw [List.map_id]; exact hal) (by rw [List.map_id]; exact hk) small (fun d hdm => ?_) fun out ho1 ho2 => ?_
  · obtain ⟨y, g1, g2⟩ := vals_at rv hv
    exact ⟨j, y, g1, he, g2⟩
  · obtain ⟨y, g1, g2⟩ := vals_at rv hv
    exact Dp.reads I d y v (dp_at hd g1 he) g2
  · have := hdp d hdm
    show X.A.units + 2 + d.depth < cLine
    omega
  obtain ⟨zs, hz, hp⟩ := out_vals ho2
  obtain ⟨eF, heF⟩ := PyProof.Rows.sortedAll_at s.heap its out.toArray
  have hzl : zs.length ≤ sizeLine := by rw [vals_len hz, ho1]; exact small
  exact ⟨.ref (s.heap.objs.size + 1), upd H (s.heap.objs.size + 1) (.lst zs), I.laid (t' := s.toks) (fun _ _ => PyProof.Rows.sortedAll_old) (Nat.le_succ _) ⟨hzl, out, eF, hz, heF⟩, rfl, q zs _ hp (I.hok.fresh (Nat.le_succ _))⟩
end
end My
namespace My
open PySem L2 PyProof.Rows
/-! ### == by an own __eq__, whatever it answers -/
section
variable {X : Cx}
theorem op_eqOwn {CX : CXT} {k : Nat} {C f : Addr} {fd : FuncData} {ps : List Str} {sp : Sp} {E : XK} (F : FnOk X.prog X.w X.K X.mg X.base CX k f fd ps sp) (hr : Room k X.A)
    (hs : PySem.W.findIn X.K (.ref C) "__eq__" = some (some (.ref f))) (hf : PySem.W.isFn X.K (.ref f) = true) (hb : Binds X.K fd ps []) (hx : Passes CX X E) :
    OpR X (compareOp .Eq) (fun x y H Q => ∃ a b dx dy fs gs, x = .ref a ∧ y = .ref b ∧ H a = some (.ins C dx fs) ∧ H b = some (.ins C dy gs) ∧ sp [x, y] H (fun v H' => ∃ c, v = .bl c ∧ Q (.bl c) H') E) := by
  intro pins s σ H x y v u Q I rx ry h
  obtain ⟨a, b, dx, dy, fs, gs, rfl, rfl, ha, hb', hsp⟩ := h
  cases rx
  cases ry
  show wpAny (model X.prog X.w) X.A (richCompare .Eq (.ref a) (.ref b)) (EP X pins σ Q) X.xe s
  obtain ⟨_, J, _⟩ := ins_get I.hok ha
  obtain ⟨_, J', _⟩ := ins_get I.hok hb'
  obtain ⟨_, J, _⟩ := J.look
  obtain ⟨_, J', _⟩ := J'.look
  obtain ⟨m, hF⟩ := I.fr
  refine PySem.W.cmp_K (op := .Eq) (tb := .ref C) hr.units0 hF I.ok.mod.kin J J'.type (by simp [PySem.W.notFirst]) hs hf ?_
  have vals : Vals [V.ref a, V.ref b] [Value.ref a, Value.ref b] := .cons rfl (.cons rfl .nil)
  have e0 : Env0 X.prog X.w X.K X.mg X.base X.A X.stack s H := I.env0
  have hl := F.len _ _ _ _ hsp
  refine wpAny_call (codeAny_mono (F.run X.A X.stack s H ⟨[.ref a, .ref b], []⟩ [.ref a, .ref b] [.ref a, .ref b] _ E hr e0 (by
    have bd := hb s [.ref a, .ref b] I.kIn (by simpa using hl)
    simpa using bd) vals hsp) fun r s' hq => ?_)
  cases r with
  | error e => exact hx pins σ H s e s' I hq
  | ok fl =>
    cases fl with
    | ret w =>
      obtain ⟨z, H', I', rz, c, ez, qz⟩ := I.after hq
      subst ez
      cases rz
      exact ⟨.bl c, H', I', rfl, qz⟩
    | next => exact False.elim hq
    | brk => exact False.elim hq
    | cont => exact False.elim hq
end
end My
namespace My
open PySem L2 PyProof.Rows PySem.W
/-! ### != of instances with an own __eq__ and the object's __ne__ -/
section
variable {prog : Program} {w : World} {A : Around} {E : Value → Shared → Prop} {s : Shared} {K : PySem.W.Frag} {x y C L f : Addr} {h₀ : Heap} {m : Str → Option Value} {ox : Obj} {od : Option Obj}
theorem check_ne {Q : Unit → Shared → Prop} (X : K.In s.heap) (I : PySem.W.InstAt s.heap x ox C od) (hm : PySem.W.mroIn K C (.type "object") = some true) (hq : Q () s) :
    wpAny (model prog w) A (checkBuiltinCall "object.__ne__" ⟨[.ref x, .ref y], []⟩) Q E s := by
  have L1 := PySem.W.looks_mroIn (M := model prog w) X hm
  simp only [checkBuiltinCall, F.cmpKind_ne, F.cmpSplit_ne]
  refine wpAny_bind ?_
  unfold isInstance
  refine wpAny_bind (I.type.here (L1.here ?_))
  simp only [Bool.not_true, Bool.false_eq_true, if_false]
  exact wpAny_pure hq
theorem entry_ne {Q : Fin → Shared → Prop} (hu : A.units < cLine) (X : K.In s.heap) (I : PySem.W.InstAt s.heap x ox C od) (hs : PySem.W.findIn K (.ref C) "__eq__" = some (some (.ref f))) (hf : PySem.W.isFn K (.ref f) = true)
    (hcall : wpAny (model prog w) A (call (.ref f) [.ref x, .ref y]) (fun v s' => ∃ b, v = .bool b ∧ Q (.done (.ret (.bool (!b)))) s') E s) :
    wpAny (model prog w) A (Builtin.«object.__ne__» ⟨[.ref x, .ref y], []⟩) Q E s := by
  unfold Builtin.«object.__ne__»
  repeat (first
    | with_reducible refine wpAny_cRoomFor hu ?_
    | (refine wpAny_bind (m := callSpecialIfBound? (.ref x) (Str.ofString "__eq__") [.ref y])
        (PySem.W.ifBound_K X I hs hf (wpAny_mono hcall (fun r s' hr => by
          obtain ⟨b, rfl, hq⟩ := hr
          repeat (first | exact hq | exact wpAny_pure hq | exact wpAny_truthy_bool hq | (refine wpAny_bind (m := truthy (.bool _)) (wpAny_truthy_bool ?_)) | wp_step)) fun _ _ e => e)))
    | wp_step)
theorem try_ne {Q : Option Value → Shared → Prop} (hu : A.units + 1 < cLine) (X : K.In s.heap) (I : PySem.W.InstAt s.heap x ox C od) (hm : PySem.W.mroIn K C (.type "object") = some true) (hn : PySem.W.findIn K (.ref C) "__ne__" = some (some (.builtin "object.__ne__")))
    (hs : PySem.W.findIn K (.ref C) "__eq__" = some (some (.ref f))) (hf : PySem.W.isFn K (.ref f) = true)
    (hcall : wpAny (model prog w) A.in1 (call (.ref f) [.ref x, .ref y]) (fun v s' => ∃ b, v = .bool b ∧ Q (some (.bool (!b))) s') E s) :
    wpAny (model prog w) A (tryCompare (.ref x) "__ne__" (.ref y)) Q E s := by
  have S := F.cmp_object.ne
  have one : wpAny (model prog w) A (callSpecialIfBound? (.ref x) "__ne__" [.ref y]) (fun r s' => ∃ b, r = some (.bool b) ∧ Q (some (.bool b)) s') E s := by
    simp only [callSpecialIfBound?, bindSpecialIfBound?]
    refine wpAny_holding (wpAny_bind (wpAny_bind (wpAny_bind (I.type.here ((PySem.W.looks_findIn X hn).here ?_)))))
    simp only [S.bind]
    refine wpAny_bind (wpAny_askSetting (wpAny_ite ?_))
    have fin : wpAny (model prog w) A (call (.builtin "object.__ne__") ([.ref x] ++ [.ref y]) >>= fun v => pure (some v)) (fun r s' => ∃ b, r = some (.bool b) ∧ Q (some (.bool b)) s') E s := by
      refine wpAny_bind (wpAny_call (codeAny_call_builtin S.plain F.cmpEntry_ne (check_ne X I hm (entry_ne (A := A.in1) hu X I hs hf (wpAny_mono hcall (fun v s' hv => ?_) fun _ _ e => e)))))
      obtain ⟨b, rfl, hq⟩ := hv
      exact ⟨b, rfl, wpAny_pure ⟨_, rfl, hq⟩⟩
    split
    · exact wpAny_bind (wpAny_pure (wpAny_pure fin))
    · exact wpAny_tryCatch (wpAny_bind (wpAny_pure (wpAny_pure fin)))
  unfold tryCompare
  refine wpAny_bind (wpAny_mono one (fun v s' hv => ?_) fun _ _ e => e)
  obtain ⟨b, rfl, hq⟩ := hv
  exact wpAny_pure hq
theorem ne_own {Q : Value → Shared → Prop} {oy : Obj} {odY : Option Obj} (hu : A.units + 1 < cLine) (X : K.In s.heap) (I : PySem.W.InstAt s.heap x ox C od) (J : PySem.W.InstAt s.heap y oy C odY) (hm : PySem.W.mroIn K C (.type "object") = some true) (hn : PySem.W.findIn K (.ref C) "__ne__" = some (some (.builtin "object.__ne__")))
    (hs : PySem.W.findIn K (.ref C) "__eq__" = some (some (.ref f))) (hf : PySem.W.isFn K (.ref f) = true)
    (hcall : wpAny (model prog w) A.in1 (call (.ref f) [.ref x, .ref y]) (fun v s' => ∃ b, v = .bool b ∧ Q (.bool (!b)) s') E s) :
    wpAny (model prog w) A (richCompare .NotEq (.ref x) (.ref y)) Q E s := by
  unfold richCompare
  simp only [oneThing_ref]
  refine wpAny_holding ?_
  refine wpAny_bind (wpAny_cRoomFor (Nat.lt_of_succ_lt hu) ?_)
  rw [cmpInfo_NotEq]
  dsimp only
  refine wpAny_bind (I.type.here (wpAny_bind (J.type.here ?_)))
  rw [show (Value.ref C != Value.ref C) = false from by simp]
  simp only [Bool.false_eq_true, if_false]
  refine wpAny_bind (wpAny_pure ?_)
  simp only [Bool.false_eq_true, if_false]
  refine wpAny_bind (try_ne hu X I hm hn hs hf (wpAny_mono hcall (fun v s' hv => ?_) fun _ _ e => e))
  obtain ⟨b, rfl, hq⟩ := hv
  exact ⟨b, rfl, wpAny_pure hq⟩
end
section
variable {X : Cx}
theorem op_neOwn {CX : CXT} {k : Nat} {C f : Addr} {fd : FuncData} {ps : List Str} {sp : Sp} {E : XK} (F : FnOk X.prog X.w X.K X.mg X.base CX k f fd ps sp) (hr : Room (k + 1) X.A) (hm : PySem.W.mroIn X.K C (.type "object") = some true) (hn : PySem.W.findIn X.K (.ref C) "__ne__" = some (some (.builtin "object.__ne__")))
    (hs : PySem.W.findIn X.K (.ref C) "__eq__" = some (some (.ref f))) (hf : PySem.W.isFn X.K (.ref f) = true) (hb : Binds X.K fd ps []) (hx : Passes CX X E) :
    OpR X (compareOp .NotEq) (fun x y H Q => ∃ a b dx dy fs gs, x = .ref a ∧ y = .ref b ∧ H a = some (.ins C dx fs) ∧ H b = some (.ins C dy gs) ∧ sp [x, y] H (fun v H' => ∃ c, v = .bl c ∧ Q (.bl (!c)) H') E) := by
  intro pins s σ H x y v u Q I rx ry h
  obtain ⟨a, b, dx, dy, fs, gs, rfl, rfl, ha, hb', hsp⟩ := h
  cases rx
  cases ry
  show wpAny (model X.prog X.w) X.A (richCompare .NotEq (.ref a) (.ref b)) (EP X pins σ Q) X.xe s
  obtain ⟨_, J, _⟩ := ins_get I.hok ha
  obtain ⟨_, J', _⟩ := ins_get I.hok hb'
  obtain ⟨_, J, _⟩ := J.look
  obtain ⟨_, J', _⟩ := J'.look
  have hu : X.A.units + 1 < cLine := hu_of hr
  refine ne_own hu I.kIn J J' hm hn hs hf ?_
  have vals : Vals [V.ref a, V.ref b] [Value.ref a, Value.ref b] := .cons rfl (.cons rfl .nil)
  have e0 : Env0 X.prog X.w X.K X.mg X.base X.A.in1 X.stack s H := I.env0.in1
  have hl := F.len _ _ _ _ hsp
  refine wpAny_call (codeAny_mono (F.run X.A.in1 X.stack s H ⟨[.ref a, .ref b], []⟩ [.ref a, .ref b] [.ref a, .ref b] _ E hr.in1 e0 (by
    have bd := hb s [.ref a, .ref b] I.kIn (by simpa using hl)
    simpa using bd) vals hsp) fun r s' hq => ?_)
  cases r with
  | error e => exact hx pins σ H s e s' I hq
  | ok fl =>
    cases fl with
    | ret w =>
      obtain ⟨z, H', I', rz, c, ez, qz⟩ := I.after hq
      subst ez
      cases rz
      exact ⟨c, rfl, .bl (!c), H', I', rfl, qz⟩
    | next => exact False.elim hq
    | brk => exact False.elim hq
    | cont => exact False.elim hq
/-- == of an instance with an own __eq__ and a dict -/
theorem op_eqDict {CX : CXT} {k : Nat} {C f : Addr} {fd : FuncData} {ps : List Str} {sp : Sp} {E : XK} (F : FnOk X.prog X.w X.K X.mg X.base CX k f fd ps sp) (hr : Room k X.A)
    (hs : PySem.W.findIn X.K (.ref C) "__eq__" = some (some (.ref f))) (hf : PySem.W.isFn X.K (.ref f) = true) (hnf : PySem.W.notFirst X.K C (.type "dict") = true) (hb : Binds X.K fd ps []) (hx : Passes CX X E) :
    OpR X (compareOp .Eq) (fun x y H Q => ∃ a d dx fs kvs, x = .ref a ∧ y = .ref d ∧ H a = some (.ins C dx fs) ∧ H d = some (.dK kvs) ∧ sp [x, y] H (fun v H' => ∃ c, v = .bl c ∧ Q (.bl c) H') E) := by
  intro pins s σ H x y v u Q I rx ry h
  obtain ⟨a, b, dx, fs, kvs, rfl, rfl, ha, hb', hsp⟩ := h
  cases rx
  cases ry
  show wpAny (model X.prog X.w) X.A (richCompare .Eq (.ref a) (.ref b)) (EP X pins σ Q) X.xe s
  obtain ⟨_, J, _⟩ := ins_get I.hok ha
  obtain ⟨_, J, _⟩ := J.look
  obtain ⟨_, _, _, _, ob, es, ep, e, ⟨hcls, _⟩, _⟩ := (show ObjOk X.prog X.w H s.heap b (.dK kvs) from I.hok b _ hb')
  have hty : PySem.W.Looks (model X.prog X.w) s.heap (typeOf (.ref b)) (.type "dict") := hcls ▸ (PySem.W.Looks.ld e).andThen .now
  obtain ⟨m, hF⟩ := I.fr
  refine PySem.W.cmp_K (op := .Eq) (tb := .type "dict") hr.units0 hF I.ok.mod.kin J hty hnf hs hf ?_
  have vals : Vals [V.ref a, V.ref b] [Value.ref a, Value.ref b] := .cons rfl (.cons rfl .nil)
  have e0 : Env0 X.prog X.w X.K X.mg X.base X.A X.stack s H := I.env0
  have hl := F.len _ _ _ _ hsp
  refine wpAny_call (codeAny_mono (F.run X.A X.stack s H ⟨[.ref a, .ref b], []⟩ [.ref a, .ref b] [.ref a, .ref b] _ E hr e0 (by
    have bd := hb s [.ref a, .ref b] I.kIn (by simpa using hl)
    simpa using bd) vals hsp) fun r s' hq => ?_)
  cases r with
  | error e => exact hx pins σ H s e s' I hq
  | ok fl =>
    cases fl with
    | ret w =>
      obtain ⟨z, H', I', rz, c, ez, qz⟩ := I.after hq
      subst ez
      cases rz
      exact ⟨.bl c, H', I', rfl, qz⟩
    | next => exact False.elim hq
    | brk => exact False.elim hq
    | cont => exact False.elim hq
def tMethKK (C : Addr) (m : Str) (sp : Sp) (gV : List V → List V → List V) (E : XK) (ta : TE) (tk : TA) : TE := fun σ H Q => ta σ H fun x H1 => ∃ a dx fs, x = .ref a ∧ H1 a = some (.ins C dx fs) ∧ fs.lookup m = none ∧ tk σ H1 fun zs H2 => sp (gV [x] zs) H2 Q E
/-- o.m(a=.., b=..) -/
theorem pe_methKK {CX : CXT} {k : Nat} {f C : Addr} {fd : FuncData} {ps ks : List Str} {sp : Sp} {E : XK} {m : Str} {pos apos : Pos} {o : Expr} {kws : List Keyword} {ta : TE} {tk : TA} {g : List Value → List Value → List Value} {gV : List V → List V → List V} {pl : Sem Bool} (he : PE X o ta) (c : Cls X.K C) (hm : Meth X.K C m f) (F : FnOk X.prog X.w X.K X.mg X.base CX k f fd ps sp) (hr : Room k X.A) (hb : KBinds X.K fd ps ks g gV) (hx : Passes CX X E)
    (hkw : PK X kws tk) (hall : (backToKw pos (keywordEach kws X.env)).all (·.1.isSome) = true := by rfl) (hks : (backToKw pos (keywordEach kws X.env)).filterMap (·.1) = ks := by rfl)
    (hpl : ((backTo pos (starEach [] X.env)).any (·.1) || (backToKw pos (keywordEach kws X.env)).any (·.1.isNone)) = false := by rfl)
    (ht : eval (.Call (.Attribute o m apos) [] kws pos) X.env = (do
      let ov ← eval o X.env
      standAt apos.atName
      let (f, first) ← holding [ov] (getMethod ov m pl)
      callWith pos f first (backTo pos (starEach [] X.env)) (backToKw pos (keywordEach kws X.env))) := by rfl) :
    PE X (.Call (.Attribute o m apos) [] kws pos) (tMethKK C m sp gV E ta tk) := by
  refine ⟨fun pins s σ H Q I h => ?_⟩
  refine PySem.W.methodCall_KW (pl := pl) (thn (he.run pins s σ H _ I h) fun u s1 ⟨x, H1, I1, rx, a, dx, fs, ex, ea, l, q⟩ => ?_) ht
  subst ex
  obtain rfl : u = Value.ref a := rx
  refine getmeth_ok I1 ea c hm l ?_
  refine PySem.W.callWith_KW0 (first := [.ref a]) (h₀ := X.base) I.ok.mod.kin hm.kp hall (thn (hkw.run pos pins s1 σ H1 _ I1 q) fun ws s2 ⟨zs, H2, I2, rz, q2⟩ => ⟨I2.kIn, ?_⟩) hpl
  rw [hks]
  exact run_fnk (us := [.ref a]) (vs := [.ref a]) F hr hb hx I2 (.cons rfl .nil) rz q2
end
end My
namespace My
open PySem L2 PyProof.Rows
theorem bl_is1 {x : Bool} {Q : VK} {H : Hp} (h : x = true) (q : Q (.bl true) H) : Q (.bl x) H := by
  rw [h]
  exact q
/-! ### a list that nobody asks for any more is forgotten -/
section
variable {X : Cx} {pins : List (Addr × Obj)} {σ : L2.St} {H1 H2 : Hp} {s : Shared} {D : Addr} {xs : List V}
theorem inv_drop (I : Inv X pins σ H1 s) (e : H1 = upd H2 D (.lst xs)) (n : H2 D = none) : Inv X pins σ H2 s := by
  subst e
  have off : ∀ b, upd H2 D (.lst xs) b = none → H2 b = none := fun b h => by
    by_cases hb : b = D
    · rw [hb]; exact n
    · rw [upd_ne hb] at h; exact h
  have back : ∀ b o, o ≠ HO.lst xs → upd H2 D (.lst xs) b = some o → H2 b = some o := fun b o ho h => by
    by_cases hb : b = D
    · subst hb
      rw [upd_same] at h
      exact absurd (Option.some.inj h).symm ho
    · rw [upd_ne hb] at h; exact h
  refine ⟨I.ok, I.os, I.bare, ?_, I.loc, I.cell, off _ I.free, fun x c h => off _ (I.freeC x c h), fun p hp => ?_, ?_, I.len⟩
  · have u := I.base
    refine ⟨u.keep, u.slot, fun b o h1 h2 h3 => off _ (u.free b o h1 h2 h3), u.there, fun b ys h => back _ _ (by intro z; cases z) (u.tups b ys h), fun b o v h => back _ _ (by intro z; cases z) (u.frzs b o v h), fun b ps h => ?_⟩
    obtain ⟨more, h⟩ := u.tbls b ps h
    exact ⟨more, back _ _ (by intro z; cases z) h⟩
  · obtain ⟨a, b, c⟩ := I.pin p hp
    exact ⟨a, off _ b, c⟩
  · intro a o h
    have ha : a ≠ D := fun z => by rw [z, n] at h; cases h
    refine (I.hok a o (by rw [upd_ne ha]; exact h)).stay (fun _ _ _ z => z) (fun b h => back _ _ (by intro z; cases z) h) (fun b ys h => back _ _ (by intro z; cases z) h)
theorem pe_drop {e : Expr} {te : TE} (he : PE X e te) : PE X e (fun σ H Q => te σ H fun v H1 => ∃ D xs H2, H1 = upd H2 D (.lst xs) ∧ H2 D = none ∧ Q v H2) := by
  refine ⟨fun pins s σ H Q I h => ?_⟩
  exact wpAny_mono (he.run pins s σ H _ I h) (fun u s1 ⟨v, H1, I1, r, D, xs, H2, e, n, q⟩ => ⟨v, H2, inv_drop I1 e n, r, q⟩) fun _ _ h => h
theorem ix_seqK {K : PySem.W.Frag} (h : X.K = K) : IxR X (rIx K) := h ▸ ix_seq
end
end My
/-! list(range(n)) -/
namespace My
open PySem PySem.Spec PyProof.Rows L2
section
variable {X : Cx}
theorem cr_range1 : CallR X (.type "range") (fun vs H Q => ∃ j, vs = [V.int j] ∧ ∀ p, H p = none → Q (.ref p) (upd H p (.rng 0 j))) := by
  intro pins s σ H vs us Q I r h
  obtain ⟨j, rfl, q⟩ := h
  obtain ⟨u1, rfl, ri⟩ := vals1 r
  obtain ⟨t, rfl⟩ := ri
  refine call_range_1 ⟨.ref s.heap.objs.size, upd H s.heap.objs.size (.rng 0 j), I.laid (t' := s.toks + 1 + 1) (fun b o e => Heap.get?_push_of_some _ e) (Nat.le_refl _) ?_, rfl, q _ (I.hok.fresh (Nat.le_refl _))⟩
  exact ⟨s.toks, t, s.toks + 1, Heap.get?_push_size _ rfl⟩
theorem call_listRng (hc : X.calm = true) : CallR X (.type "list") (fun xs H Q => ∃ (p : Addr) (n : Nat), xs = [.ref p] ∧ H p = some (.rng 0 (n : Int)) ∧ n ≤ 1000 ∧ ∀ q, H q = none → Q (.ref q) (upd H q (.lst ((List.range n).map fun i : Nat => V.int (i : Int))))) := by
  intro pins s σ H xs us Q I r h
  obtain ⟨p, n, e, hk, hn, q⟩ := h
  subst e
  obtain ⟨u, eu, rx⟩ := vals1 r
  subst eu
  obtain rfl : u = Value.ref p := rx
  obtain ⟨t1, t2, t3, ho⟩ := (show ObjOk X.prog X.w H s.heap p (.rng 0 (n : Int)) from I.hok p _ hk)
  refine call_list_range (n := n) (I.ok.hd hc) ho (small_one (by omega) (by omega) (by omega) (by omega)) (by rw [rangeSize_one]; split <;> omega) (by omega) fun h' tk items cap hkeep hS hacc => ?_
  refine ⟨.ref s.heap.objs.size, upd H s.heap.objs.size (.lst ((List.range n).map fun i : Nat => V.int (i : Int))), I.laid hkeep (Nat.le_refl _) (show ObjOk X.prog X.w _ _ _ (.lst ((List.range n).map fun i : Nat => V.int (i : Int))) from ⟨?_, items.toList, cap, ?_, ?_⟩), rfl, q _ (I.hok.fresh (Nat.le_refl _))⟩
  · rw [List.length_map, List.length_range]; exact Nat.le_trans hn (by decide)
  · have el : items.toList.length = n := by rw [Array.length_toList]; exact hacc.1
    refine vals_of_at (by rw [List.length_map, List.length_range, el]) fun j x z h1 h2 => ?_
    obtain ⟨t, e⟩ := hacc.2 j z (by rw [← Array.getElem?_toList]; exact h2)
    have hj : j < n := by rw [← el]; exact (List.getElem?_eq_some_iff.mp h2).1
    rw [List.getElem?_map, List.getElem?_range hj] at h1
    cases h1
    exact ⟨t, by rw [e]; simp⟩
  · rw [Array.toArray_toList]; exact hS
end
end My
namespace My
open PySem L2 PyProof.Rows
/-! ### contracts of defs that are called where nothing is being shown -/
structure FnG (P : Program) (w : World) (K : PySem.W.Frag) (mg : Str → Option Value) (base : Heap) (k : Nat) (f : Addr) (fd : FuncData) (ps : List Str) (sp : Sp) : Prop where
  len : ∀ vs H Q E, sp vs H Q E → vs.length = ps.length
  run : ∀ (A : Around) (outer : List Env) (s : Shared) (H : Hp) (args : Args) (us : List Value) (vs : List V) (Q : VK) (E : XK), Room k A → A.guards = some [] → Env0 P w K mg base A outer s H → BindsTo s fd args (ps.zip us) → Vals vs us → sp vs H Q E →
    codeAny (model P w) A (.call (.ref f) args) (CR CX0 outer P w H s Q E) s
section
variable {P : Program} {w : World} {K : PySem.W.Frag} {mg : Str → Option Value} {base : Heap}
theorem FnG.ofOk {k : Nat} {f : Addr} {fd : FuncData} {ps : List Str} {sp : Sp} (F : FnOk P w K mg base CX0 k f fd ps sp) : FnG P w K mg base k f fd ps sp :=
  ⟨F.len, fun A outer s H args us vs Q E hr _ he hb hv hs => F.run A outer s H args us vs Q E hr he hb hv hs⟩
theorem FnG.ofBody {x qual : Str} {st : Stmt} {f : Addr} {fd : FuncData} {N ps : List Str} {k : Nat} {sp : Sp} (F : Fun K x qual st f fd) (S : FnScope N ps (defScope st)) (len : ∀ vs H Q E, sp vs H Q E → vs.length = ps.length)
    (body : ∀ (cdv : Value) (A : Around) (outer : List Env) (s : Shared) (H : Hp) (vs : List V) (Q : VK) (E : XK), Room k (A.deeper (envOfC qual (defScope st) s.heap.objs.size f cdv)) → A.guards = some [] → sp vs H Q E →
      ∃ t, PSs (cxOf CX0 P w K mg base N qual (defScope st) f cdv A outer s H E).nox (defBody st) t ∧ t { nx := fun _ H' => Q .non H', rt := Q } (start N vs) H) : FnG P w K mg base (k + 1) f fd ps sp := by
  obtain ⟨oc, od, kV, doc, pm, an, cdv, ct, osl, rfl, lk, hcd⟩ := F.ex
  constructor
  · exact len
  intro A outer s H args us vs Q E room quiet env bound rel want
  have many := len _ _ _ _ want
  have inK : K.In s.heap := env.mod.kin.keeps (fun b o e => (env.bs b o e).1)
  have unlimited : s.heap.NoLimit := env.mod.nolimit.keeps (fun b o e => (env.bs b o e).1)
  have kinds : ∀ y ∈ ps.zip us, (defScope st).names.lookup y.1 = some .local ∨ ((defScope st).names.lookup y.1 = some .cell ∧ ((cellsFrom (s.heap.objs.size + 1) (defScope st).names []).lookup y.1).isSome = true) := by
    rintro ⟨n, v⟩ hy
    exact (S.par n (List.of_mem_zip hy).1).imp id (fun q => ⟨q, PySem.W.cellsFrom_some _ _ _ (.inl q)⟩)
  refine codeAny_call_function room.depth (inK _ _ lk) rfl S.co S.gen rfl (PySem.W.codeRec_of inK hcd) (bound _ _ _ _ (wpAny_newFunctionEnv_cells S.kind kinds ?_))
  rintro env' rfl s1 x
  obtain ⟨t, ht, hq⟩ := body cdv A outer s H vs Q E (room.deeper _) quiet want
  have I := inv_start (CX := CX0) (E := E) S room.hd env many rel x
  refine ⟨unlimited.keeps x.toInCall.keep, codeAny_func (wpAny_mono (ht.nox.run [] s1 (start N vs) H _ I hq) ?_ (fun _ _ h => h))⟩
  intro fl s' hs
  cases fl with
  | ret u =>
    obtain ⟨v, σ', H', J, rv, q⟩ := hs
    exact ⟨v, H', J.os, J.bare, J.base, J.hok, rv, q⟩
  | next =>
    obtain ⟨σ', H', J, q⟩ := hs
    exact ⟨V.non, H', J.os, J.bare, J.base, J.hok, (rfl : RelV V.non Value.none), q⟩
  | brk => exact hs.elim fun _ h => h.elim fun _ h => h.2.elim
  | cont => exact hs.elim fun _ h => h.elim fun _ h => h.2.elim
end
section
variable {X : Cx} {k : Nat} {f : Addr} {fd : FuncData} {ps ks : List Str} {sp : Sp} {ds : List Value} {x : Str} {p pos : Pos} {e : Expr} {es : List Expr} {kws : List Keyword} {t tk : TA} {g : List Value → List Value → List Value} {gV : List V → List V → List V}
theorem run_fnG {pins : List (Addr × Obj)} {σ : L2.St} {H : Hp} {s : Shared} {Q : VK} {us ws : List Value} {vs zs : List V} (F : FnG X.prog X.w X.K X.mg X.base k f fd ps sp) (hr : Room k X.A) (quiet : X.A.guards = some []) (hb : KBinds X.K fd ps ks g gV)
    (I : Inv X pins σ H s) (r : Vals vs us) (rz : Vals zs ws) (h : sp (gV vs zs) H Q E0) : wpAny (model X.prog X.w) X.A (call (.ref f) us (ks.zip ws)) (EP X pins σ Q) X.xe s := by
  have r2 := hb.rel r rz
  have many : (g us ws).length = ps.length := r2.length.symm.trans (F.len _ _ _ _ h)
  refine wpAny_call (codeAny_mono (F.run X.A X.stack s H _ _ _ Q E0 hr quiet I.env0 (hb.to s us ws I.kIn many) r2 h) ?_)
  rintro (e | fl) s' hq
  · exact False.elim hq
  cases fl with
  | ret u => exact I.after hq
  | next | brk | cont => exact hq.elim
/-- arguments by place alone -/
theorem KBinds.none {K : PySem.W.Frag} {fd : FuncData} {ps : List Str} (b : Binds K fd ps []) : KBinds K fd ps [] (fun us _ => us) (fun vs _ => vs) := by
  refine ⟨fun s us ws X hl => ?_, fun r _ => r⟩
  have := b s us X (by rw [List.append_nil]; exact hl)
  rw [List.append_nil] at this
  exact this
theorem pe_callG (F : FnG X.prog X.w X.K X.mg X.base k f fd ps sp) (hr : Room k X.A) (quiet : X.A.guards = some []) (hg : Gl X x) (hm : X.mg x = some (.ref f)) (hk : PySem.W.keepIn X.K (.ref f) = true) (hb : Binds X.K fd ps [])
    (ha : PA X (e :: es) t) (hdb : (x == ("__debug__" : Str)) = false := by decide) (he : starEach (e :: es) X.env = (false, eval e X.env) :: starEach es X.env := by rfl) (hpl : (backTo pos (starEach es X.env)).any (·.1) = false := by rfl) :
    PE X (.Call (.Name x p) (e :: es) [] pos) (tCall sp [] E0 t) := by
  constructor
  intro pins s σ H Q I h
  refine wpAny_Call_Name_kw (ld_glob I hg hm (PySem.W.callWith_K (h₀ := X.base) I.ok.mod.kin hk (thn (ha.run pos pins s σ H _ I h) ?_) he hpl) hdb)
  rintro us s1 ⟨vs, H1, I1, r, q⟩
  refine ⟨I1.kIn, ?_⟩
  have q' : sp vs H1 Q E0 := by
    have q2 : sp (vs ++ []) H1 Q E0 := q
    rwa [List.append_nil] at q2
  exact run_fnG (ws := []) (zs := []) F hr quiet (KBinds.none hb) I1 r .nil q'
end
/-! ### a law whose promise is kept where nothing is being shown -/
theorem quiet_caller : callerA.guards = some [] := rfl
/-- from an abstract heap in which at most the script is told -/
theorem law_from {P : Program} {w : World} {K : PySem.W.Frag} {mg mb : Str → Option Value} {k : Nat} {fa a : Addr} {fd : FuncData} {x : Str} {sp : Sp} {s₁ : Shared} {vs : List Value} {H : Hp}
    (inK : K.In s₁.heap) (main : s₁.heap.Ns mainGlobals mg) (bui : s₁.heap.Ns builtinsNs mb) (same : ∀ x : Str, x ≠ "__name__" → mb x = bootBuiltins x) (lim : s₁.heap.NoLimit) (gens : s₁.gens = #[])
    (at_a : s₁.heap.get? a = some { cls := .type "list", data := .seq vs.toArray }) (room : Room k callerA)
    (F : ∀ base : Heap, K.In base → base.Ns mainGlobals mg → FnG P w K mg base k fa fd [x] sp) (bound : ∀ (s : Shared) (u : Value), BindsTo s fd ⟨[u], []⟩ [(x, u)])
    (only : Only H) (hok : HOk P w H s₁.heap) (isA : ∀ b, H b ≠ none → b = a) (notK : H a ≠ none → K.lookup a = none) (want : sp [.ref a] H (fun v _ => v = .bl true) fun _ _ _ => False) :
    codeAny (model P w) callerA (.call (.ref fa) ⟨[.ref a], []⟩) (fun r s' => r = .ok (.ret (.bool true)) ∧ OldK s₁.heap s'.heap ∧ s'.os = s₁.os ∧ AllBare s'.gens) s₁ := by
  have free : ∀ b, b ≠ a → H b = none := by
    intro b hb
    cases q : H b with
    | none => rfl
    | some u => exact absurd (isA b (fun z => by rw [z] at q; cases q)) hb
  have shown : ∀ {b : Addr} {o : Obj}, s₁.heap.get? b = some o → H b = none → (hidT s₁.heap H).get? b = some o := fun e n => hidT_get e n
  have names : ∀ {b : Addr} {m : Str → Option Value}, s₁.heap.Ns b m → (hidT s₁.heap H).Ns b m := by
    rintro b m ⟨o, es, ep, e, d, r⟩
    refine ⟨o, es, ep, shown e (free b ?_), d, r⟩
    rintro rfl
    rw [at_a] at e
    cases e
    exact nomatch d
  have inHid : K.In (hidT s₁.heap H) := by
    intro b o e
    refine shown (inK b o e) ?_
    cases q : H b with
    | none => rfl
    | some u =>
      have ne : H b ≠ none := fun z => by rw [z] at q; cases q
      have eb := isA b ne
      subst eb
      rw [notK ne] at e
      cases e
  obtain ⟨mc, l1, l2⟩ := lim
  have env : Env0 P w K mg (hidT s₁.heap H) callerA [] s₁ H := {
    frames := rfl
    mod := ⟨inHid, names main, ⟨mb, names bui, same⟩, ⟨mc, names l1, l2⟩⟩
    bs := fun _ _ e => of_hidT e
    bsz := Nat.le_of_eq (hidT_size _ _)
    funs := trivial
    frf := fun b hb => nomatch (show b ∈ ([] : List Addr) from hb)
    hok := hok
    bare := .of_eq gens }
  refine codeAny_mono ((F _ inHid (names main)).run callerA [] s₁ H ⟨[.ref a], []⟩ [.ref a] [.ref a] _ _ room quiet_caller env (bound s₁ (.ref a)) (.cons rfl .nil) want) ?_
  rintro (e | fl) s' h
  · exact False.elim h
  cases fl with
  | next | brk | cont => exact False.elim h
  | ret u =>
    obtain ⟨v, H', os, bare, un, hok', rel, q⟩ := h
    cases (show v = .bl true from q)
    cases (show u = Value.bool true from rel)
    refine ⟨rfl, .of_keep ?_, os, bare⟩
    intro b o e
    rcases only b with z | ⟨ob, xs, z⟩
    · exact un.keep b o e z (fun m => nomatch (show b ∈ ([] : List Addr) from m)) (fun m => nomatch m)
    · have z2 := un.frzs b ob _ z
      have e1 := (hok b _ z).1
      rw [e] at e1
      cases e1
      exact (hok' b _ z2).1
theorem law_callG {P : Program} {w : World} {K : PySem.W.Frag} {mg mb : Str → Option Value} {k : Nat} {fa a : Addr} {fd : FuncData} {x : Str} {sp : Sp} {s₁ : Shared} {vs : List Value} {ns : List Int}
    (inK : K.In s₁.heap) (main : s₁.heap.Ns mainGlobals mg) (bui : s₁.heap.Ns builtinsNs mb) (same : ∀ x : Str, x ≠ "__name__" → mb x = bootBuiltins x) (lim : s₁.heap.NoLimit) (gens : s₁.gens = #[])
    (at_a : s₁.heap.get? a = some { cls := .type "list", data := .seq vs.toArray }) (hints : IntsAre vs ns) (short : ns.length ≤ sizeLine) (room : Room k callerA)
    (F : ∀ base : Heap, K.In base → base.Ns mainGlobals mg → FnG P w K mg base k fa fd [x] sp) (bound : ∀ (s : Shared) (u : Value), BindsTo s fd ⟨[u], []⟩ [(x, u)])
    (want : ∀ H : Hp, Only H → SqL K H a (ns.map V.int) → sp [.ref a] H (fun v _ => v = .bl true) fun _ _ _ => False) :
    codeAny (model P w) callerA (.call (.ref fa) ⟨[.ref a], []⟩) (fun r s' => r = .ok (.ret (.bool true)) ∧ OldK s₁.heap s'.heap ∧ s'.os = s₁.os ∧ AllBare s'.gens) s₁ := by
  have rel := vals_ints hints
  have many := hints.length
  have go := fun (H : Hp) (o : Only H) hok isA notK w => law_from (mb := mb) inK main bui same lim gens at_a room F bound (H := H) o hok isA notK w
  cases hk : K.lookup a with
  | some o =>
    have e := inK a o hk
    rw [at_a] at e
    cases e
    have nobody : Only (fun _ => none) := fun _ => .inl rfl
    refine go _ nobody (fun b u z => nomatch (show (none : Option HO) = some u from z)) (fun b z => absurd rfl z) (fun z => absurd rfl z) (want _ nobody (.inr ⟨_, vs.toArray, _, hk, rfl, rfl, rfl, ?_, ?_⟩))
    · rw [List.size_toArray, many]
      exact short
    · simpa using rel
  | none =>
    have key : ∃ H : Hp, H = fun b => if b = a then some (.frz { cls := .type "list", data := .seq vs.toArray } (.lst (ns.map V.int))) else none := ⟨_, rfl⟩
    obtain ⟨H, eH⟩ := key
    have there : H a = some (.frz { cls := .type "list", data := .seq vs.toArray } (.lst (ns.map V.int))) := by rw [eH]; exact if_pos rfl
    have else_ : ∀ b, b ≠ a → H b = none := fun b hb => by rw [eH]; exact if_neg hb
    have only : Only H := fun b => by
      by_cases hb : b = a
      · rw [hb]; exact .inr ⟨_, _, there⟩
      · exact .inl (else_ b hb)
    refine go H only (fun b u z => ?_) (fun b z => ?_) (fun _ => hk) (want H only (.inl (.inr ⟨_, there⟩)))
    · by_cases hb : b = a
      · subst hb
        rw [there] at z
        cases z
        exact ⟨at_a, by rw [List.length_map]; exact short, vs, _, rel, at_a⟩
      · rw [else_ b hb] at z
        cases z
    · by_cases hb : b = a
      · exact hb
      · exact absurd (else_ b hb) z
theorem walk_ofG {l : PySem.W.OpenLaw} {n k : Nat} {q : Program} {loose : List Str} {XP : (Str → Option Value) → Heap → Prop} {YP : World → Heap → Prop} {d : DefRec} {K : Params → PySem.W.Frag} {sp : World → Sp} {x : Str}
    (hn : l.most = some n) (hn2 : n ≤ sizeLine) (hdf : d.params.defaults = []) (room : Room k callerA) (hY : ∀ (w : World) (h : Heap), YP w h → (K w.params).In h)
    (F : ∀ (w : World) (mg : Str → Option Value) (fa : Addr) (h : Heap), (K w.params).In h → h.Ns mainGlobals mg → mg d.name = some (.ref fa) →
      ∃ fd : FuncData, (∀ (s : Shared) (u : Value), BindsTo s fd ⟨[u], []⟩ [(x, u)]) ∧ ∀ base : Heap, (K w.params).In base → base.Ns mainGlobals mg → FnG l.prog w (K w.params) mg base k fa fd [x] (sp w))
    (want : ∀ (w : World) (H : Hp) (a : Addr) (ns : List Int), ns.length ≤ n → Only H → SqL (K w.params) H a (ns.map V.int) → sp w [.ref a] H (fun v _ => v = .bl true) fun _ _ _ => False) :
    PySem.W.WalkO q loose XP YP l.row.toRowW d [] (fun f vs => PySem.call f vs) := by
  apply Att.attach_call hn hdf
  intro w s₀ s₁ mg mb fa o pm cd doc a vs ns G Y ho hd hcd hmg hobj hints hlen hg
  have inK := hY w _ Y
  obtain ⟨fd, bound, hF⟩ := F w mg fa _ inK G.T.g hmg
  exact law_callG inK G.T.g G.T.b G.T.builtins G.T.nolimit hg hobj hints (Nat.le_trans hlen hn2) room hF bound (fun H hO hS => want w H a ns hlen hO hS)
/-! ### repr of a list -/
section
variable {X : Cx}
theorem call_repr_data (quiet : X.A.guards = some []) (hu : X.A.units + 70 < cLine) : CallR X (.builtin "repr") (fun xs H Q => ∃ a d, xs = [.ref a] ∧ Dp X.K H (.ref a) d ∧ d.showable = true ∧ d.hasDict = false ∧ d.depth ≤ 60 ∧ d.shown.length ≤ sizeLine ∧ Q (.str d.shown) H) := by
  intro pins s σ H xs us Q I r h
  obtain ⟨a, d, rfl, hd, hs, hnd, hdp, hz, q⟩ := h
  obtain ⟨u, rfl, e⟩ := vals1 r
  cases e
  obtain ⟨as, rd⟩ := Dp.reads I d _ _ hd (rfl : RelV (.ref a) (.ref a))
  exact repr_of_reads' rd hs (PyData.noDict_hsm hnd) quiet (by omega) (fun _ _ e => e) (fun h' u tk hk => ⟨.str _, H, I.kept hk, ⟨_, rfl⟩, q⟩) hz
end
end My
namespace My
open PySem L2 PyProof.Rows
/-! ### the rules within a comprehension -/
section
variable {X : Cx} {K : PySem.W.Frag}
theorem ix_listK (h : X.K = K) : IxR X (rIxL K) := h ▸ ix_list
theorem ix_tupK (h : X.K = K) : IxR X (rIxT K) := h ▸ ix_tup
theorem pi_listK {tg l : Expr} {tl : TE} (h : X.K = K) (hl : PE X l tl) : PI X tg l (iList K tl) := h ▸ pi_list hl
theorem call_len_seqK (h : X.K = K) : CallR X (.builtin "len") (fun xs H Q => ∃ p ys, xs = [V.ref p] ∧ (SqL K H p ys ∨ SqT K H p ys) ∧ Q (.int (ys.length : Int)) H) := h ▸ call_len_seq
theorem op_in_seqK (h : X.K = K) : OpR X (compareOp .In) (rIn K false) := h ▸ op_in_seq
theorem op_notIn_seqK (h : X.K = K) : OpR X (compareOp .NotIn) (rIn K true) := h ▸ op_notIn_seq
end
/-! ### defs that may show a value (repr) -/
theorem hu70 {k : Nat} {A : Around} (h : Room k A) : A.units + 70 < cLine := by
  have := h.un
  omega
theorem u65 {k : Nat} {A : Around} (h : Room k A) : A.units + 65 < cLine := by
  have := h.un
  omega
section
variable {P : Program} {w : World} {K : PySem.W.Frag} {mg : Str → Option Value} {base : Heap}
def GoodG (P : Program) (w : World) (K : PySem.W.Frag) (mg : Str → Option Value) (base : Heap) (x : Str) (st : Stmt) (ps : List Str) (k : Nat) (sp : Sp) : Prop := ∃ (f : Addr) (fd : FuncData), FnG P w K mg base k f fd ps sp ∧ mg x = some (.ref f) ∧ PySem.W.keepIn K (.ref f) = true ∧ Binds K fd ps [] ∧ Fun K x x st f fd
theorem Def.goodG {x : Str} {st : Stmt} {ps : List Str} {k : Nat} {sp : Sp} (D : Def K mg x st ps) (h : ∀ f fd, Fun K x x st f fd → FnG P w K mg base k f fd ps sp) : GoodG P w K mg base x st ps k sp := by
  obtain ⟨f, fd, F, m, b⟩ := D
  exact ⟨f, fd, h f fd F, m, F.kp, b, F⟩
end
end My
/-! enumerate(t), t a tuple -/
namespace My
open PySem PySem.Spec PyProof.Rows L2
open AutoSeq1 (wpAny_loadPart')
theorem enum_new_tup (q : Addr) (ys : Array Value) (m : Nat) (dc : Option Addr) (sl : Array (Option Value)) :
    Meets (Builtin.«enumerate.__new__» ⟨[.type "enumerate", .ref q], []⟩) (fun _ R s => s.heap.get? q = some { cls := .type "tuple", dict := dc, data := .seq ys m, slots := sl } ∧
      R (.ok (.ret (.ref (s.heap.push { cls := .type "tuple_iterator", data := .fields #[.ref q, .int 0 0] }).objs.size)))
        { s with heap := (s.heap.push { cls := .type "tuple_iterator", data := .fields #[.ref q, .int 0 0] }).push { cls := .type "enumerate", data := .fields #[.none, .bool false, .ref s.heap.objs.size, rawInt 0, .none, .none] } }) :=
  .of_wp fun prog w A R s k => by
    obtain ⟨hh, g, dr, tk, os⟩ := s
    obtain ⟨kq, k⟩ := k
    have hsub := sub_enumerate
    have hT : Heap.IsTuple (Shared.heap ⟨hh, g, dr, tk, os⟩) q ys := ⟨_, kq, rfl, m, rfl⟩
    wp_walk using wpAny_loadPart' kq
    refine wpAny_stack_any fun _ => wpAny_pure ?_
    split
    · rename_i c _ _ _ _ _
      cases (c == Value.type "enumerate") <;>
        (wp_walk using wpAny_loadPart' kq, wpAny_pyIter_tuple hT
         exact ⟨_, rfl, k⟩)
    · wp_walk using wpAny_loadPart' kq, wpAny_pyIter_tuple hT
      exact ⟨_, rfl, k⟩
section
variable {prog : Program} {w : World} {A : Around} {E : Value → Shared → Prop} {s : Shared}
theorem call_enum_tup {q : Addr} {ys : Array Value} {Q : Value → Shared → Prop} (hT : s.heap.IsTuple q ys)
    (k : ∀ h', IsEnum h' (s.heap.objs.size + 1) s.heap.objs.size 0 .none → h'.IsTupleIter s.heap.objs.size q 0 → h'.objs.size = s.heap.objs.size + 2 →
      (∀ b o, s.heap.get? b = some o → h'.get? b = some o) → Q (.ref (s.heap.objs.size + 1)) { s with heap := h' }) :
    wpAny (model prog w) A (call (.type "enumerate") [.ref q]) Q E s := by
  obtain ⟨⟨cl, dc, dt, sl⟩, kq, ec, m, ed⟩ := hT
  cases (show cl = .type "tuple" from ec)
  cases (show dt = .seq ys m from ed)
  refine callType_new F.called_enumerate (by decide) (F.typeCall_enumerate_1 _) (F.newCall_enumerate_1 _) (fun obj => F.args_object_init_2 obj _) F.entry_enumerate_new
    (enum_new_tup q ys m dc sl) ⟨kq, ?_⟩
  have z1 : (s.heap.push { cls := .type "tuple_iterator", data := .fields #[.ref q, .int 0 0] }).objs.size = s.heap.objs.size + 1 := Heap.size_push ..
  show _ ∧ _
  rw [z1]
  have he : IsEnum ((s.heap.push { cls := .type "tuple_iterator", data := .fields #[.ref q, .int 0 0] }).push
      { cls := .type "enumerate", data := .fields #[.none, .bool false, .ref s.heap.objs.size, rawInt 0, .none, .none] }) (s.heap.objs.size + 1) s.heap.objs.size 0 .none := by
    have z2 := Heap.get?_push_size (s.heap.push { cls := .type "tuple_iterator", data := .fields #[.ref q, .int 0 0] })
      (o := { cls := .type "enumerate", data := .fields #[.none, .bool false, .ref s.heap.objs.size, rawInt 0, .none, .none] }) rfl
    rwa [z1] at z2
  exact ⟨⟨_, he, rfl⟩, k _ he ⟨_, Heap.get?_push_of_some _ (Heap.get?_push_size _ rfl), rfl, rfl⟩ (by rw [Heap.size_push, z1]) fun b o x => Heap.get?_push_of_some _ (Heap.get?_push_of_some _ x)⟩
end
/-- the tuple at a, each item in a new pair -/
def Ity (K : PySem.W.Frag) (a : Addr) : It :=
  ⟨fun i H => ∃ (xs : List V) (x : V), SqT K H a xs ∧ xs[i]? = some x, fun i H v H' => ∃ T x, v = .ref T ∧ H T = none ∧ H' = upd H T (.tup [.int (i : Nat), x]) ∧ ∀ xs, SqT K H a xs → xs[i]? = some x, fun i H => ∃ xs : List V, SqT K H a xs ∧ xs.length = i⟩
theorem walk_enumT {K : PySem.W.Frag} {a : Addr} {xs : List V} : Walk (Ity K a) xs.length (fun H => SqT K H a xs) (YPair (fun i => some (.int (i : Nat))) (fun i => xs[i]?)) := by
  refine ⟨fun i _ hi q => ⟨xs, xs[i], q, List.getElem?_eq_getElem hi⟩, fun _ q => ⟨xs, q, rfl⟩, fun i H v H' _ q y => ?_⟩
  obtain ⟨T, x, y1, y2, y3, y4⟩ := y
  exact ⟨T, .int (i : Nat), x, y1, y2, y3, rfl, y4 xs q⟩
theorem turn_enumT {P : Program} {w : World} {K : PySem.W.Frag} {elts : List Expr} {kk : Nat} {tpos : Pos} (a e it : Addr) (nai : a ≠ it) (nea : e ≠ a) :
    Turn P w K (.Tuple elts kk tpos) (Ity K a) [e, it] e (fun i h => (∃ old, IsEnum h e it ((i : Nat) : Int) old) ∧ h.IsTupleIter it a i ∧ e ≠ it) where
  mem := by simp
  obj := fun i h st b hb => by
    obtain ⟨⟨old, he⟩, ⟨o, ho, hc, hd⟩, _⟩ := st
    rcases (show b = e ∨ b = it by simpa using hb) with z | z
    · subst z; exact ⟨_, he, fun v q => nomatch q⟩
    · subst z; exact ⟨o, ho, fun v q => by rw [hd] at q; cases q⟩
  keep := fun i h h' st k => let ⟨⟨old, he⟩, hi, hne⟩ := st; ⟨⟨old, k e (by simp) _ he⟩, hi.at fun o q => k it (by simp) o q, hne⟩
  item := by
    intro X hP hw hK hc i pins s σ H E I hf st hg
    subst hP hw hK
    obtain ⟨⟨old, he⟩, hit, hne⟩ := st
    obtain ⟨xs, x, hq, hx⟩ := hg
    obtain ⟨its, rv, p, hz⟩ := I.tuple hq
    obtain ⟨u, hu, ru⟩ := rv.get hx
    have le : e < s.heap.objs.size := Heap.lt_size he
    have li : it < s.heap.objs.size := by obtain ⟨_, q, _⟩ := hit; exact Heap.lt_size q
    have small : i < its.toArray.size := by
      have := (List.getElem?_eq_some_iff.mp hu).1
      simpa using this
    refine wpAny_pyNext_enum_itemD (Draws.tuple (A := X.A.in1) (I.ok.hd hc) it a nai its.toArray) he ⟨hit, (show s.heap.IsTuple a its.toArray from p)⟩ small hne (by simp [hne, nea]) fun x' h' tk hx' ho hst hT hsz hk => ?_
    have ex : x' = u := by
      have : its[i]? = some x' := by simpa using hx'
      rw [hu] at this
      exact (Option.some.inj this).symm
    subst ex
    obtain ⟨hst1, hst2⟩ := hst
    refine ⟨_, rfl, wpAny_letOwnedTupleGo_enum (s := { s with heap := h', toks := tk + 1 }) ho fun h2 he2 sb => ?_⟩
    have gT : h2.get? s.heap.objs.size = some { cls := .type "tuple", data := .seq #[.int i tk, x'] } := (sb.2 _ (Nat.ne_of_gt le)).trans hT
    have okT : ObjOk X.prog X.w (upd H s.heap.objs.size (.tup [.int (i : Nat), x])) h2 s.heap.objs.size (.tup [.int (i : Nat), x]) :=
      ⟨by show 2 ≤ sizeLine; decide, [.int i tk, x'], .cons ⟨_, rfl⟩ (.cons ru .nil), ⟨_, gT, rfl, _, rfl⟩⟩
    have I2 : Inv X pins σ (upd H s.heap.objs.size (.tup [.int (i : Nat), x])) { s with heap := h2, toks := tk + 1 } :=
      I.turnedNew (t' := tk + 1) (ch := [e, it]) (fun b ob hb q => (sb.2 b (fun z => hb (by simp [z]))).trans (hk b ob (fun z => hb (by simp [z])) (fun z => hb (by simp [z])) q)) hf (Nat.le_refl _) okT
    refine ⟨.ref s.heap.objs.size, _, I2, rfl, ⟨_, x, rfl, I.hok.fresh (Nat.le_refl _), rfl, fun ys hy => by rw [I.tuple_inj hy hq]; exact hx⟩, ⟨⟨x', ?_⟩, hst1.at fun o q => (sb.2 it (Ne.symm hne)).trans q, hne⟩, fun b hb => ?_⟩
    · rw [show ((i + 1 : Nat) : Int) = (i : Int) + 1 by omega]
      exact he2
    · have lb : b < s.heap.objs.size := by
        rcases (show b = e ∨ b = it by simpa using hb) with z | z
        · rw [z]; exact le
        · rw [z]; exact li
      rw [upd_ne (Nat.ne_of_lt lb)]
      exact (hf b hb).1
  done := by
    intro X hP hw hK hc i pins s σ H E I hf st hg
    subst hP hw hK
    obtain ⟨⟨old, he⟩, hit, hne⟩ := st
    obtain ⟨xs, hq, hx⟩ := hg
    obtain ⟨its, rv, p, hz⟩ := I.tuple hq
    obtain ⟨f0, f1, f2, f3, f4, f5⟩ := hf it (by simp)
    have hl := rv.length
    have hsz : i = its.toArray.size := by
      rw [List.size_toArray]
      omega
    rw [hsz] at hit
    exact wpAny_pyNext_enum_endD (Draws.tuple (A := X.A.in1) (I.ok.hd hc) it a nai its.toArray) he ⟨hit, (show s.heap.IsTuple a its.toArray from p)⟩ fun h' eb => ⟨rfl, I.turned (t' := s.toks) (fun b o hb e => eb b o hb e) f0 f1 f3 f4 f5⟩
  self := fun A i s Q E st h => let ⟨⟨_, he⟩, _⟩ := st; wpAny_pyIter_enum he h
def iEnumT (K : PySem.W.Frag) (ta : TA) : TI := fun σ H R => ta σ H fun vs H1 => ∃ a xs, vs = [.ref a] ∧ SqT K H1 a xs ∧ R (Ity K a) H1
theorem pi_enumT {X : Cx} {e : Expr} {ta : TA} {p pos tpos : Pos} {elts : List Expr} {kk : Nat} (hg : Gl X "enumerate") (hm : X.mg "enumerate" = none) (ha : PA X [e] ta) (hs : starEach [e] X.env = [(false, eval e X.env)] := by rfl) :
    PI X (.Tuple elts kk tpos) (.Call (.Name "enumerate" p) [e] [] pos) (iEnumT X.K ta) := by
  constructor
  intro pins s σ H R I h
  refine Call_ (ld_blt I hg hm boot_enumerate (PyProof.Rows.callWith_type1 (thn (ha.run pos pins s σ H _ I h) fun us s1 ⟨vs, H1, I1, r1, q1⟩ => ?_) hs rfl))
  obtain ⟨a, xs, rfl, hq, q⟩ := q1
  obtain rfl := Vals.ref1 r1
  obtain ⟨its, rv, p', hz⟩ := I1.tuple hq
  have la : a < s1.heap.objs.size := by obtain ⟨_, z, _⟩ := p'; exact Heap.lt_size z
  refine call_enum_tup (show s1.heap.IsTuple a its.toArray from p') fun h' he hit hsz hk => wpAny_pyIter_enum he ?_
  have I2 : Inv X pins σ H1 { s1 with heap := h' } := I1.kept (t' := s1.toks) hk
  refine ⟨s1.heap.objs.size + 1, [s1.heap.objs.size + 1, s1.heap.objs.size], _, _, H1, rfl, I2, turn_enumT a (s1.heap.objs.size + 1) s1.heap.objs.size (Nat.ne_of_lt la) (Nat.ne_of_gt (Nat.lt_succ_of_lt la)), ⟨⟨.none, he⟩, hit, Nat.succ_ne_self _⟩, fun b hb => ?_, q⟩
  have hle : s1.heap.objs.size ≤ b := by
    rcases (show b = s1.heap.objs.size + 1 ∨ b = s1.heap.objs.size by simpa using hb) with z | z
    · rw [z]; exact Nat.le_succ _
    · rw [z]; exact Nat.le_refl _
  exact I1.fpOk hle (I1.hok.fresh hle)
end My
namespace My
open PySem L2 PyProof.Rows
def topS (i : Nat) : Stmt := PySem.Challenge.pw_suretexts_k66_whole_mates_kept.main.body.getD i (.Pass ⟨0, 0, 0, 0⟩)
abbrev s_wall : Stmt := topS 0
theorem sc_wall : FnScope ["k"] ["k"] (defScope s_wall) := ⟨rfl, rfl, rfl, by decide +kernel, rfl, by decide +kernel, by decide +kernel⟩
abbrev sis_integer : Stmt := topS 10
theorem scis_integer : FnScope ["value"] ["value"] (defScope sis_integer) := ⟨rfl, rfl, rfl, by decide +kernel, rfl, by decide +kernel, by decide +kernel⟩
abbrev sis_count : Stmt := topS 11
theorem scis_count : FnScope ["value"] ["value"] (defScope sis_count) := ⟨rfl, rfl, rfl, by decide +kernel, rfl, by decide +kernel, by decide +kernel⟩
abbrev sis_between : Stmt := topS 12
theorem scis_between : FnScope ["value", "least", "most"] ["value", "least", "most"] (defScope sis_between) := ⟨rfl, rfl, rfl, by decide +kernel, rfl, by decide +kernel, by decide +kernel⟩
abbrev sis_below : Stmt := topS 13
theorem scis_below : FnScope ["value", "limit"] ["value", "limit"] (defScope sis_below) := ⟨rfl, rfl, rfl, by decide +kernel, rfl, by decide +kernel, by decide +kernel⟩
abbrev sis_listed : Stmt := topS 14
theorem scis_listed : FnScope ["value"] ["value"] (defScope sis_listed) := ⟨rfl, rfl, rfl, by decide +kernel, rfl, by decide +kernel, by decide +kernel⟩
abbrev sare_ties : Stmt := topS 19
theorem scare_ties : FnScope ["places", "value", "tie"] ["places", "value"] (defScope sare_ties) := ⟨rfl, rfl, rfl, by decide +kernel, rfl, by decide +kernel, by decide +kernel⟩
abbrev sneed_web : Stmt := topS 21
theorem scneed_web : FnScope ["web"] ["web"] (defScope sneed_web) := ⟨rfl, rfl, rfl, by decide +kernel, rfl, by decide +kernel, by decide +kernel⟩
abbrev sare_numbers : Stmt := topS 22
theorem scare_numbers : FnScope ["web", "value", "tie"] ["web", "value"] (defScope sare_numbers) := ⟨rfl, rfl, rfl, by decide +kernel, rfl, by decide +kernel, by decide +kernel⟩
abbrev s_go_on : Stmt := topS 23
theorem sc_go_on : FnScope ["web", "value", "longest", "ties", "at"] ["web", "value", "longest"] (defScope s_go_on) := ⟨rfl, rfl, rfl, by decide +kernel, rfl, by decide +kernel, by decide +kernel⟩
abbrev sis_round : Stmt := topS 24
theorem scis_round : FnScope ["web", "value", "ties"] ["web", "value"] (defScope sis_round) := ⟨rfl, rfl, rfl, by decide +kernel, rfl, by decide +kernel, by decide +kernel⟩
abbrev sneed_tour : Stmt := topS 25
theorem scneed_tour : FnScope ["web", "tour"] ["web", "tour"] (defScope sneed_tour) := ⟨rfl, rfl, rfl, by decide +kernel, rfl, by decide +kernel, by decide +kernel⟩
abbrev s_is_mate : Stmt := topS 29
theorem sc_is_mate : FnScope ["web", "value", "near", "far", "least", "most"] ["web", "value"] (defScope s_is_mate) := ⟨rfl, rfl, rfl, by decide +kernel, rfl, by decide +kernel, by decide +kernel⟩
abbrev s_need_mates : Stmt := topS 30
theorem sc_need_mates : FnScope ["web", "mates", "mate"] ["web", "mates"] (defScope s_need_mates) := ⟨rfl, rfl, rfl, by decide +kernel, rfl, by decide +kernel, by decide +kernel⟩
abbrev s_keeps : Stmt := topS 31
theorem sc_keeps : FnScope ["tour", "mate", "near", "far", "least", "most", "size", "ahead", "at"] ["tour", "mate"] (defScope s_keeps) := ⟨rfl, rfl, rfl, by decide +kernel, rfl, by decide +kernel, by decide +kernel⟩
abbrev s_broken : Stmt := topS 32
theorem sc_broken : FnScope ["tour", "mates", "at", "mate"] ["tour", "mates"] (defScope s_broken) := ⟨rfl, rfl, rfl, by decide +kernel, rfl, by decide +kernel, by decide +kernel⟩
abbrev skeeps_mate : Stmt := topS 33
theorem sckeeps_mate : FnScope ["web", "tour", "mate"] ["web", "tour", "mate"] (defScope skeeps_mate) := ⟨rfl, rfl, rfl, by decide +kernel, rfl, by decide +kernel, by decide +kernel⟩
abbrev sbroken_mates : Stmt := topS 34
theorem scbroken_mates : FnScope ["web", "tour", "mates"] ["web", "tour", "mates"] (defScope sbroken_mates) := ⟨rfl, rfl, rfl, by decide +kernel, rfl, by decide +kernel, by decide +kernel⟩
abbrev s_law_pot : Stmt := topS 36
theorem sc_law_pot : FnScope ["_law_script", "_law_k", "_law_cell", "_law_mixed"] ["_law_script", "_law_k"] (defScope s_law_pot) := ⟨rfl, rfl, rfl, by decide +kernel, rfl, by decide +kernel, by decide +kernel⟩
abbrev s_law_draw : Stmt := topS 37
theorem sc_law_draw : FnScope ["_law_pot_here", "_law_size", "_law_digit"] ["_law_pot_here", "_law_size"] (defScope s_law_draw) := ⟨rfl, rfl, rfl, by decide +kernel, rfl, by decide +kernel, by decide +kernel⟩
abbrev s_law_pick : Stmt := topS 38
theorem sc_law_pick : FnScope ["_law_pot_here", "_law_some"] ["_law_pot_here", "_law_some"] (defScope s_law_pick) := ⟨rfl, rfl, rfl, by decide +kernel, rfl, by decide +kernel, by decide +kernel⟩
abbrev s_law_close_web : Stmt := topS 39
theorem sc_law_close_web : FnScope ["_law_pot_here", "_law_places", "_law_more", "_law_order", "_law_left", "_law_ties", "_law_turn", "_law_near", "_law_tie", "_law_spot", "_law_at"] ["_law_pot_here", "_law_places", "_law_more"] (defScope s_law_close_web) := ⟨rfl, rfl, rfl, by decide +kernel, rfl, by decide +kernel, by decide +kernel⟩
abbrev s_law_walk : Stmt := topS 40
theorem sc_law_walk : FnScope ["_law_pot_here", "_law_ties", "_law_many", "_law_found", "_law_here", "_law_some", "_law_number", "_law_tie"] ["_law_pot_here", "_law_ties", "_law_many"] (defScope s_law_walk) := ⟨rfl, rfl, rfl, by decide +kernel, rfl, by decide +kernel, by decide +kernel⟩
abbrev s_law_behind : Stmt := topS 41
theorem sc_law_behind : FnScope ["_law_tour_here", "_law_near", "_law_far", "_law_found", "_law_at", "_law_behind_here"] ["_law_tour_here", "_law_near", "_law_far"] (defScope s_law_behind) := ⟨rfl, rfl, rfl, by decide +kernel, rfl, by decide +kernel, by decide +kernel⟩
abbrev s_law_is_kept : Stmt := topS 42
theorem sc_law_is_kept : FnScope ["_law_tour_here", "_law_mate_here", "_law_near", "_law_far", "_law_least", "_law_most"] ["_law_tour_here", "_law_mate_here"] (defScope s_law_is_kept) := ⟨rfl, rfl, rfl, by decide +kernel, rfl, by decide +kernel, by decide +kernel⟩
abbrev s_law_tour : Stmt := topS 43
theorem sc_law_tour : FnScope ["_law_pot_here", "_law_ties", "_law_many", "_law_walk_here", "_law_goal", "_law_turn", "_law_here", "_law_some", "_law_number", "_law_tie"] ["_law_pot_here", "_law_ties", "_law_many"] (defScope s_law_tour) := ⟨rfl, rfl, rfl, by decide +kernel, rfl, by decide +kernel, by decide +kernel⟩
abbrev s_law_mate : Stmt := topS 44
theorem sc_law_mate : FnScope ["_law_pot_here", "_law_many", "_law_near", "_law_far", "_law_least"] ["_law_pot_here", "_law_many"] (defScope s_law_mate) := ⟨rfl, rfl, rfl, by decide +kernel, rfl, by decide +kernel, by decide +kernel⟩
abbrev s_law_right : Stmt := topS 45
theorem sc_law_right : FnScope ["_law_pot_here", "_law_places", "_law_ties", "_law_web", "_law_tour_here", "_law_mates", "_law_turn", "_law_due", "_law_at", "_law_one", "_law_number", "_law_mate_here", "_law_told"] ["_law_pot_here"] (defScope s_law_right) := ⟨rfl, rfl, rfl, by decide +kernel, rfl, by decide +kernel, by decide +kernel⟩
abbrev slaw : Stmt := topS 46
theorem sclaw : FnScope ["_law_script"] ["_law_script"] (defScope slaw) := ⟨rfl, rfl, rfl, by decide +kernel, rfl, by decide +kernel, by decide +kernel⟩
abbrev sWeb___init__ : Stmt := inClass (topS 20) 0
theorem scWeb___init__ : FnScope ["self", "places", "ties", "tie", "ends", "_"] ["self", "places", "ties"] (defScope sWeb___init__) := ⟨rfl, rfl, rfl, by decide +kernel, rfl, by decide +kernel, by decide +kernel⟩
abbrev sWeb___eq__ : Stmt := inClass (topS 20) 1
theorem scWeb___eq__ : FnScope ["self", "other"] ["self", "other"] (defScope sWeb___eq__) := ⟨rfl, rfl, rfl, by decide +kernel, rfl, by decide +kernel, by decide +kernel⟩
abbrev sWeb_places : Stmt := inClass (topS 20) 2
theorem scWeb_places : FnScope ["self"] ["self"] (defScope sWeb_places) := ⟨rfl, rfl, rfl, by decide +kernel, rfl, by decide +kernel, by decide +kernel⟩
abbrev sWeb_many : Stmt := inClass (topS 20) 3
theorem scWeb_many : FnScope ["self"] ["self"] (defScope sWeb_many) := ⟨rfl, rfl, rfl, by decide +kernel, rfl, by decide +kernel, by decide +kernel⟩
abbrev sWeb_ties : Stmt := inClass (topS 20) 4
theorem scWeb_ties : FnScope ["self"] ["self"] (defScope sWeb_ties) := ⟨rfl, rfl, rfl, by decide +kernel, rfl, by decide +kernel, by decide +kernel⟩
abbrev sWeb_ties_from : Stmt := inClass (topS 20) 5
theorem scWeb_ties_from : FnScope ["self", "place"] ["self", "place"] (defScope sWeb_ties_from) := ⟨rfl, rfl, rfl, by decide +kernel, rfl, by decide +kernel, by decide +kernel⟩
abbrev sWeb_ties_to : Stmt := inClass (topS 20) 6
theorem scWeb_ties_to : FnScope ["self", "place"] ["self", "place"] (defScope sWeb_ties_to) := ⟨rfl, rfl, rfl, by decide +kernel, rfl, by decide +kernel, by decide +kernel⟩
structure Bs (mg : Str → Option Value) : Prop where
  isinstance : mg "isinstance" = none
  int : mg "int" = none
  bool : mg "bool" = none
  list : mg "list" = none
  tuple : mg "tuple" = none
  len : mg "len" = none
  range : mg "range" = none
  abs : mg "abs" = none
  max : mg "max" = none
  min : mg "min" = none
  divmod : mg "divmod" = none
  enumerate : mg "enumerate" = none
  all : mg "all" = none
  any : mg "any" = none
  repr : mg "repr" = none
structure Glo (mg : Str → Option Value) : Prop where
  MOST_PLACES : ∃ t, mg "MOST_PLACES" = some (.int 60 t)
  MOST_TIES : ∃ t, mg "MOST_TIES" = some (.int 80 t)
  LONGEST_ROUND : ∃ t, mg "LONGEST_ROUND" = some (.int 200000 t)
  MOST_MATES : ∃ t, mg "MOST_MATES" = some (.int 20 t)
  MOST_APART : ∃ t, mg "MOST_APART" = some (.int 60 t)
structure WebK (K : PySem.W.Frag) (mg : Str → Option Value) (C : Addr) : Prop where
  cl : Cls K C
  nP : NoAttr K C "_places"
  nT : NoAttr K C "_ties"
  nF : NoAttr K C "_ties_from"
  nO : NoAttr K C "_ties_to"
  mgC : mg "Web" = some (.ref C)
  i1 : PySem.W.findIn K (.ref C) "__class__" = some (some (.builtin "object.__class__"))
  i2 : PySem.W.specialIn K (.builtin "object.__class__") "__get__" = some (some (.builtin "getset_descriptor.__get__"))
  i3 : PySem.W.takesIn K (.builtin "object.__class__") = some true
  i4 : PySem.W.mroIn K C (.type "object") = some true
  i5 : PySem.W.kitOne K (.ref C) (.ref C) = some true
  ne : PySem.W.findIn K (.ref C) "__ne__" = some (some (.builtin "object.__ne__"))
abbrev iv (L : List Nat) : List V := L.map fun n : Nat => V.int (n : Int)
theorem same_new {H : Hp} {p : Addr} (h : H p = none) (o : HO) : Same H (upd H p o) := fun b u q => by rw [upd_ne (ne_of_none q h)]; exact q
theorem iteNo {c A B : Prop} [Decidable c] (h : ¬ c) (b : B) : if decide c = true then A else B := by
  rw [decide_eq_false h]
  exact iteF b
theorem iteNot {c A B : Prop} [Decidable c] (h : ¬ c) (a : A) : if (!decide c) = true then A else B := by
  rw [decide_eq_false h]
  exact iteT a
theorem iteNot' {c A B : Prop} [Decidable c] (h : c) (b : B) : if (!decide c) = true then A else B := by
  rw [decide_eq_true h]
  exact iteF b
theorem iteNN {c A B : Prop} [Decidable c] (h : ¬ c) (b : B) : if (!!decide c) = true then A else B := by
  rw [decide_eq_false h]
  exact iteF b
theorem iv_at {L : List Nat} {j b : Nat} (h : L[j]? = some b) : atI (iv L) (j : Int) = some (.int (b : Int)) := by
  refine atI_nat ?_
  rw [iv, List.getElem?_map, h]
  rfl
theorem iv_app (L : List Nat) (n : Nat) : iv (L ++ [n]) = iv L ++ [V.int (n : Int)] := by
  unfold iv
  rw [List.map_append]
  rfl
theorem same_upd {H H' : Hp} {p : Addr} {o : HO} (h : Same H H') (np : H p = none) : Same H (upd H' p o) := fun b u q => by
  rw [upd_ne (ne_of_none q np)]
  exact h b u q
theorem iteYes {c A B : Prop} [Decidable c] (h : c) (a : A) : if decide c = true then A else B := by
  rw [decide_eq_true h]
  exact iteT a
theorem bl_true {c : Prop} [Decidable c] {Q : VK} {H : Hp} (h : c) (q : Q (.bl true) H) : Q (.bl (decide c)) H := by
  rw [decide_eq_true h]
  exact q
theorem int_eq {a b : Int} : V.int a = V.int b ↔ a = b := ⟨fun h => V.int.inj h, fun h => by rw [h]⟩
/-! ### lists of ints compared -/
abbrev iz (L : List Int) : List V := L.map V.int
theorem iv_iz (L : List Nat) : iv L = iz (L.map fun n : Nat => (n : Int)) := by
  unfold iv iz
  rw [List.map_map]
  rfl
abbrev dz (L : List Int) : PyData := .list (L.map PyData.int)
theorem dpAll_iz {K : PySem.W.Frag} {H : Hp} : ∀ L : List Int, DpAll K H (iz L) (L.map PyData.int)
  | [] => .nil
  | n :: r => .cons (.int n) (dpAll_iz r)
theorem dp_iz {K : PySem.W.Frag} {H : Hp} {p : Addr} {L : List Int} (h : H p = some (.lst (iz L))) : Dp K H (.ref p) (dz L) := .lst (SqL.of h) (dpAll_iz L)
theorem layAll_iz : ∀ L : List Int, PyData.canLayAll0 (L.map PyData.int) = true
  | [] => rfl
  | n :: r => by
    show (PyData.canLay0 (.int n) && PyData.canLayAll0 (r.map PyData.int)) = true
    rw [layAll_iz r]
    rfl
theorem depthAll_iz : ∀ L : List Int, PyData.depthAll (L.map PyData.int) = 0
  | [] => rfl
  | n :: r => by
    show max (PyData.depth (.int n)) (PyData.depthAll (r.map PyData.int)) = 0
    rw [depthAll_iz r]
    rfl
theorem shaped_iz (L : List Int) : SeqAt.shaped (dz L) = true := by
  unfold SeqAt.shaped
  have h1 : PyData.canLay0 (dz L) = true := by
    show PyData.canLay0 (.list (L.map PyData.int)) = true
    unfold PyData.canLay0
    exact layAll_iz L
  have h2 : PyData.depth (dz L) = 1 := by
    show PyData.depth (.list (L.map PyData.int)) = 1
    unfold PyData.depth
    rw [depthAll_iz]
  rw [h1, h2]
  rfl
theorem eqv_same (L : List Int) : PyData.eqv (dz L) (dz L) = true := by
  have h1 : PyData.canLay0 (dz L) = true := by
    show PyData.canLay0 (.list (L.map PyData.int)) = true
    unfold PyData.canLay0
    exact layAll_iz L
  exact SeqAt.eqv_refl _ h1
theorem eqv_empty (L : List Int) : PyData.eqv (dz L) (dz []) = decide (L = []) := by
  cases L with
  | nil => rfl
  | cons n r => rfl
theorem iteNb {x : Bool} {A B : Prop} (h : x = true) (b : B) : if (!x) = true then A else B := by
  rw [h]
  exact iteF b
theorem bl_is {x : Bool} {Q : VK} {H : Hp} (h : x = true) (q : Q (.bl true) H) : Q (.bl x) H := by
  rw [h]
  exact q
/-! ### webs in the heap -/
def Kept (a : Addr) (H H' : Hp) : Prop := ∀ b o, H b = some o → b ≠ a → H' b = some o
theorem Kept.trans {a : Addr} {H H1 H2 : Hp} (h : Kept a H H1) (h2 : Kept a H1 H2) : Kept a H H2 := fun b o e n => h2 b o (h b o e n) n
theorem Same.kept {a : Addr} {H H' : Hp} (h : Same H H') : Kept a H H' := fun b o e _ => h b o e
theorem paired_get {α β : Type} {F : α → β → Prop} : ∀ {l1 : List α} {l2 : List β} {i : Nat} {a : α}, Paired F l1 l2 → l1[i]? = some a → ∃ b, l2[i]? = some b ∧ F a b
  | _, _, _, _, .nil, h => by simp at h
  | _, _, 0, _, .cons r _, h => ⟨_, rfl, by cases h; exact r⟩
  | _, _, i + 1, _, .cons _ t, h => by
    obtain ⟨b, h1, h2⟩ := paired_get (i := i) t (by simpa using h)
    exact ⟨b, by simpa using h1, h2⟩
theorem paired_mono {α β : Type} {F G : α → β → Prop} (h : ∀ a b, F a b → G a b) : ∀ {l1 : List α} {l2 : List β}, Paired F l1 l2 → Paired G l1 l2
  | _, _, .nil => .nil
  | _, _, .cons a r => .cons (h _ _ a) (paired_mono h r)
theorem paired_len {α β : Type} {F : α → β → Prop} : ∀ {l1 : List α} {l2 : List β}, Paired F l1 l2 → l1.length = l2.length
  | _, _, .nil => rfl
  | _, _, .cons _ r => congrArg Nat.succ (paired_len r)
def TupAt (H : Hp) (p : Addr) (e : Nat × Nat) : Prop := H p = some (.tup [.int (e.1 : Int), .int (e.2 : Int)])
def TiesAt (H : Hp) (t : Addr) (ts : List (Nat × Nat)) : Prop := ∃ tas : List Addr, H t = some (.lst (tas.map V.ref)) ∧ Paired (TupAt H) tas ts
theorem TiesAt.same {H H' : Hp} {t : Addr} {ts : List (Nat × Nat)} (h : TiesAt H t ts) (s : Same H H') : TiesAt H' t ts := by
  obtain ⟨tas, h1, h2⟩ := h
  exact ⟨tas, s _ _ h1, paired_mono (fun p e hp => s _ _ hp) h2⟩
structure OkWeb (N : Nat) (ts : List (Nat × Nat)) : Prop where
  n0 : 0 < N
  n1 : N ≤ 60
  m : ts.length ≤ 80
  ok : ∀ e ∈ ts, e.1 < N ∧ e.2 < N
section
variable {P : Program} {w : World} {K : PySem.W.Frag} {mg : Str → Option Value} {base : Heap} {C : Addr}
def spis_integer (_ : PySem.W.Frag) (_ : Addr) : Sp := fun vs H Q _ => ∃ n : Int, vs = [.int n] ∧ Q (.bl true) H
theorem okis_integer (D : Def K mg "is_integer" sis_integer ["value"]) (B : Bs mg) (Glb : Glo mg) (WK : WebK K mg C) :
    Good P w K mg base "is_integer" sis_integer ["value"] 1 (spis_integer K C) := by
  refine D.good fun f fd F => ?_
  refine F.ok scis_integer (fun vs H Q E h => ?_) (fun cdv A outer s H vs Q E hr h => ?_)
  · obtain ⟨n, rfl, q⟩ := h
    first | rfl | (rcases h with ⟨_, _, rfl, _⟩ | ⟨_, rfl, _⟩ <;> rfl)
  obtain ⟨n, rfl, q⟩ := h
  refine ⟨_, (pss_one (ps_ret (pe_and (pe_callB call_isi (by rfl) B.isinstance (by decide +kernel) (pa_cons (pv 0) (pa_cons (pe_bltn (v := .ty "int") (by rfl) B.int (by decide +kernel) rfl) pa_nil))) (pe_one (pe_not (pe_callB call_isi (by rfl) B.isinstance (by decide +kernel) (pa_cons (pv 0) (pa_cons (pe_bltn (v := .ty "bool") (by rfl) B.bool (by decide +kernel) rfl) pa_nil)))))))), ?_⟩
  exact ⟨_, rfl, _, _, _, _, true, rfl, .ty _, .base (.int n), kit_ty (by decide +kernel), _, rfl, iteT ⟨_, rfl, _, _, _, _, false, rfl, .ty _, .base (.int n), kit_ty (by decide +kernel), _, rfl, q⟩⟩
def spis_count (_ : PySem.W.Frag) (_ : Addr) : Sp := fun vs H Q _ => ∃ n : Nat, vs = [.int (n : Int)] ∧ Q (.bl true) H
theorem okis_count (D : Def K mg "is_count" sis_count ["value"]) (B : Bs mg) (Glb : Glo mg) (WK : WebK K mg C)
    (his_integer : Good P w K mg base "is_integer" sis_integer ["value"] 1 (spis_integer K C)) :
    Good P w K mg base "is_count" sis_count ["value"] 2 (spis_count K C) := by
  refine D.good fun f fd F => ?_
  obtain ⟨fis_integer, dis_integer, Ois_integer, mis_integer, kis_integer, bis_integer, Fis_integer⟩ := his_integer
  refine F.ok scis_count (fun vs H Q E h => ?_) (fun cdv A outer s H vs Q E hr h => ?_)
  · obtain ⟨n, rfl, q⟩ := h
    first | rfl | (rcases h with ⟨_, _, rfl, _⟩ | ⟨_, rfl, _⟩ <;> rfl)
  obtain ⟨n, rfl, q⟩ := h
  refine ⟨_, (pss_one (ps_ret (pe_and (pe_call Ois_integer hr rfl mis_integer kis_integer bis_integer .nil pass0 (pa_cons (pv 0) pa_nil)) (pe_one (pe_cmpR op_ge (pv 0) pe_int (nomark _)))))), ?_⟩
  exact ⟨_, rfl, n, rfl, _, rfl, iteT ⟨_, rfl, _, _, rfl, rfl, bl_true (by omega) q⟩⟩
def spis_between (_ : PySem.W.Frag) (_ : Addr) : Sp := fun vs H Q _ => ∃ n a b : Int, vs = [.int n, .int a, .int b] ∧ a ≤ n ∧ n ≤ b ∧ Q (.bl true) H
theorem okis_between (D : Def K mg "is_between" sis_between ["value", "least", "most"]) (B : Bs mg) (Glb : Glo mg) (WK : WebK K mg C)
    (his_integer : Good P w K mg base "is_integer" sis_integer ["value"] 1 (spis_integer K C)) :
    Good P w K mg base "is_between" sis_between ["value", "least", "most"] 2 (spis_between K C) := by
  refine D.good fun f fd F => ?_
  obtain ⟨fis_integer, dis_integer, Ois_integer, mis_integer, kis_integer, bis_integer, Fis_integer⟩ := his_integer
  refine F.ok scis_between (fun vs H Q E h => ?_) (fun cdv A outer s H vs Q E hr h => ?_)
  · obtain ⟨n, a, b, rfl, h1, h2, q⟩ := h
    first | rfl | (rcases h with ⟨_, _, rfl, _⟩ | ⟨_, rfl, _⟩ <;> rfl)
  obtain ⟨n, a, b, rfl, h1, h2, q⟩ := h
  refine ⟨_, (pss_one (ps_ret (pe_and (pe_call Ois_integer hr rfl mis_integer kis_integer bis_integer .nil pass0 (pa_cons (pv 0) pa_nil)) (pe_one (pe_chain op_le op_le (pv 1) (pv 0) (pv 2)))))), ?_⟩
  exact ⟨_, rfl, n, rfl, _, rfl, iteT ⟨_, rfl, _, rfl, _, _, rfl, rfl, _, rfl, iteYes h1 ⟨_, rfl, _, _, rfl, rfl, bl_true h2 q⟩⟩⟩
def spis_below (_ : PySem.W.Frag) (_ : Addr) : Sp := fun vs H Q _ => ∃ n : Nat, ∃ m : Int, vs = [.int (n : Int), .int m] ∧ (n : Int) < m ∧ Q (.bl true) H
theorem okis_below (D : Def K mg "is_below" sis_below ["value", "limit"]) (B : Bs mg) (Glb : Glo mg) (WK : WebK K mg C)
    (his_count : Good P w K mg base "is_count" sis_count ["value"] 2 (spis_count K C)) :
    Good P w K mg base "is_below" sis_below ["value", "limit"] 3 (spis_below K C) := by
  refine D.good fun f fd F => ?_
  obtain ⟨fis_count, dis_count, Ois_count, mis_count, kis_count, bis_count, Fis_count⟩ := his_count
  refine F.ok scis_below (fun vs H Q E h => ?_) (fun cdv A outer s H vs Q E hr h => ?_)
  · obtain ⟨n, m, rfl, h1, q⟩ := h
    first | rfl | (rcases h with ⟨_, _, rfl, _⟩ | ⟨_, rfl, _⟩ <;> rfl)
  obtain ⟨n, m, rfl, h1, q⟩ := h
  refine ⟨_, (pss_one (ps_ret (pe_and (pe_call Ois_count hr rfl mis_count kis_count bis_count .nil pass0 (pa_cons (pv 0) pa_nil)) (pe_one (pe_cmpR op_lt (pv 0) (pv 1) (nomark _)))))), ?_⟩
  exact ⟨_, rfl, n, rfl, _, rfl, iteT ⟨_, rfl, _, rfl, _, _, rfl, rfl, bl_true h1 q⟩⟩
def spis_listed (_ : PySem.W.Frag) (_ : Addr) : Sp := fun vs H Q _ => ∃ a, vs = [.ref a] ∧ ((∃ xs, H a = some (.lst xs)) ∨ (∃ xs, H a = some (.tup xs))) ∧ ∀ H', Same H H' → Q (.bl true) H'
theorem okis_listed (D : Def K mg "is_listed" sis_listed ["value"]) (B : Bs mg) (Glb : Glo mg) (WK : WebK K mg C) :
    Good P w K mg base "is_listed" sis_listed ["value"] 1 (spis_listed K C) := by
  refine D.good fun f fd F => ?_
  refine F.ok scis_listed (fun vs H Q E h => ?_) (fun cdv A outer s H vs Q E hr h => ?_)
  · obtain ⟨a, rfl, ha, q⟩ := h
    first | rfl | (rcases h with ⟨_, _, rfl, _⟩ | ⟨_, rfl, _⟩ <;> rfl)
  obtain ⟨a, rfl, ha, q⟩ := h
  refine ⟨_, (pss_one (ps_ret (pe_callB call_isiT (by rfl) B.isinstance (by decide +kernel) (pa_cons (pv 0) (pa_cons (pe_tup (pa_cons (pe_bltn (v := .ty "list") (by rfl) B.list (by decide +kernel) rfl) (pa_cons (pe_bltn (v := .ty "tuple") (by rfl) B.tuple (by decide +kernel) rfl) pa_nil))) pa_nil))))), ?_⟩
  refine ⟨_, rfl, (by show 2 ≤ sizeLine; decide), fun tp ntp => ?_⟩
  rcases ha with ⟨xs, ha⟩ | ⟨xs, ha⟩
  · exact ⟨_, tp, [.ty "list", .ty "tuple"], .type "list", [.type "list", .type "tuple"], true, rfl, upd_same, .cons (.ty _) (.cons (.ty _) .nil), .base (.lst (same_new ntp _ _ _ ha)), kitAny_cons (b := true) (kit_ty (by decide +kernel)) (fun h => by cases h) (fun _ => rfl), q _ (same_new ntp _)⟩
  · exact ⟨_, tp, [.ty "list", .ty "tuple"], .type "tuple", [.type "list", .type "tuple"], true, rfl, upd_same, .cons (.ty _) (.cons (.ty _) .nil), .base (.tup (same_new ntp _ _ _ ha)), kitAny_cons (b := false) (kit_ty (by decide +kernel)) (fun _ => kitAny_cons (b := true) (kit_ty (by decide +kernel)) (fun h => by cases h) (fun _ => rfl)) (fun h => by cases h), q _ (same_new ntp _)⟩
def spare_ties (_ : PySem.W.Frag) (_ : Addr) : Sp := fun vs H Q _ => ∃ N : Nat, ∃ t ts, vs = [.int (N : Int), .ref t] ∧ OkWeb N ts ∧ TiesAt H t ts ∧ ∀ H', Same H H' → Q (.bl true) H'
theorem okare_ties (D : Def K mg "are_ties" sare_ties ["places", "value"]) (B : Bs mg) (Glb : Glo mg) (WK : WebK K mg C)
    (his_listed : Good P w K mg base "is_listed" sis_listed ["value"] 1 (spis_listed K C))
    (his_below : Good P w K mg base "is_below" sis_below ["value", "limit"] 3 (spis_below K C)) :
    Good P w K mg base "are_ties" sare_ties ["places", "value"] 4 (spare_ties K C) := by
  refine D.good fun f fd F => ?_
  obtain ⟨fis_listed, dis_listed, Ois_listed, mis_listed, kis_listed, bis_listed, Fis_listed⟩ := his_listed
  obtain ⟨fis_below, dis_below, Ois_below, mis_below, kis_below, bis_below, Fis_below⟩ := his_below
  refine F.ok scare_ties (fun vs H Q E h => ?_) (fun cdv A outer s H vs Q E hr h => ?_)
  · obtain ⟨N, t, ts, rfl, ho, ⟨tas, ht, hP⟩, q⟩ := h
    first | rfl | (rcases h with ⟨_, _, rfl, _⟩ | ⟨_, rfl, _⟩ <;> rfl)
  obtain ⟨N, t, ts, rfl, ho, ⟨tas, ht, hP⟩, q⟩ := h
  refine ⟨_, (pss_cons (ps_if (PW.pt (pw_or (pt_not (pt_val (pe_call Ois_listed (hr.mono (by decide)) rfl mis_listed kis_listed bis_listed .nil pass0 (pa_cons (pv 1) pa_nil)))) (pw_or1 (pt_cmpR op_gt (pe_callB call_len_seq (by rfl) B.len (by decide +kernel) (pa_cons (pv 1) pa_nil)) (pe_globI Glb.MOST_TIES) (nomark _)))))
    (pss_one (ps_ret pe_bl)) pss_nil)
  (pss_cons (ps_for PassesOwn.never rfl (pi_list (pv 1)) (pg_name (i := 2) scare_ties.nd rfl (by first | exact Or.inl rfl | exact Or.inr rfl))
    (pss_cons (ps_if (PW.pt (pw_or (pt_not (pt_val (pe_callB call_isi (by rfl) B.isinstance (by decide +kernel) (pa_cons (pv 2) (pa_cons (pe_bltn (v := .ty "tuple") (by rfl) B.tuple (by decide +kernel) rfl) pa_nil))))) (pw_or1 (pt_cmpR op_ne (pe_callB call_len_seq (by rfl) B.len (by decide +kernel) (pa_cons (pv 2) pa_nil)) pe_int (nomark _)))))
    (pss_one (ps_ret pe_bl)) pss_nil)
  (pss_one (ps_if (PW.pt (pw_or (pt_not (pt_val (pe_call Ois_below hr rfl mis_below kis_below bis_below .nil pass0 (pa_cons (pe_ix ix_tup (pv 2) pe_int (fun _ _ => rfl)) (pa_cons (pv 0) pa_nil))))) (pw_or1 (pt_not (pt_val (pe_call Ois_below hr rfl mis_below kis_below bis_below .nil pass0 (pa_cons (pe_ix ix_tup (pv 2) pe_int (fun _ _ => rfl)) (pa_cons (pv 0) pa_nil))))))))
    (pss_one (ps_ret pe_bl)) pss_nil))))
  (pss_one (ps_ret pe_bl)))), ?_⟩
  have hlen := paired_len hP
  have hm := ho.m
  refine ⟨_, rfl, t, rfl, .inl ⟨_, ht⟩, fun H1 hS1 => ⟨_, rfl, iteF ⟨_, rfl, _, _, rfl, .inl (SqL.of (hS1 _ _ ht)), _, _, rfl, rfl, _, rfl, iteNo (by rw [List.length_map]; omega) ?_⟩⟩⟩
  refine ⟨_, rfl, t, rfl, ⟨_, SqL.of (hS1 _ _ ht)⟩, for_list (K := K) (a := t) (xs := tas.map V.ref) (fun i σ H' => Same H H' ∧ ∃ v, σ = [some (.int (N : Int)), some (.ref t), v]) ⟨hS1, none, rfl⟩ (fun i σ H' _ ⟨hS', _⟩ => SqL.of (hS' _ _ ht)) ?_ ?_⟩
  · rintro i x σ H2 hx ⟨hS2, v, rfl⟩
    rw [List.getElem?_map] at hx
    obtain ⟨p, hp, rfl⟩ : ∃ p, tas[i]? = some p ∧ x = V.ref p := by
      cases e : tas[i]? with
      | none => rw [e] at hx; cases hx
      | some p => rw [e] at hx; exact ⟨p, rfl, (Option.some.inj hx).symm⟩
    obtain ⟨⟨u, v⟩, he, hpe⟩ := paired_get hP hp
    have hp2 : H2 p = some (.tup [.int (u : Int), .int (v : Int)]) := hS2 _ _ hpe
    obtain ⟨hu, hv⟩ := ho.ok _ (List.mem_of_getElem? he)
    refine ⟨_, rfl, _, _, _, _, true, rfl, .ty _, .base (.tup hp2), kit_ty (by decide +kernel), _, rfl, iteF ⟨_, rfl, _, _, rfl, .inr (SqT.of hp2), rfl, _, rfl, iteNS rfl ?_⟩⟩
    refine ⟨_, rfl, _, _, _, .int (u : Int), rfl, rfl, SqT.of hp2, rfl, _, rfl, u, N, rfl, by omega, _, rfl, iteF ⟨_, rfl, _, _, _, .int (v : Int), rfl, rfl, SqT.of hp2, rfl, _, rfl, v, N, rfl, by omega, _, rfl, iteF ?_⟩⟩
    exact ⟨hS2, _, rfl⟩
  · rintro σ H2 ⟨hS2, v, rfl⟩
    exact q H2 hS2
end
end My
namespace My
open PySem L2 PyProof.Rows
/-! ### numbers of ties from a place -/
def frmN (ts : List (Nat × Nat)) (p : Nat) : Nat → List Nat
  | 0 => []
  | i + 1 => if (ts[i]?.map Prod.fst) = some p then frmN ts p i ++ [i] else frmN ts p i
abbrev frm (ts : List (Nat × Nat)) (p : Nat) : List Nat := frmN ts p ts.length
theorem frmN_len (ts : List (Nat × Nat)) (p : Nat) : ∀ i, (frmN ts p i).length ≤ i
  | 0 => by simp [frmN]
  | i + 1 => by
    have := frmN_len ts p i
    unfold frmN
    split
    · simp; omega
    · omega
theorem frmN_mem (ts : List (Nat × Nat)) (p x : Nat) : ∀ i, x ∈ frmN ts p i ↔ x < i ∧ ts[x]?.map Prod.fst = some p
  | 0 => by simp [frmN]
  | i + 1 => by
    have ih := frmN_mem ts p x i
    unfold frmN
    split
    · rename_i c
      rw [List.mem_append, ih, List.mem_singleton]
      constructor
      · rintro (⟨h1, h2⟩ | rfl)
        · exact ⟨by omega, h2⟩
        · exact ⟨by omega, c⟩
      · rintro ⟨h1, h2⟩
        by_cases z : x = i
        · exact .inr z
        · exact .inl ⟨by omega, h2⟩
    · rename_i c
      rw [ih]
      constructor
      · rintro ⟨h1, h2⟩
        exact ⟨by omega, h2⟩
      · rintro ⟨h1, h2⟩
        refine ⟨?_, h2⟩
        by_cases z : x = i
        · subst z; exact absurd h2 c
        · omega
theorem nodup_get {α : Type} {L : List α} {j k : Nat} {x : α} (hn : L.Nodup) (h1 : L[j]? = some x) (h2 : L[k]? = some x) : j = k :=
  (List.getElem?_inj (List.getElem?_eq_some_iff.mp h1).1 hn).mp (h1.trans h2.symm)
/-! ### new empty lists -/
def Fresh (H1 : Hp) (D : Addr) (n : Nat) (H' : Hp) : Prop := ∃ fas : List Addr, fas.length = n ∧ fas.Nodup ∧ (∀ x ∈ fas, H1 x = none ∧ x ≠ D) ∧ Same H1 H' ∧ H' D = some (.lst (fas.map V.ref)) ∧ ∀ x ∈ fas, H' x = some (.lst [])
theorem Fresh.zero {H1 : Hp} {D : Addr} (h : H1 D = none) : Fresh H1 D 0 (upd H1 D (.lst [])) :=
  ⟨[], rfl, by simp, fun x h => by simp at h, same_new h _, upd_same, fun x h => by simp at h⟩
theorem Fresh.step {H1 H2 : Hp} {D p : Addr} {n : Nat} (h : Fresh H1 D n H2) (nD : H1 D = none) (hn : n < 1000) (np : H2 p = none) :
    ∃ acc, upd H2 p (.lst []) D = some (.lst acc) ∧ acc.length < sizeLine ∧ Fresh H1 D (n + 1) (upd (upd H2 p (.lst [])) D (.lst (acc ++ [.ref p]))) := by
  obtain ⟨fas, h1, h2, h3, h4, h5, h6⟩ := h
  have hpD : D ≠ p := ne_of_none h5 np
  refine ⟨fas.map V.ref, by rw [upd_ne hpD]; exact h5, by rw [List.length_map, h1]; exact Nat.lt_trans hn (by decide), fas ++ [p], by simp [h1], ?_, ?_, ?_, by rw [upd_same, List.map_append]; rfl, ?_⟩
  · rw [List.nodup_append]
    refine ⟨h2, by simp, fun x hx y hy => ?_⟩
    rw [List.mem_singleton.mp hy]
    rintro rfl
    rw [h6 _ hx] at np
    cases np
  · intro x hx
    rcases List.mem_append.mp hx with z | z
    · exact h3 x z
    · rw [List.mem_singleton.mp z]
      exact ⟨h4.free np, hpD.symm⟩
  · intro b o e
    rw [upd_ne (ne_of_none e nD), upd_ne (ne_of_none (h4 _ _ e) np)]
    exact h4 _ _ e
  · intro x hx
    rcases List.mem_append.mp hx with z | z
    · rw [upd_ne (h3 x z).2, upd_ne (ne_of_none (h6 x z) np)]
      exact h6 x z
    · rw [List.mem_singleton.mp z, upd_ne hpD.symm, upd_same]
/-- rows: heaps that keep what H held, but for these lists -/
def KeptR (R : List Addr) (H H' : Hp) : Prop := ∀ b o, H b = some o → b ∉ R → H' b = some o
theorem KeptR.refl (R : List Addr) (H : Hp) : KeptR R H H := fun _ _ h _ => h
theorem KeptR.new {R : List Addr} {H H' : Hp} {p : Addr} {o : HO} (h : KeptR R H H') (np : H' p = none) : KeptR R H (upd H' p o) := fun b u e n => by
  have := h b u e n
  rw [upd_ne (ne_of_none this np)]
  exact this
theorem KeptR.put {R : List Addr} {H H' : Hp} {p : Addr} {o : HO} (h : KeptR R H H') (hp : p ∈ R) : KeptR R H (upd H' p o) := fun b u e n => by
  rw [upd_ne (fun z => n (by rw [z]; exact hp))]
  exact h b u e n
/-! ### webs -/
def wf (N : Nat) (tl fl ol : Addr) : List (Str × V) := putF "_ties_to" (.ref ol) (putF "_ties_from" (.ref fl) (putF "_ties" (.ref tl) (putF "_places" (.int (N : Int)) [])))
theorem wf_P (N : Nat) (tl fl ol : Addr) : (wf N tl fl ol).lookup ("_places" : Str) = some (.int (N : Int)) := by
  unfold wf
  rw [lookup_putF, if_neg (by decide +kernel), lookup_putF, if_neg (by decide +kernel), lookup_putF, if_neg (by decide +kernel), lookup_putF, if_pos rfl]
theorem wf_T (N : Nat) (tl fl ol : Addr) : (wf N tl fl ol).lookup ("_ties" : Str) = some (.ref tl) := by
  unfold wf
  rw [lookup_putF, if_neg (by decide +kernel), lookup_putF, if_neg (by decide +kernel), lookup_putF, if_pos rfl]
theorem wf_F (N : Nat) (tl fl ol : Addr) : (wf N tl fl ol).lookup ("_ties_from" : Str) = some (.ref fl) := by
  unfold wf
  rw [lookup_putF, if_neg (by decide +kernel), lookup_putF, if_pos rfl]
theorem wf_O (N : Nat) (tl fl ol : Addr) : (wf N tl fl ol).lookup ("_ties_to" : Str) = some (.ref ol) := by
  unfold wf
  rw [lookup_putF, if_pos rfl]
theorem wf_no (N : Nat) (tl fl ol : Addr) {m : Str} (h1 : ¬ m = "_ties_to") (h2 : ¬ m = "_ties_from") (h3 : ¬ m = "_ties") (h4 : ¬ m = "_places") : (wf N tl fl ol).lookup m = none := by
  unfold wf
  rw [lookup_putF, if_neg h1, lookup_putF, if_neg h2, lookup_putF, if_neg h3, lookup_putF, if_neg h4]
  all_goals rfl
theorem putF_len (f : Str) (v : V) : ∀ l : List (Str × V), (putF f v l).length ≤ l.length + 1
  | [] => by simp [putF]
  | (g, x) :: r => by
    have := putF_len f v r
    unfold putF
    split
    · simp
    · simp; omega
def RowsAt (H : Hp) (p : Addr) (N : Nat) (f : Nat → List Nat) : Prop := ∃ fas : List Addr, H p = some (.lst (fas.map V.ref)) ∧ fas.length = N ∧ ∀ j x, fas[j]? = some x → H x = some (.lst (iv (f j)))
theorem RowsAt.same {H H' : Hp} {p : Addr} {N : Nat} {f : Nat → List Nat} (h : RowsAt H p N f) (s : Same H H') : RowsAt H' p N f := by
  obtain ⟨fas, h1, h2, h3⟩ := h
  exact ⟨fas, s _ _ h1, h2, fun j x e => s _ _ (h3 j x e)⟩
theorem RowsAt.get {H : Hp} {p : Addr} {N : Nat} {f : Nat → List Nat} (h : RowsAt H p N f) {j : Nat} (hj : j < N) : ∃ x xs, H p = some (.lst xs) ∧ atI xs (j : Int) = some (.ref x) ∧ H x = some (.lst (iv (f j))) := by
  obtain ⟨fas, h1, h2, h3⟩ := h
  have e : fas[j]? = some (fas[j]'(by omega)) := List.getElem?_eq_getElem _
  refine ⟨_, _, h1, atI_nat ?_, h3 j _ e⟩
  rw [List.getElem?_map, e]
  rfl
def WebAt (C a : Addr) (N : Nat) (ts : List (Nat × Nat)) (H : Hp) : Prop := ∃ dx tl fl ol, H a = some (.ins C dx (wf N tl fl ol)) ∧ TiesAt H tl ts ∧ RowsAt H fl N (frm ts)
theorem WebAt.same {C a : Addr} {N : Nat} {ts : List (Nat × Nat)} {H H' : Hp} (h : WebAt C a N ts H) (s : Same H H') : WebAt C a N ts H' := by
  obtain ⟨dx, tl, fl, ol, h1, h2, h3⟩ := h
  exact ⟨dx, tl, fl, ol, s _ _ h1, h2.same s, h3.same s⟩
/-- what is new in H' or a tuple, and what stands at a -/
noncomputable def Sub (H H' : Hp) (a : Addr) : Hp := fun b => by
  classical
  exact if H b = none ∨ b = a ∨ ∃ xs, H' b = some (.tup xs) then H' b else none
theorem Sub.of {H H' : Hp} {a b : Addr} {o : HO} (h : H' b = some o) (k : H b = none ∨ b = a ∨ ∃ xs, H' b = some (.tup xs)) : Sub H H' a b = some o := by
  unfold Sub
  rw [if_pos k]
  exact h
theorem Sub.same {H H' : Hp} {a : Addr} : Same (Sub H H' a) H' := fun b o e => by
  unfold Sub at e
  split at e
  · exact e
  · cases e
theorem Sub.none {H H' : Hp} {a b : Addr} {xs : List V} (h : H b = some (.lst xs)) (n : b ≠ a) (k : H' b = some (.lst xs)) : Sub H H' a b = Option.none := by
  unfold Sub
  rw [if_neg]
  rintro (z | z | ⟨ys, z⟩)
  · rw [h] at z; cases z
  · exact n z
  · rw [k] at z; cases z
section
variable {P : Program} {w : World} {K : PySem.W.Frag} {mg : Str → Option Value} {base : Heap} {C : Addr}
def spWeb___init__ (_ : PySem.W.Frag) (C : Addr) : Sp := fun vs H Q _ => ∃ a dx N t ts, vs = [.ref a, .int ((N : Nat) : Int), .ref t] ∧ OkWeb N ts ∧ TiesAt H t ts ∧ H a = some (.ins C dx []) ∧ ∀ H', Kept a H H' → WebAt C a N ts (Sub H H' a) → Q .non H'
theorem okWeb___init__ (D : DefI K C "__init__" "Web.__init__" sWeb___init__ ["self", "places", "ties"]) (B : Bs mg) (Glb : Glo mg) (WK : WebK K mg C)
    (his_between : Good P w K mg base "is_between" sis_between ["value", "least", "most"] 2 (spis_between K C))
    (hare_ties : Good P w K mg base "are_ties" sare_ties ["places", "value"] 4 (spare_ties K C)) :
    GoodI P w K mg base C "__init__" "Web.__init__" sWeb___init__ ["self", "places", "ties"] 5 (spWeb___init__ K C) := by
  refine D.good fun f fd F => ?_
  obtain ⟨fis_between, dis_between, Ois_between, mis_between, kis_between, bis_between, Fis_between⟩ := his_between
  obtain ⟨fare_ties, dare_ties, Oare_ties, mare_ties, kare_ties, bare_ties, Fare_ties⟩ := hare_ties
  refine F.ok scWeb___init__ (fun vs H Q E h => ?_) (fun cdv A outer s H vs Q E hr h => ?_)
  · obtain ⟨a, dx, N, t, ts, rfl, ho, ht, ha, q⟩ := h
    first | rfl | (rcases h with ⟨_, _, rfl, _⟩ | ⟨_, rfl, _⟩ <;> rfl)
  obtain ⟨a, dx, N, t, ts, rfl, ho, ht, ha, q⟩ := h
  refine ⟨_, (pss_cons (ps_if (pt_not (pt_val (pe_call Ois_between (hr.mono (by decide)) rfl mis_between kis_between bis_between .nil pass0 (pa_cons (pv 1) (pa_cons pe_int (pa_cons (pe_globI Glb.MOST_PLACES) pa_nil))))))
    (pss_one ps_never) pss_nil)
  (pss_cons (ps_if (pt_not (pt_val (pe_call Oare_ties hr rfl mare_ties kare_ties bare_ties .nil pass0 (pa_cons (pv 1) (pa_cons (pv 2) pa_nil)))))
    (pss_one ps_never) pss_nil)
  (pss_cons (ps_fld (pv 0) (pv 1) rfl)
  (pss_cons (ps_fld (pv 0) (pe_callTy call_list_of (by rfl) B.list (by decide +kernel) (pa_cons (pv 2) pa_nil)) rfl)
  (pss_cons (ps_fld (pv 0) (pe_lc (own := [("_", 5)]) (g := gName 5) (by rfl) scWeb___init__.nd (pi_range1 (by rfl) B.range (pa_cons (pv 1) pa_nil)) (blkOk_by (own := [("_", 5)]) (N := ["self", "places", "ties", "tie", "ends", "_"]) (sc := defScope sWeb___init__) (by decide +kernel)) (fun _ _ _ _ _ => (pg_name (i := 5) scWeb___init__.nd rfl (by first | exact Or.inl rfl | exact Or.inr rfl))) (fun _ _ _ _ _ => pts_nil) (fun _ _ _ _ _ => (pe_lst pa_nil))) rfl)
  (pss_cons (ps_fld (pv 0) (pe_lc (own := [("_", 5)]) (g := gName 5) (by rfl) scWeb___init__.nd (pi_range1 (by rfl) B.range (pa_cons (pv 1) pa_nil)) (blkOk_by (own := [("_", 5)]) (N := ["self", "places", "ties", "tie", "ends", "_"]) (sc := defScope sWeb___init__) (by decide +kernel)) (fun _ _ _ _ _ => (pg_name (i := 5) scWeb___init__.nd rfl (by first | exact Or.inl rfl | exact Or.inr rfl))) (fun _ _ _ _ _ => pts_nil) (fun _ _ _ _ _ => (pe_lst pa_nil))) rfl)
  (pss_one (ps_for PassesOwn.never rfl (pi_enum (by rfl) B.enumerate (pa_cons (pe_fld (pv 0) rfl) pa_nil)) (pg_tup rfl (pgs_cons (pg_name (i := 3) scWeb___init__.nd rfl (by first | exact Or.inl rfl | exact Or.inr rfl)) (pgs_cons (pg_name (i := 4) scWeb___init__.nd rfl (by first | exact Or.inl rfl | exact Or.inr rfl)) pgs_nil)))
    (pss_cons (ps_expr (pe_bm PySem.F.plainAttrs_list PySem.F.slot_list_append PySem.F.type_list_append mt_append (pe_ix ix_list (pe_fld (pv 0) rfl) (pe_ix ix_tup (pv 4) pe_int (fun _ _ => rfl)) (fun _ _ => rfl)) (pa_cons (pv 3) pa_nil)))
  (pss_one (ps_expr (pe_bm PySem.F.plainAttrs_list PySem.F.slot_list_append PySem.F.type_list_append mt_append (pe_ix ix_list (pe_fld (pv 0) rfl) (pe_ix ix_tup (pv 4) pe_int (fun _ _ => rfl)) (fun _ _ => rfl)) (pa_cons (pv 3) pa_nil))))))))))))), ?_⟩
  refine ⟨_, rfl, (N : Int), 1, 60, rfl, by have := ho.n0; omega, by have := ho.n1; omega, _, rfl, iteF ?_⟩
  refine ⟨_, rfl, _, rfl, N, t, ts, rfl, ho, ht, fun H1 hS1 => ⟨_, rfl, iteF ?_⟩⟩
  have ha1 := hS1 _ _ ha
  obtain ⟨tas, ht1, hP1⟩ := ht.same hS1
  have nat : t ≠ a := ne_of ht1 ha1 (by intro q; cases q)
  have nta : ∀ p e, TupAt H1 p e → p ≠ a := fun p e hp => ne_of hp ha1 (by intro q; cases q)
  refine ⟨_, rfl, _, rfl, a, C, dx, [], rfl, ha1, WK.cl, WK.nP, (by decide), ?_⟩
  refine ⟨_, rfl, t, _, rfl, .inl (SqL.of (by rw [upd_ne nat]; exact ht1)), fun tl ntl => ?_⟩
  have natl : a ≠ tl := ne_of_none upd_same ntl
  have ntl1 : H1 tl = none := by rw [upd_ne natl.symm] at ntl; exact ntl
  refine ⟨_, rfl, a, C, dx, _, rfl, (by rw [upd_ne natl]; exact upd_same), WK.cl, WK.nT, Nat.lt_of_le_of_lt (putF_len _ _ _) (by decide), ?_⟩
  generalize e4 : upd (upd (upd H1 a (.ins C dx (putF "_places" (.int (N : Int)) []))) tl (.lst (tas.map V.ref))) a (.ins C dx (putF "_ties" (.ref tl) (putF "_places" (.int (N : Int)) []))) = H4
  have k4 : Kept a H1 H4 := fun b o e n => by rw [← e4, upd_ne n, upd_ne (ne_of_none e ntl1), upd_ne n]; exact e
  have ha4 : H4 a = some (.ins C dx (putF "_ties" (.ref tl) (putF "_places" (.int (N : Int)) []))) := by rw [← e4]; exact upd_same
  have htl4 : H4 tl = some (.lst (tas.map V.ref)) := by rw [← e4, upd_ne natl.symm]; exact upd_same
  have hN := ho.n1
  refine ⟨_, rfl, _, rfl, by omega, by omega, fun D1 nD1 => ?_⟩
  refine lc_range (lo := 0) (n := N) (fun i H' => Fresh H4 D1 i H') (Fresh.zero nD1) ?_ ?_
  · intro i H' hi hf
    exact ⟨rfl, Nat.zero_le _, fun p np => hf.step nD1 (by omega) np⟩
  rintro H5 ⟨fas, f1, f2, f3, f4, f5, f6⟩
  have ha5 := f4 _ _ ha4
  have fa : ∀ x ∈ fas, x ≠ a := fun x hx z => by
    have := (f3 x hx).1
    rw [z, ha4] at this
    cases this
  have naD1 : D1 ≠ a := fun z => by rw [z, ha4] at nD1; cases nD1
  refine ⟨_, rfl, a, C, dx, _, rfl, ha5, WK.cl, WK.nF, Nat.lt_of_le_of_lt (putF_len _ _ _) (Nat.lt_of_le_of_lt (Nat.succ_le_succ (putF_len _ _ _)) (by decide)), ?_⟩
  generalize e6 : upd H5 a (.ins C dx (putF "_ties_from" (.ref D1) (putF "_ties" (.ref tl) (putF "_places" (.int (N : Int)) [])))) = H6
  have k6 : Kept a H5 H6 := fun b o e n => by rw [← e6, upd_ne n]; exact e
  have ha6 : H6 a = some (.ins C dx (putF "_ties_from" (.ref D1) (putF "_ties" (.ref tl) (putF "_places" (.int (N : Int)) [])))) := by rw [← e6]; exact upd_same
  refine ⟨_, rfl, _, rfl, by omega, by omega, fun D2 nD2 => ?_⟩
  refine lc_range (lo := 0) (n := N) (fun i H' => Fresh H6 D2 i H') (Fresh.zero nD2) ?_ ?_
  · intro i H' hi hf
    exact ⟨rfl, Nat.zero_le _, fun p np => hf.step nD2 (by omega) np⟩
  rintro H7 ⟨os, g1, g2, g3, g4, g5, g6⟩
  have ha7 := g4 _ _ ha6
  refine ⟨_, rfl, a, C, dx, _, rfl, ha7, WK.cl, WK.nO, Nat.lt_of_le_of_lt (putF_len _ _ _) (Nat.lt_of_le_of_lt (Nat.succ_le_succ (putF_len _ _ _)) (Nat.lt_of_le_of_lt (Nat.succ_le_succ (Nat.succ_le_succ (putF_len _ _ _))) (by decide))), ?_⟩
  generalize e8 : upd H7 a (.ins C dx (putF "_ties_to" (.ref D2) (putF "_ties_from" (.ref D1) (putF "_ties" (.ref tl) (putF "_places" (.int (N : Int)) []))))) = H8
  have k8 : Kept a H7 H8 := fun b o e n => by rw [← e8, upd_ne n]; exact e
  have ha8 : H8 a = some (.ins C dx (wf N tl D1 D2)) := by rw [← e8]; exact upd_same
  have oa : ∀ x ∈ os, x ≠ a := fun x hx z => by
    have := (g3 x hx).1
    rw [z, ha6] at this
    cases this
  have naD2 : D2 ≠ a := fun z => by rw [z, ha6] at nD2; cases nD2
  have fo : ∀ x ∈ fas, x ∉ os := fun x hx z => by
    have h := (g3 x z).1
    rw [k6 _ _ (f6 x hx) (fa x hx)] at h
    cases h
  -- what stands before the lists is none of them
  have old : ∀ b o, H4 b = some o → b ≠ a → H8 b = some o ∧ b ∉ fas ∧ b ∉ os := fun b o e n => by
    have h5 := f4 _ _ e
    have h6 := k6 _ _ h5 n
    refine ⟨k8 _ _ (g4 _ _ h6) n, fun z => ?_, fun z => ?_⟩
    · rw [(f3 b z).1] at e; cases e
    · rw [(g3 b z).1] at h6; cases h6
  have ntla : tl ≠ a := natl.symm
  have oldA : a ∉ fas ∧ a ∉ os := ⟨fun z => fa a z rfl, fun z => oa a z rfl⟩
  have oldT := old _ _ htl4 ntla
  have oldE : ∀ p e, TupAt H1 p e → TupAt H8 p e ∧ p ∉ fas ∧ p ∉ os := fun p e hp => old _ _ (k4 _ _ hp (nta p e hp)) (nta p e hp)
  have f58 : H8 D1 = some (.lst (fas.map V.ref)) := k8 _ _ (g4 _ _ (k6 _ _ f5 naD1)) naD1
  have D1f : D1 ∉ fas := fun z => (f3 D1 z).2 rfl
  have D1o : D1 ∉ os := fun z => by
    have h := (g3 D1 z).1
    rw [k6 _ _ f5 naD1] at h
    cases h
  have g58 : H8 D2 = some (.lst (os.map V.ref)) := k8 _ _ g5 naD2
  have D2o : D2 ∉ os := fun z => (g3 D2 z).2 rfl
  have D2f : D2 ∉ fas := fun z => by
    have h := k6 _ _ (f6 D2 z) (fa D2 z)
    rw [nD2] at h
    cases h
  have fe8 : ∀ x ∈ fas, H8 x = some (.lst []) := fun x hx => k8 _ _ (g4 _ _ (k6 _ _ (f6 x hx) (fa x hx))) (fa x hx)
  have oe8 : ∀ x ∈ os, H8 x = some (.lst []) := fun x hx => k8 _ _ (g6 x hx) (oa x hx)
  have nin : ∀ {b : Addr}, b ∉ fas → b ∉ os → b ∉ fas ++ os := fun h1 h2 z => (List.mem_append.mp z).elim h1 h2
  refine ⟨_, rfl, a, C, dx, _, _, rfl, ha8, WK.cl, WK.nT, wf_T _ _ _ _, tl, _, rfl, SqL.of oldT.1, ?_⟩
  refine for_it (walk_enum (K := K) (a := tl) (xs := tas.map V.ref)) (fun i σ H' => ∃ v3 v4 v5 : Option V, σ = [some (.ref a), some (.int (N : Int)), some (.ref t), v3, v4, v5] ∧ KeptR (fas ++ os) H8 H' ∧ (∀ (j : Nat) (x : Addr), fas[j]? = some x → H' x = some (.lst (iv (frmN ts j i)))) ∧ (∀ (j : Nat) (x : Addr), os[j]? = some x → ∃ L : List V, H' x = some (.lst L) ∧ L.length ≤ i)) ?_ ?_ ?_ ?_
  · exact ⟨_, _, _, rfl, .refl _ _, fun j x e => fe8 x (List.mem_of_getElem? e), fun j x e => ⟨[], oe8 x (List.mem_of_getElem? e), Nat.zero_le _⟩⟩
  · rintro i σ H' hi ⟨v3, v4, v5, rfl, hk, _, _⟩
    exact SqL.of (hk _ _ oldT.1 (nin oldT.2.1 oldT.2.2))
  · rintro i x σ H9 H10 hi ⟨v3, v4, v5, rfl, hk, hf, hos⟩ ⟨T0, x1, x2, rfl, nT0, rfl, e1, e2⟩
    cases e1
    rw [List.length_map] at hi
    replace e2 : (tas.map V.ref)[i]? = some x2 := e2
    rw [List.getElem?_map, List.getElem?_eq_getElem hi] at e2
    cases e2
    obtain ⟨⟨u, v⟩, he, hpe⟩ := paired_get hP1 (List.getElem?_eq_getElem hi)
    obtain ⟨hu, hv⟩ := ho.ok _ (List.mem_of_getElem? he)
    have hp8 := oldE _ _ hpe
    have hp9 : H9 tas[i] = some (.tup [.int (u : Int), .int (v : Int)]) := hk _ _ hp8.1 (nin hp8.2.1 hp8.2.2)
    have hkN : KeptR (fas ++ os) H8 (upd H9 T0 (.tup [.int (i : Int), .ref tas[i]])) := hk.new nT0
    generalize e10 : upd H9 T0 (.tup [.int (i : Int), .ref tas[i]]) = H10
    rw [e10] at hkN
    have hT10 : H10 T0 = some (.tup [.int (i : Int), .ref tas[i]]) := by rw [← e10]; exact upd_same
    have hS10 : Same H9 H10 := by rw [← e10]; exact same_new nT0 _
    have hp10 := hS10 _ _ hp9
    have ha10 := hkN _ _ ha8 (nin oldA.1 oldA.2)
    have hfl10 := hkN _ _ f58 (nin D1f D1o)
    obtain ⟨xu, eu⟩ : ∃ x, fas[u]? = some x := ⟨fas[u]'(by omega), List.getElem?_eq_getElem _⟩
    obtain ⟨xv, ev⟩ : ∃ x, os[v]? = some x := ⟨os[v]'(by omega), List.getElem?_eq_getElem _⟩
    have mu := List.mem_of_getElem? eu
    have mv := List.mem_of_getElem? ev
    have hxu := hS10 _ _ (hf u xu eu)
    obtain ⟨Lv, hxv, hLv⟩ := hos v xv ev
    have nxu : ∀ {b : Addr}, b ∉ fas → b ≠ xu := fun h z => h (by rw [z]; exact mu)
    have nxv : ∀ {b : Addr}, b ∉ os → b ≠ xv := fun h z => h (by rw [z]; exact mv)
    have htl := ho.m
    have htsl : i < ts.length := by rw [← paired_len hP1]; exact hi
    refine ⟨T0, _, rfl, SqT.of hT10, rfl, _, _, rfl, _, _, rfl, rfl, ?_⟩
    refine ⟨_, rfl, a, C, dx, _, _, rfl, ha10, WK.cl, WK.nF, wf_F _ _ _ _, _, rfl, _, _, _, .int (u : Int), rfl, rfl, SqT.of hp10, rfl, _, _, _, .ref xu, rfl, rfl, SqL.of hfl10, atI_nat (by rw [List.getElem?_map, eu]; rfl), .inl ⟨rfl, _, SqL.of hxu⟩, _, rfl, xu, _, _, rfl, rfl, hxu, ?_, ?_⟩
    · rw [List.length_map]
      exact Nat.lt_of_le_of_lt (frmN_len ts u i) (Nat.lt_trans (by omega : i < 1000) (by decide))
    generalize e11 : upd H10 xu (.lst (iv (frmN ts u i) ++ [.int (i : Int)])) = H11
    have hk11 : KeptR (fas ++ os) H8 H11 := by rw [← e11]; exact hkN.put (List.mem_append_left _ mu)
    have ha11 := hk11 _ _ ha8 (nin oldA.1 oldA.2)
    have hol11 := hk11 _ _ g58 (nin D2f D2o)
    have hp11 : H11 tas[i] = some (.tup [.int (u : Int), .int (v : Int)]) := hk11 _ _ hp8.1 (nin hp8.2.1 hp8.2.2)
    have hxv11 : H11 xv = some (.lst Lv) := by
      rw [← e11, upd_ne (fun z => fo xu mu (by rw [← z]; exact mv))]
      exact hS10 _ _ hxv
    refine ⟨_, rfl, a, C, dx, _, _, rfl, ha11, WK.cl, WK.nO, wf_O _ _ _ _, _, rfl, _, _, _, .int (v : Int), rfl, rfl, SqT.of hp11, rfl, _, _, _, .ref xv, rfl, rfl, SqL.of hol11, atI_nat (by rw [List.getElem?_map, ev]; rfl), .inl ⟨rfl, _, SqL.of hxv11⟩, _, rfl, xv, _, _, rfl, rfl, hxv11, Nat.lt_of_le_of_lt hLv (Nat.lt_trans (by omega : i < 1000) (by decide)), ?_⟩
    refine ⟨_, _, _, rfl, hk11.put (List.mem_append_right _ mv), fun j x e => ?_, fun j x e => ?_⟩
    · have nx : x ≠ xv := fun z => fo x (List.mem_of_getElem? e) (by rw [z]; exact mv)
      rw [upd_ne nx]
      have eti : ts[i]?.map Prod.fst = some u := by rw [he]; rfl
      by_cases c : x = xu
      · have ej : j = u := nodup_get f2 e (by rw [c]; exact eu)
        subst ej
        rw [c, ← e11, upd_same, show frmN ts j (i + 1) = frmN ts j i ++ [i] from if_pos eti, iv_app]
      · have ej : ¬ (ts[i]?.map Prod.fst) = some j := fun z => by
          rw [eti] at z
          cases z
          rw [eu] at e
          exact c (Option.some.inj e).symm
        rw [← e11, upd_ne c, show frmN ts j (i + 1) = frmN ts j i from if_neg ej]
        exact hS10 _ _ (hf j x e)
    · by_cases c : x = xv
      · exact ⟨_, by rw [c]; exact upd_same, by rw [List.length_append, List.length_singleton]; omega⟩
      · obtain ⟨L, h1, h2⟩ := hos j x e
        refine ⟨L, ?_, by omega⟩
        rw [upd_ne c, ← e11, upd_ne (fun z => fo xu mu (by rw [← z]; exact List.mem_of_getElem? e))]
        exact hS10 _ _ h1
  · rintro σ H9 ⟨v3, v4, v5, rfl, hk, hf, hos⟩
    have hlen : (tas.map V.ref).length = ts.length := by rw [List.length_map]; exact paired_len hP1
    rw [hlen] at hf
    have to9 : ∀ b o, H4 b = some o → b ≠ a → H9 b = some o := fun b o e n => by
      have h := old b o e n
      exact hk _ _ h.1 (nin h.2.1 h.2.2)
    have g0 : ∀ b, b ≠ a → H4 b = none → H b = none := fun b n e => by
      cases e2 : H b with
      | none => rfl
      | some o =>
        rw [k4 _ _ (hS1 _ _ e2) n] at e
        cases e
    refine q H9 (fun b o e n => to9 b o (k4 _ _ (hS1 _ _ e) n) n) ⟨dx, tl, D1, D2, Sub.of (hk _ _ ha8 (nin oldA.1 oldA.2)) (.inr (.inl rfl)), ⟨tas, Sub.of (to9 _ _ htl4 ntla) (.inl (hS1.free ntl1)), ?_⟩, ⟨fas, Sub.of (hk _ _ f58 (nin D1f D1o)) (.inl (g0 _ naD1 nD1)), f1, fun j x e => Sub.of (hf j x e) (.inl ?_)⟩⟩
    · refine paired_mono (fun p e hp => ?_) hP1
      have hp9 := to9 _ _ (k4 _ _ hp (nta p e hp)) (nta p e hp)
      exact Sub.of hp9 (.inr (.inr ⟨_, hp9⟩))
    · have hm := List.mem_of_getElem? e
      exact g0 x (fa x hm) (f3 x hm).1
def spWeb_places (_ : PySem.W.Frag) (C : Addr) : Sp := fun vs H Q _ => ∃ a N ts, vs = [.ref a] ∧ WebAt C a N ts H ∧ Q (.int (N : Int)) H
theorem okWeb_places (D : DefP K C "places" "Web.places" sWeb_places ["self"]) (B : Bs mg) (Glb : Glo mg) (WK : WebK K mg C) :
    GoodP P w K mg base C "places" "Web.places" sWeb_places ["self"] 1 (spWeb_places K C) := by
  refine D.good fun f fd F => ?_
  refine F.ok scWeb_places (fun vs H Q E h => ?_) (fun cdv A outer s H vs Q E hr h => ?_)
  · obtain ⟨a, N, ts, rfl, ⟨dx, tl, fl, ol, h1, h2, h3⟩, q⟩ := h
    first | rfl | (rcases h with ⟨_, _, rfl, _⟩ | ⟨_, rfl, _⟩ <;> rfl)
  obtain ⟨a, N, ts, rfl, ⟨dx, tl, fl, ol, h1, h2, h3⟩, q⟩ := h
  refine ⟨_, (pss_one (ps_ret (pe_fld (pv 0) rfl))), ?_⟩
  exact ⟨_, rfl, a, C, dx, _, _, rfl, h1, WK.cl, WK.nP, wf_P _ _ _ _, q⟩
def spWeb_many (_ : PySem.W.Frag) (C : Addr) : Sp := fun vs H Q _ => ∃ a N ts, vs = [.ref a] ∧ WebAt C a N ts H ∧ Q (.int (ts.length : Int)) H
theorem okWeb_many (D : DefP K C "many" "Web.many" sWeb_many ["self"]) (B : Bs mg) (Glb : Glo mg) (WK : WebK K mg C) :
    GoodP P w K mg base C "many" "Web.many" sWeb_many ["self"] 1 (spWeb_many K C) := by
  refine D.good fun f fd F => ?_
  refine F.ok scWeb_many (fun vs H Q E h => ?_) (fun cdv A outer s H vs Q E hr h => ?_)
  · obtain ⟨a, N, ts, rfl, ⟨dx, tl, fl, ol, h1, ⟨tas, ht, hP⟩, h3⟩, q⟩ := h
    first | rfl | (rcases h with ⟨_, _, rfl, _⟩ | ⟨_, rfl, _⟩ <;> rfl)
  obtain ⟨a, N, ts, rfl, ⟨dx, tl, fl, ol, h1, ⟨tas, ht, hP⟩, h3⟩, q⟩ := h
  refine ⟨_, (pss_one (ps_ret (pe_callB call_len_seq (by rfl) B.len (by decide +kernel) (pa_cons (pe_fld (pv 0) rfl) pa_nil)))), ?_⟩
  refine ⟨_, rfl, a, C, dx, _, _, rfl, h1, WK.cl, WK.nT, wf_T _ _ _ _, _, _, rfl, .inl (SqL.of ht), ?_⟩
  rw [List.length_map, paired_len hP]
  exact q
def spWeb_ties (_ : PySem.W.Frag) (C : Addr) : Sp := fun vs H Q _ => ∃ a N ts, vs = [.ref a] ∧ WebAt C a N ts H ∧ ∀ H' l, H l = none → Same H H' → TiesAt H' l ts → Q (.ref l) H'
theorem okWeb_ties (D : DefM K C "ties" "Web.ties" sWeb_ties ["self"]) (B : Bs mg) (Glb : Glo mg) (WK : WebK K mg C) :
    GoodM P w K mg base C "ties" "Web.ties" sWeb_ties ["self"] 1 (spWeb_ties K C) := by
  refine D.good fun f fd F => ?_
  refine F.ok scWeb_ties (fun vs H Q E h => ?_) (fun cdv A outer s H vs Q E hr h => ?_)
  · obtain ⟨a, N, ts, rfl, ⟨dx, tl, fl, ol, h1, ⟨tas, ht, hP⟩, h3⟩, q⟩ := h
    first | rfl | (rcases h with ⟨_, _, rfl, _⟩ | ⟨_, rfl, _⟩ <;> rfl)
  obtain ⟨a, N, ts, rfl, ⟨dx, tl, fl, ol, h1, ⟨tas, ht, hP⟩, h3⟩, q⟩ := h
  refine ⟨_, (pss_one (ps_ret (pe_callTy call_list_of (by rfl) B.list (by decide +kernel) (pa_cons (pe_fld (pv 0) rfl) pa_nil)))), ?_⟩
  exact ⟨_, rfl, a, C, dx, _, _, rfl, h1, WK.cl, WK.nT, wf_T _ _ _ _, _, _, rfl, .inl (SqL.of ht), fun l nl => q _ l nl (same_new nl _) ⟨tas, upd_same, paired_mono (fun p e hp => same_new nl _ _ _ hp) hP⟩⟩
def spneed_web (_ : PySem.W.Frag) (C : Addr) : Sp := fun vs H Q _ => ∃ a N ts, vs = [.ref a] ∧ WebAt C a N ts H ∧ Q .non H
theorem okneed_web (D : Def K mg "need_web" sneed_web ["web"]) (B : Bs mg) (Glb : Glo mg) (WK : WebK K mg C) :
    Good P w K mg base "need_web" sneed_web ["web"] 3 (spneed_web K C) := by
  refine D.good fun f fd F => ?_
  refine F.ok scneed_web (fun vs H Q E h => ?_) (fun cdv A outer s H vs Q E hr h => ?_)
  · obtain ⟨a, N, ts, rfl, hw, q⟩ := h
    first | rfl | (rcases h with ⟨_, _, rfl, _⟩ | ⟨_, rfl, _⟩ <;> rfl)
  obtain ⟨a, N, ts, rfl, hw, q⟩ := h
  refine ⟨_, (pss_one (ps_if (pt_not (pt_val (pe_callB call_isi (by rfl) B.isinstance (by decide +kernel) (pa_cons (pv 0) (pa_cons (pe_glob (v := .ref C) (by rfl) WK.mgC rfl) pa_nil)))))
    (pss_one ps_never) pss_nil)), ?_⟩
  obtain ⟨dx, tl, fl, ol, h1, h2, h3⟩ := id hw
  exact ⟨_, rfl, _, _, _, _, true, rfl, .own C, .base (.ins h1 WK.cl WK.i1 WK.i2 WK.i3 WK.i4), WK.i5, _, rfl, iteF q⟩
/-- a list or a tuple of ints -/
def SeqAt (H : Hp) (s : Addr) (W : List Nat) : Prop := H s = some (.lst (iv W)) ∨ H s = some (.tup (iv W))
theorem SeqAt.same {H H' : Hp} {s : Addr} {W : List Nat} (h : SeqAt H s W) (hs : Same H H') : SeqAt H' s W := h.imp (hs _ _) (hs _ _)
def spare_numbers (_ : PySem.W.Frag) (C : Addr) : Sp := fun vs H Q _ => ∃ a N ts s W, vs = [.ref a, .ref s] ∧ WebAt C a N ts H ∧ SeqAt H s W ∧ (∀ x ∈ W, x < ts.length) ∧ ∀ H', Same H H' → Q (.bl true) H'
theorem okare_numbers (D : Def K mg "are_numbers" sare_numbers ["web", "value"]) (B : Bs mg) (Glb : Glo mg) (WK : WebK K mg C)
    (his_listed : Good P w K mg base "is_listed" sis_listed ["value"] 1 (spis_listed K C))
    (his_below : Good P w K mg base "is_below" sis_below ["value", "limit"] 3 (spis_below K C))
    (hWeb_many : GoodP P w K mg base C "many" "Web.many" sWeb_many ["self"] 1 (spWeb_many K C)) :
    Good P w K mg base "are_numbers" sare_numbers ["web", "value"] 4 (spare_numbers K C) := by
  refine D.good fun f fd F => ?_
  obtain ⟨fis_listed, dis_listed, Ois_listed, mis_listed, kis_listed, bis_listed, Fis_listed⟩ := his_listed
  obtain ⟨fis_below, dis_below, Ois_below, mis_below, kis_below, bis_below, Fis_below⟩ := his_below
  obtain ⟨qWeb_many, fWeb_many, dWeb_many, OWeb_many, pWeb_many, bWeb_many⟩ := hWeb_many
  refine F.ok scare_numbers (fun vs H Q E h => ?_) (fun cdv A outer s H vs Q E hr h => ?_)
  · obtain ⟨a, N, ts, s, W, rfl, hw, hs, hW, q⟩ := h
    first | rfl | (rcases h with ⟨_, _, rfl, _⟩ | ⟨_, rfl, _⟩ <;> rfl)
  obtain ⟨a, N, ts, s, W, rfl, hw, hs, hW, q⟩ := h
  refine ⟨_, (pss_cons (ps_if (pt_not (pt_val (pe_call Ois_listed (hr.mono (by decide)) rfl mis_listed kis_listed bis_listed .nil pass0 (pa_cons (pv 1) pa_nil))))
    (pss_one (ps_ret pe_bl)) pss_nil)
  (pss_cons (ps_for PassesOwn.never rfl (pi_or (pi_list (pv 1)) (pi_tup (pv 1))) (pg_name (i := 2) scare_numbers.nd rfl (by first | exact Or.inl rfl | exact Or.inr rfl))
    (pss_one (ps_if (pt_not (pt_val (pe_call Ois_below hr rfl mis_below kis_below bis_below .nil pass0 (pa_cons (pv 2) (pa_cons (pe_prop (pv 0) WK.cl pWeb_many OWeb_many (hr.mono (by decide)) bWeb_many .nil pass0 (by rfl)) pa_nil)))))
    (pss_one (ps_ret pe_bl)) pss_nil)))
  (pss_one (ps_ret pe_bl)))), ?_⟩
  refine ⟨_, rfl, s, rfl, hs.imp (fun h => ⟨_, h⟩) (fun h => ⟨_, h⟩), fun H1 hS1 => ⟨_, rfl, iteF ?_⟩⟩
  have key : ∀ (i : Nat) (x : V) (H2 : Hp), (iv W)[i]? = some x → Same H1 H2 → ∃ n : Nat, x = .int (n : Int) ∧ n < ts.length ∧ WebAt C a N ts H2 := fun i x H2 hx hS2 => by
    rw [List.getElem?_map] at hx
    cases e : W[i]? with
    | none => rw [e] at hx; cases hx
    | some n =>
      rw [e] at hx
      exact ⟨n, (Option.some.inj hx).symm, hW n (List.mem_of_getElem? e), (hw.same hS1).same hS2⟩
  rcases hs.same hS1 with h | h
  · refine .inl ⟨_, rfl, s, rfl, ⟨_, SqL.of h⟩, for_list (K := K) (a := s) (xs := iv W) (fun i σ H' => Same H1 H' ∧ ∃ v, σ = [some (.ref a), some (.ref s), v]) ⟨fun _ _ e => e, none, rfl⟩ (fun i σ H' _ ⟨hS', _⟩ => SqL.of (hS' _ _ h)) ?_ ?_⟩
    · rintro i x σ H2 hx ⟨hS2, v, rfl⟩
      obtain ⟨n, rfl, hn, hw2⟩ := key i x H2 hx hS2
      obtain ⟨dx, tl, fl, ol, h1, _⟩ := id hw2
      exact ⟨_, rfl, _, rfl, a, dx, _, rfl, h1, a, N, ts, rfl, hw2, n, _, rfl, by omega, _, rfl, iteF ⟨hS2, _, rfl⟩⟩
    · rintro σ H2 ⟨hS2, v, rfl⟩
      exact q H2 (hS1.trans hS2)
  · refine .inr ⟨_, rfl, s, rfl, ⟨_, SqT.of h⟩, for_tup (K := K) (a := s) (xs := iv W) (fun i σ H' => Same H1 H' ∧ ∃ v, σ = [some (.ref a), some (.ref s), v]) ⟨fun _ _ e => e, none, rfl⟩ (fun i σ H' _ ⟨hS', _⟩ => SqT.of (hS' _ _ h)) ?_ ?_⟩
    · rintro i x σ H2 hx ⟨hS2, v, rfl⟩
      obtain ⟨n, rfl, hn, hw2⟩ := key i x H2 hx hS2
      obtain ⟨dx, tl, fl, ol, h1, _⟩ := id hw2
      exact ⟨_, rfl, _, rfl, a, dx, _, rfl, h1, a, N, ts, rfl, hw2, n, _, rfl, by omega, _, rfl, iteF ⟨hS2, _, rfl⟩⟩
    · rintro σ H2 ⟨hS2, v, rfl⟩
      exact q H2 (hS1.trans hS2)
end
end My
namespace My
open PySem L2 PyProof.Rows
theorem SeqAt.seq {K : PySem.W.Frag} {H : Hp} {s : Addr} {W : List Nat} (h : SeqAt H s W) : SqL K H s (iv W) ∨ SqT K H s (iv W) := h.imp SqL.of SqT.of
theorem SeqAt.ix {K : PySem.W.Frag} {H : Hp} {s : Addr} {W : List Nat} {i : Int} {b : Nat} {Q : VK} (h : SeqAt H s W) (e : atI (iv W) i = some (.int (b : Int))) (q : Q (.int (b : Int)) H) : rIx K (.ref s) (.int i) H Q := by
  rcases h with h | h
  · exact .inl ⟨_, _, _, _, rfl, rfl, SqL.of h, e, q⟩
  · exact .inr (.inl ⟨_, _, _, _, rfl, rfl, SqT.of h, e, q⟩)
theorem TiesAt.at_ {H : Hp} {l : Addr} {ts : List (Nat × Nat)} (h : TiesAt H l ts) {x : Nat} {e : Nat × Nat} (hx : ts[x]? = some e) : ∃ xs p, H l = some (.lst xs) ∧ atI xs (x : Int) = some (.ref p) ∧ H p = some (.tup [.int (e.1 : Int), .int (e.2 : Int)]) := by
  obtain ⟨tas, h1, h2⟩ := h
  have hl := paired_len h2
  have hx2 := (List.getElem?_eq_some_iff.mp hx).1
  have e1 : tas[x]? = some (tas[x]'(by omega)) := List.getElem?_eq_getElem _
  obtain ⟨f, hf, hp⟩ := paired_get h2 e1
  rw [hx] at hf
  cases hf
  refine ⟨_, _, h1, atI_nat ?_, hp⟩
  rw [List.getElem?_map, e1]
  rfl
theorem atI_back {α : Type} {xs : List α} {v : α} (h : xs[xs.length - 1]? = some v) : atI xs (-1) = some v := by
  have h0 := (List.getElem?_eq_some_iff.mp h).1
  unfold atI ixN
  rw [if_neg (by decide), if_pos (by omega)]
  show xs[((-1 : Int) + (xs.length : Int)).toNat]? = _
  rw [show ((-1 : Int) + (xs.length : Int)).toNat = xs.length - 1 by omega]
  exact h
theorem iv_back {L : List Nat} {b : Nat} (h : L[L.length - 1]? = some b) : atI (iv L) (-1) = some (.int (b : Int)) := by
  refine atI_back ?_
  rw [List.length_map, List.getElem?_map, h]
  rfl
/-! ### walks and rounds -/
structure Chain (ts : List (Nat × Nat)) (R : List Nat) : Prop where
  n0 : 0 < R.length
  num : ∀ x ∈ R, x < ts.length
  on : ∀ i, i + 1 < R.length → ∃ x y e f, R[i]? = some x ∧ R[i + 1]? = some y ∧ ts[x]? = some e ∧ ts[y]? = some f ∧ f.1 = e.2
structure Tour (ts : List (Nat × Nat)) (R : List Nat) : Prop where
  ch : Chain ts R
  n1 : R.length ≤ 1000
  back : ∃ x y e f, R[0]? = some x ∧ R[R.length - 1]? = some y ∧ ts[x]? = some e ∧ ts[y]? = some f ∧ e.1 = f.2
section
variable {P : Program} {w : World} {K : PySem.W.Frag} {mg : Str → Option Value} {base : Heap} {C : Addr}
def sp_go_on (_ : PySem.W.Frag) (C : Addr) : Sp := fun vs H Q _ => ∃ a N ts s R, ∃ m : Int, vs = [.ref a, .ref s, .int m] ∧ WebAt C a N ts H ∧ SeqAt H s R ∧ Chain ts R ∧ (R.length : Int) ≤ m ∧ R.length ≤ 1000 ∧ ∀ H', Same H H' → Q (.bl true) H'
theorem ok_go_on (D : Def K mg "_go_on" s_go_on ["web", "value", "longest"]) (B : Bs mg) (Glb : Glo mg) (WK : WebK K mg C)
    (his_listed : Good P w K mg base "is_listed" sis_listed ["value"] 1 (spis_listed K C))
    (his_between : Good P w K mg base "is_between" sis_between ["value", "least", "most"] 2 (spis_between K C))
    (hare_numbers : Good P w K mg base "are_numbers" sare_numbers ["web", "value"] 4 (spare_numbers K C))
    (hWeb_ties : GoodM P w K mg base C "ties" "Web.ties" sWeb_ties ["self"] 1 (spWeb_ties K C)) :
    Good P w K mg base "_go_on" s_go_on ["web", "value", "longest"] 5 (sp_go_on K C) := by
  refine D.good fun f fd F => ?_
  obtain ⟨fis_listed, dis_listed, Ois_listed, mis_listed, kis_listed, bis_listed, Fis_listed⟩ := his_listed
  obtain ⟨fis_between, dis_between, Ois_between, mis_between, kis_between, bis_between, Fis_between⟩ := his_between
  obtain ⟨fare_numbers, dare_numbers, Oare_numbers, mare_numbers, kare_numbers, bare_numbers, Fare_numbers⟩ := hare_numbers
  obtain ⟨fWeb_ties, dWeb_ties, OWeb_ties, tWeb_ties, bWeb_ties, FWeb_ties⟩ := hWeb_ties
  refine F.ok sc_go_on (fun vs H Q E h => ?_) (fun cdv A outer s H vs Q E hr h => ?_)
  · obtain ⟨a, N, ts, s, R, m, rfl, hw, hs, hc, hm, h1, q⟩ := h
    first | rfl | (rcases h with ⟨_, _, rfl, _⟩ | ⟨_, rfl, _⟩ <;> rfl)
  obtain ⟨a, N, ts, s, R, m, rfl, hw, hs, hc, hm, h1, q⟩ := h
  refine ⟨_, (pss_cons (ps_if (PW.pt (pw_or (pt_not (pt_val (pe_call Ois_listed (hr.mono (by decide)) rfl mis_listed kis_listed bis_listed .nil pass0 (pa_cons (pv 1) pa_nil)))) (pw_or (pt_not (pt_val (pe_call Ois_between (hr.mono (by decide)) rfl mis_between kis_between bis_between .nil pass0 (pa_cons (pe_callB call_len_seq (by rfl) B.len (by decide +kernel) (pa_cons (pv 1) pa_nil)) (pa_cons pe_int (pa_cons (pv 2) pa_nil)))))) (pw_or1 (pt_not (pt_val (pe_call Oare_numbers hr rfl mare_numbers kare_numbers bare_numbers .nil pass0 (pa_cons (pv 0) (pa_cons (pv 1) pa_nil)))))))))
    (pss_one (ps_ret pe_bl)) pss_nil)
  (pss_cons (ps_set (i := 3) sc_go_on.nd rfl (by first | exact Or.inl rfl | exact Or.inr rfl) (pe_meth0 (pv 0) WK.cl tWeb_ties OWeb_ties (hr.mono (by decide)) bWeb_ties .nil pass0))
  (pss_cons (ps_for PassesOwn.never rfl (pi_range2 (by rfl) B.range (pa_cons pe_int (pa_cons (pe_callB call_len_seq (by rfl) B.len (by decide +kernel) (pa_cons (pv 1) pa_nil)) pa_nil))) (pg_name (i := 4) sc_go_on.nd rfl (by first | exact Or.inl rfl | exact Or.inr rfl))
    (pss_one (ps_if (pt_cmpR op_ne (pe_ix ix_tup (pe_ix ix_list (pv 3) (pe_ix ix_seq (pv 1) (pv 4) (fun _ _ => rfl)) (fun _ _ => rfl)) pe_int (fun _ _ => rfl)) (pe_ix ix_tup (pe_ix ix_list (pv 3) (pe_ix ix_seq (pv 1) (pe_op op_sub (pv 4) pe_int) (fun _ _ => rfl)) (fun _ _ => rfl)) pe_int (fun _ _ => rfl)) (nomark _))
    (pss_one (ps_ret pe_bl)) pss_nil)))
  (pss_one (ps_ret pe_bl))))), ?_⟩
  have h0 := hc.n0
  refine ⟨_, rfl, s, rfl, hs.imp (fun h => ⟨_, h⟩) (fun h => ⟨_, h⟩), fun H1 hS1 => ⟨_, rfl, iteF ?_⟩⟩
  refine ⟨_, rfl, s, _, rfl, (hs.same hS1).seq, _, rfl, (R.length : Int), 1, m, ?_, by omega, hm, _, rfl, iteF ?_⟩
  · rw [List.length_map]
    rfl
  refine ⟨_, rfl, _, rfl, a, N, ts, s, R, rfl, hw.same hS1, hs.same hS1, hc.num, fun H2 hS2 => ⟨_, rfl, iteF ?_⟩⟩
  have hw2 := (hw.same hS1).same hS2
  obtain ⟨dx, tl, fl, ol, g1, _⟩ := id hw2
  refine ⟨_, rfl, a, dx, _, rfl, g1, wf_no _ _ _ _ (by decide +kernel) (by decide +kernel) (by decide +kernel) (by decide +kernel), a, N, ts, rfl, hw2, fun H3 l nl hS3 hT => ?_⟩
  have hs3 := ((hs.same hS1).same hS2).same hS3
  refine ⟨_, rfl, s, _, rfl, hs3.seq, _, _, rfl, ⟨by omega, by omega, by omega, by rw [List.length_map]; omega⟩, ?_⟩
  rw [List.length_map, show ((R.length : Int) - 1).toNat = R.length - 1 by omega]
  refine for_range (lo := 1) (n := R.length - 1) (fun i σ H' => H' = H3 ∧ ∃ v, σ = [some (.ref a), some (.ref s), some (.int m), some (.ref l), v]) ⟨rfl, none, rfl⟩ ?_ ?_
  · rintro i σ H4 hi ⟨rfl, v, rfl⟩
    rw [show (1 : Int) + (i : Int) = ((i + 1 : Nat) : Int) by omega]
    obtain ⟨x, y, e, f, e1, e2, e3, e4, e5⟩ := hc.on i (by omega)
    obtain ⟨xs, p, k1, k2, k3⟩ := hT.at_ e4
    obtain ⟨xs', p', k1', k2', k3'⟩ := hT.at_ e3
    refine ⟨_, rfl, _, rfl, _, rfl, hs3.ix (iv_at e2) ⟨_, _, _, _, rfl, rfl, SqL.of k1, k2, _, _, _, _, rfl, rfl, SqT.of k3, rfl, ?_⟩⟩
    refine ⟨_, rfl, _, rfl, _, rfl, _, _, rfl, rfl, hs3.ix (by rw [show ((i + 1 : Nat) : Int) - 1 = (i : Int) by omega]; exact iv_at e1) ⟨_, _, _, _, rfl, rfl, SqL.of k1', k2', _, _, _, _, rfl, rfl, SqT.of k3', rfl, rfl, _, rfl, ?_⟩⟩
    refine iteNot' (by rw [e5]) ⟨rfl, _, rfl⟩
  · rintro σ H4 ⟨rfl, v, rfl⟩
    exact q H4 ((hS1.trans hS2).trans hS3)
def spis_round (_ : PySem.W.Frag) (C : Addr) : Sp := fun vs H Q _ => ∃ a N ts s R, vs = [.ref a, .ref s] ∧ WebAt C a N ts H ∧ SeqAt H s R ∧ Tour ts R ∧ ∀ H', Same H H' → Q (.bl true) H'
theorem okis_round (D : Def K mg "is_round" sis_round ["web", "value"]) (B : Bs mg) (Glb : Glo mg) (WK : WebK K mg C)
    (hneed_web : Good P w K mg base "need_web" sneed_web ["web"] 3 (spneed_web K C))
    (h_go_on : Good P w K mg base "_go_on" s_go_on ["web", "value", "longest"] 5 (sp_go_on K C))
    (hWeb_ties : GoodM P w K mg base C "ties" "Web.ties" sWeb_ties ["self"] 1 (spWeb_ties K C)) :
    Good P w K mg base "is_round" sis_round ["web", "value"] 6 (spis_round K C) := by
  refine D.good fun f fd F => ?_
  obtain ⟨fneed_web, dneed_web, Oneed_web, mneed_web, kneed_web, bneed_web, Fneed_web⟩ := hneed_web
  obtain ⟨f_go_on, d_go_on, O_go_on, m_go_on, k_go_on, b_go_on, F_go_on⟩ := h_go_on
  obtain ⟨fWeb_ties, dWeb_ties, OWeb_ties, tWeb_ties, bWeb_ties, FWeb_ties⟩ := hWeb_ties
  refine F.ok scis_round (fun vs H Q E h => ?_) (fun cdv A outer s H vs Q E hr h => ?_)
  · obtain ⟨a, N, ts, s, R, rfl, hw, hs, ht, q⟩ := h
    first | rfl | (rcases h with ⟨_, _, rfl, _⟩ | ⟨_, rfl, _⟩ <;> rfl)
  obtain ⟨a, N, ts, s, R, rfl, hw, hs, ht, q⟩ := h
  refine ⟨_, (pss_cons (ps_expr (pe_call Oneed_web (hr.mono (by decide)) rfl mneed_web kneed_web bneed_web .nil pass0 (pa_cons (pv 0) pa_nil)))
  (pss_cons (ps_if (pt_not (pt_val (pe_call O_go_on hr rfl m_go_on k_go_on b_go_on .nil pass0 (pa_cons (pv 0) (pa_cons (pv 1) (pa_cons (pe_globI Glb.LONGEST_ROUND) pa_nil))))))
    (pss_one (ps_ret pe_bl)) pss_nil)
  (pss_cons (ps_set (i := 2) scis_round.nd rfl (by first | exact Or.inl rfl | exact Or.inr rfl) (pe_meth0 (pv 0) WK.cl tWeb_ties OWeb_ties (hr.mono (by decide)) bWeb_ties .nil pass0))
  (pss_one (ps_ret (pe_cmpR op_eq (pe_ix ix_tup (pe_ix ix_list (pv 2) (pe_ix ix_seq (pv 1) pe_int (fun _ _ => rfl)) (fun _ _ => rfl)) pe_int (fun _ _ => rfl)) (pe_ix ix_tup (pe_ix ix_list (pv 2) (pe_ix ix_seq (pv 1) (pe_un un_neg pe_int) (fun _ _ => rfl)) (fun _ _ => rfl)) pe_int (fun _ _ => rfl)) (nomark _))))))), ?_⟩
  have h0 := ht.ch.n0
  have h1 := ht.n1
  refine ⟨_, rfl, a, N, ts, rfl, hw, _, rfl, _, rfl, a, N, ts, s, R, 200000, rfl, hw, hs, ht.ch, by omega, h1, fun H1 hS1 => ⟨_, rfl, iteF ?_⟩⟩
  have hw2 := hw.same hS1
  obtain ⟨dx, tl, fl, ol, g1, _⟩ := id hw2
  refine ⟨_, rfl, a, dx, _, rfl, g1, wf_no _ _ _ _ (by decide +kernel) (by decide +kernel) (by decide +kernel) (by decide +kernel), a, N, ts, rfl, hw2, fun H3 l nl hS3 hT => ?_⟩
  have hs3 := (hs.same hS1).same hS3
  obtain ⟨x, y, e, f, e1, e2, e3, e4, e5⟩ := ht.back
  obtain ⟨xs, p, k1, k2, k3⟩ := hT.at_ e3
  obtain ⟨xs', p', k1', k2', k3'⟩ := hT.at_ e4
  refine ⟨_, rfl, _, rfl, hs3.ix (iv_at (j := 0) e1) ⟨_, _, _, _, rfl, rfl, SqL.of k1, k2, _, _, _, _, rfl, rfl, SqT.of k3, rfl, ?_⟩⟩
  refine ⟨_, rfl, _, rfl, _, rfl, hs3.ix (b := y) ?_ ⟨_, _, _, _, rfl, rfl, SqL.of k1', k2', _, _, _, _, rfl, rfl, SqT.of k3', rfl, rfl, ?_⟩⟩
  · exact iv_back e2
  · exact bl_true (by rw [e5]) (q H3 (hS1.trans hS3))
def spneed_tour (_ : PySem.W.Frag) (C : Addr) : Sp := fun vs H Q _ => ∃ a N ts s R, vs = [.ref a, .ref s] ∧ WebAt C a N ts H ∧ SeqAt H s R ∧ Tour ts R ∧ ∀ H', Same H H' → Q .non H'
theorem okneed_tour (D : Def K mg "need_tour" sneed_tour ["web", "tour"]) (B : Bs mg) (Glb : Glo mg) (WK : WebK K mg C)
    (his_round : Good P w K mg base "is_round" sis_round ["web", "value"] 6 (spis_round K C)) :
    Good P w K mg base "need_tour" sneed_tour ["web", "tour"] 7 (spneed_tour K C) := by
  refine D.good fun f fd F => ?_
  obtain ⟨fis_round, dis_round, Ois_round, mis_round, kis_round, bis_round, Fis_round⟩ := his_round
  refine F.ok scneed_tour (fun vs H Q E h => ?_) (fun cdv A outer s H vs Q E hr h => ?_)
  · obtain ⟨a, N, ts, s, R, rfl, hw, hs, ht, q⟩ := h
    first | rfl | (rcases h with ⟨_, _, rfl, _⟩ | ⟨_, rfl, _⟩ <;> rfl)
  obtain ⟨a, N, ts, s, R, rfl, hw, hs, ht, q⟩ := h
  refine ⟨_, (pss_one (ps_if (pt_not (pt_val (pe_call Ois_round hr rfl mis_round kis_round bis_round .nil pass0 (pa_cons (pv 0) (pa_cons (pv 1) pa_nil)))))
    (pss_one ps_never) pss_nil)), ?_⟩
  exact ⟨_, rfl, _, rfl, a, N, ts, s, R, rfl, hw, hs, ht, fun H1 hS1 => ⟨_, rfl, iteF (q H1 hS1)⟩⟩
end
end My
namespace My
open PySem L2 PyProof.Rows
/-! ### mates -/
structure Mate where
  near : Nat
  far : Nat
  least : Nat
  most : Nat
structure OkMate (M : Nat) (m : Mate) : Prop where
  n : m.near < M
  f : m.far < M
  l : 1 ≤ m.least
  lm : m.least ≤ m.most
  m60 : m.most ≤ 60
abbrev mV (m : Mate) : List V := [.int (m.near : Int), .int (m.far : Int), .int (m.least : Int), .int (m.most : Int)]
def MAt (H : Hp) (p : Addr) (m : Mate) : Prop := H p = some (.tup (mV m))
def MsAt (H : Hp) (l : Addr) (ms : List Mate) : Prop := ∃ as : List Addr, (H l = some (.lst (as.map V.ref)) ∨ H l = some (.tup (as.map V.ref))) ∧ Paired (MAt H) as ms
theorem MsAt.same {H H' : Hp} {l : Addr} {ms : List Mate} (h : MsAt H l ms) (s : Same H H') : MsAt H' l ms := by
  obtain ⟨as, h1, h2⟩ := h
  exact ⟨as, h1.imp (s _ _) (s _ _), paired_mono (fun p e hp => s _ _ hp) h2⟩
/-- what the round reads at a place, round and round -/
abbrev rat (R : List Nat) (k : Nat) : Nat := R.getD (k % R.length) 0
theorem rat_at {R : List Nat} {k : Nat} (h : 0 < R.length) : R[k % R.length]? = some (rat R k) := getD_lt (Nat.mod_lt _ h)
theorem rat_lt {R : List Nat} {k : Nat} (h : k < R.length) : R[k]? = some (rat R k) := by
  rw [rat, Nat.mod_eq_of_lt h]
  exact getD_lt h
def Keeps (R : List Nat) (m : Mate) : Prop := ∃ p d, m.least ≤ d ∧ d ≤ m.most ∧ rat R p = m.near ∧ rat R (p + d) = m.far
noncomputable def keepsB (R : List Nat) (m : Mate) : Bool := @decide (Keeps R m) (Classical.propDecidable _)
theorem keepsB_iff {R : List Nat} {m : Mate} : keepsB R m = true ↔ Keeps R m := by
  unfold keepsB
  exact @decide_eq_true_iff _ (Classical.propDecidable _)
theorem keeps_low {R : List Nat} {m : Mate} (h : 0 < R.length) : Keeps R m ↔ ∃ p d, p < R.length ∧ m.least ≤ d ∧ d ≤ m.most ∧ rat R p = m.near ∧ rat R (p + d) = m.far := by
  constructor
  · rintro ⟨p, d, h1, h2, h3, h4⟩
    refine ⟨p % R.length, d, Nat.mod_lt _ h, h1, h2, ?_, ?_⟩
    · rw [rat, Nat.mod_mod]; exact h3
    · rw [rat, Nat.mod_add_mod]; exact h4
  · rintro ⟨p, d, _, h⟩
    exact ⟨p, d, h⟩
/-- how often a tie is read ahead of a place -/
def cnt (R : List Nat) (far : Nat) : Nat → Nat
  | 0 => 0
  | k + 1 => cnt R far k + if rat R k = far then 1 else 0
theorem cnt_le (R : List Nat) (far : Nat) : ∀ k, cnt R far k ≤ k
  | 0 => Nat.le_refl _
  | k + 1 => by
    have := cnt_le R far k
    unfold cnt
    split <;> omega
theorem cnt_lt {R : List Nat} {far a : Nat} : ∀ {b : Nat}, a ≤ b → (cnt R far a < cnt R far b ↔ ∃ j, a ≤ j ∧ j < b ∧ rat R j = far)
  | 0, h => by
    have e : a = 0 := by omega
    subst e
    exact ⟨fun z => absurd z (Nat.lt_irrefl _), fun ⟨j, _, h2, _⟩ => absurd h2 (Nat.not_lt_zero _)⟩
  | b + 1, h => by
    by_cases c : a = b + 1
    · subst c
      exact ⟨fun z => absurd z (Nat.lt_irrefl _), fun ⟨j, h1, h2, _⟩ => by omega⟩
    have ih := cnt_lt (R := R) (far := far) (a := a) (b := b) (by omega)
    have up : cnt R far (b + 1) = cnt R far b + if rat R b = far then 1 else 0 := rfl
    have mono : cnt R far a ≤ cnt R far b := by
      rcases Nat.lt_or_ge (cnt R far b) (cnt R far a) with z | z
      · exfalso
        have : ∀ k, cnt R far a ≤ cnt R far (a + k) := fun k => by
          induction k with
          | zero => exact Nat.le_refl _
          | succ k ih => exact Nat.le_trans ih (by show _ ≤ cnt R far (a + k) + _; omega)
        have h2 := this (b - a)
        rw [show a + (b - a) = b by omega] at h2
        omega
      · exact z
    constructor
    · intro hl
      by_cases r : rat R b = far
      · exact ⟨b, by omega, by omega, r⟩
      · rw [up, if_neg r] at hl
        obtain ⟨j, h1, h2, h3⟩ := ih.mp (by omega)
        exact ⟨j, h1, by omega, h3⟩
    · rintro ⟨j, h1, h2, h3⟩
      by_cases r : j = b
      · subst r
        rw [up, if_pos h3]
        omega
      · have := ih.mpr ⟨j, h1, by omega, h3⟩
        rw [up]
        omega
/-- the counts, up to a place -/
abbrev cnts (R : List Nat) (far n : Nat) : List Nat := (List.range (n + 1)).map (cnt R far)
theorem cnts_at {R : List Nat} {far n k : Nat} (h : k ≤ n) : (cnts R far n)[k]? = some (cnt R far k) := by
  rw [List.getElem?_map, List.getElem?_range (by omega)]
  rfl
theorem cnts_back (R : List Nat) (far n : Nat) : (cnts R far n)[(cnts R far n).length - 1]? = some (cnt R far n) := by
  rw [List.length_map, List.length_range]
  exact cnts_at (Nat.le_refl _)
theorem cnts_snoc (R : List Nat) (far n : Nat) : cnts R far (n + 1) = cnts R far n ++ [cnt R far (n + 1)] := by
  rw [cnts, List.range_succ, List.map_append]
  rfl
theorem keeps_cnt {R : List Nat} {m : Mate} (h : 0 < R.length) (hl : m.least ≤ m.most) : Keeps R m ↔ ∃ p, p < R.length ∧ rat R p = m.near ∧ cnt R m.far (p + m.least) < cnt R m.far (p + m.most + 1) := by
  rw [keeps_low h]
  constructor
  · rintro ⟨p, d, h1, h2, h3, h4, h5⟩
    exact ⟨p, h1, h4, (cnt_lt (by omega)).mpr ⟨p + d, by omega, by omega, h5⟩⟩
  · rintro ⟨p, h1, h2, h3⟩
    obtain ⟨j, k1, k2, k3⟩ := (cnt_lt (by omega)).mp h3
    exact ⟨p, j - p, h1, by omega, by omega, h2, by rw [show p + (j - p) = j by omega]; exact k3⟩
section
variable {P : Program} {w : World} {K : PySem.W.Frag} {mg : Str → Option Value} {base : Heap} {C : Addr}
def sp_is_mate (_ : PySem.W.Frag) (C : Addr) : Sp := fun vs H Q _ => ∃ a N ts p m, vs = [.ref a, .ref p] ∧ WebAt C a N ts H ∧ MAt H p m ∧ OkMate ts.length m ∧ Q (.bl true) H
theorem ok_is_mate (D : Def K mg "_is_mate" s_is_mate ["web", "value"]) (B : Bs mg) (Glb : Glo mg) (WK : WebK K mg C)
    (his_between : Good P w K mg base "is_between" sis_between ["value", "least", "most"] 2 (spis_between K C))
    (his_below : Good P w K mg base "is_below" sis_below ["value", "limit"] 3 (spis_below K C))
    (hWeb_many : GoodP P w K mg base C "many" "Web.many" sWeb_many ["self"] 1 (spWeb_many K C)) :
    Good P w K mg base "_is_mate" s_is_mate ["web", "value"] 4 (sp_is_mate K C) := by
  refine D.good fun f fd F => ?_
  obtain ⟨fis_between, dis_between, Ois_between, mis_between, kis_between, bis_between, Fis_between⟩ := his_between
  obtain ⟨fis_below, dis_below, Ois_below, mis_below, kis_below, bis_below, Fis_below⟩ := his_below
  obtain ⟨qWeb_many, fWeb_many, dWeb_many, OWeb_many, pWeb_many, bWeb_many⟩ := hWeb_many
  refine F.ok sc_is_mate (fun vs H Q E h => ?_) (fun cdv A outer s H vs Q E hr h => ?_)
  · obtain ⟨a, N, ts, p, m, rfl, hw, hm, ho, q⟩ := h
    first | rfl | (rcases h with ⟨_, _, rfl, _⟩ | ⟨_, rfl, _⟩ <;> rfl)
  obtain ⟨a, N, ts, p, m, rfl, hw, hm, ho, q⟩ := h
  refine ⟨_, (pss_cons (ps_if (PW.pt (pw_or (pt_not (pt_val (pe_callB call_isi (by rfl) B.isinstance (by decide +kernel) (pa_cons (pv 1) (pa_cons (pe_bltn (v := .ty "tuple") (by rfl) B.tuple (by decide +kernel) rfl) pa_nil))))) (pw_or1 (pt_cmpR op_ne (pe_callB call_len_seq (by rfl) B.len (by decide +kernel) (pa_cons (pv 1) pa_nil)) pe_int (nomark _)))))
    (pss_one (ps_ret pe_bl)) pss_nil)
  (pss_cons (ps_asg (pv 1) (pg_tup rfl (pgs_cons (pg_name (i := 2) sc_is_mate.nd rfl (by first | exact Or.inl rfl | exact Or.inr rfl)) (pgs_cons (pg_name (i := 3) sc_is_mate.nd rfl (by first | exact Or.inl rfl | exact Or.inr rfl)) (pgs_cons (pg_name (i := 4) sc_is_mate.nd rfl (by first | exact Or.inl rfl | exact Or.inr rfl)) (pgs_cons (pg_name (i := 5) sc_is_mate.nd rfl (by first | exact Or.inl rfl | exact Or.inr rfl)) pgs_nil))))))
  (pss_cons (ps_if (PW.pt (pw_or (pt_not (pt_val (pe_call Ois_below hr rfl mis_below kis_below bis_below .nil pass0 (pa_cons (pv 2) (pa_cons (pe_prop (pv 0) WK.cl pWeb_many OWeb_many (hr.mono (by decide)) bWeb_many .nil pass0 (by rfl)) pa_nil))))) (pw_or1 (pt_not (pt_val (pe_call Ois_below hr rfl mis_below kis_below bis_below .nil pass0 (pa_cons (pv 3) (pa_cons (pe_prop (pv 0) WK.cl pWeb_many OWeb_many (hr.mono (by decide)) bWeb_many .nil pass0 (by rfl)) pa_nil))))))))
    (pss_one (ps_ret pe_bl)) pss_nil)
  (pss_one (ps_ret (pe_and (pe_call Ois_between (hr.mono (by decide)) rfl mis_between kis_between bis_between .nil pass0 (pa_cons (pv 5) (pa_cons pe_int (pa_cons (pe_globI Glb.MOST_APART) pa_nil)))) (pe_one (pe_call Ois_between (hr.mono (by decide)) rfl mis_between kis_between bis_between .nil pass0 (pa_cons (pv 4) (pa_cons pe_int (pa_cons (pv 5) pa_nil))))))))))), ?_⟩
  obtain ⟨dx, tl, fl, ol, g1, _⟩ := id hw
  have h1 := ho.n
  have h2 := ho.f
  have h3 := ho.l
  have h4 := ho.lm
  have h5 := ho.m60
  refine ⟨_, rfl, _, _, _, _, true, rfl, .ty _, .base (.tup hm), kit_ty (by decide +kernel), _, rfl, iteF ⟨_, rfl, _, _, rfl, .inr (SqT.of hm), rfl, _, rfl, iteNS rfl ?_⟩⟩
  refine ⟨_, rfl, p, _, rfl, SqT.of hm, rfl, _, _, rfl, _, _, rfl, _, _, rfl, _, _, rfl, rfl, ?_⟩
  refine ⟨_, rfl, _, rfl, a, dx, _, rfl, g1, a, N, ts, rfl, hw, m.near, ts.length, rfl, by omega, _, rfl, iteF ?_⟩
  refine ⟨_, rfl, _, rfl, a, dx, _, rfl, g1, a, N, ts, rfl, hw, m.far, ts.length, rfl, by omega, _, rfl, iteF ?_⟩
  refine ⟨_, rfl, (m.most : Int), 1, 60, rfl, by omega, by omega, _, rfl, iteT ?_⟩
  exact ⟨_, rfl, _, rfl, (m.least : Int), 1, (m.most : Int), rfl, by omega, by omega, q⟩
def sp_keeps (_ : PySem.W.Frag) (_ : Addr) : Sp := fun vs H Q _ => ∃ s R p m, vs = [.ref s, .ref p] ∧ SeqAt H s R ∧ 0 < R.length ∧ R.length ≤ 1000 ∧ MAt H p m ∧ m.least ≤ m.most ∧ m.most ≤ 60 ∧ ∀ H', Same H H' → Q (.bl (keepsB R m)) H'
theorem ok_keeps (D : Def K mg "_keeps" s_keeps ["tour", "mate"]) (B : Bs mg) (Glb : Glo mg) (WK : WebK K mg C) :
    Good P w K mg base "_keeps" s_keeps ["tour", "mate"] 1 (sp_keeps K C) := by
  refine D.good fun f fd F => ?_
  refine F.ok sc_keeps (fun vs H Q E h => ?_) (fun cdv A outer s H vs Q E hr h => ?_)
  · obtain ⟨s, R, p, m, rfl, hs, h0, h1, hm, hlm, h60, q⟩ := h
    first | rfl | (rcases h with ⟨_, _, rfl, _⟩ | ⟨_, rfl, _⟩ <;> rfl)
  obtain ⟨s, R, p, m, rfl, hs, h0, h1, hm, hlm, h60, q⟩ := h
  refine ⟨_, (pss_cons (ps_asg (pv 1) (pg_tup rfl (pgs_cons (pg_name (i := 2) sc_keeps.nd rfl (by first | exact Or.inl rfl | exact Or.inr rfl)) (pgs_cons (pg_name (i := 3) sc_keeps.nd rfl (by first | exact Or.inl rfl | exact Or.inr rfl)) (pgs_cons (pg_name (i := 4) sc_keeps.nd rfl (by first | exact Or.inl rfl | exact Or.inr rfl)) (pgs_cons (pg_name (i := 5) sc_keeps.nd rfl (by first | exact Or.inl rfl | exact Or.inr rfl)) pgs_nil))))))
  (pss_cons (ps_set (i := 6) sc_keeps.nd rfl (by first | exact Or.inl rfl | exact Or.inr rfl) (pe_callB call_len_seq (by rfl) B.len (by decide +kernel) (pa_cons (pv 0) pa_nil)))
  (pss_cons (ps_set (i := 7) sc_keeps.nd rfl (by first | exact Or.inl rfl | exact Or.inr rfl) (pe_lst (pa_cons pe_int pa_nil)))
  (pss_cons (ps_for PassesOwn.never rfl (pi_range1 (by rfl) B.range (pa_cons (pe_op op_add (pv 6) (pv 5)) pa_nil)) (pg_name (i := 8) sc_keeps.nd rfl (by first | exact Or.inl rfl | exact Or.inr rfl))
    (pss_one (ps_expr (pe_bm PySem.F.plainAttrs_list PySem.F.slot_list_append PySem.F.type_list_append mt_append (pv 7) (pa_cons (pe_op op_add (pe_ix ix_list (pv 7) (pe_un un_neg pe_int) (fun _ _ => rfl)) (pe_ifExp (pt_cmpR op_eq (pe_ix ix_seq (pv 0) (pe_op op_mod (pv 8) (pv 6)) (fun _ _ => rfl)) (pv 3) (nomark _)) pe_int pe_int)) pa_nil)))))
  (pss_one (ps_ret (pe_callB (cr_any rfl) (by rfl) B.any (by decide +kernel) (pa_cons (pe_lc (own := [("at", 8)]) (g := gName 8) (by rfl) sc_keeps.nd (pi_range1 (by rfl) B.range (pa_cons (pv 6) pa_nil)) (blkOk_by (own := [("at", 8)]) (N := ["tour", "mate", "near", "far", "least", "most", "size", "ahead", "at"]) (sc := defScope s_keeps) (by decide +kernel)) (fun _ _ _ _ _ => (pg_name (i := 8) sc_keeps.nd rfl (by first | exact Or.inl rfl | exact Or.inr rfl))) (fun _ _ _ _ _ => (pts_one (pt_cmpR op_eq (pe_ix (ix_seqK (K := K) rfl) (pv 0) (pv 8) (fun _ _ => rfl)) (pv 2) (nomark _)))) (fun _ _ _ _ _ => (pe_cmpR op_lt (pe_ix (ix_listK (K := K) rfl) (pv 7) (pe_op op_add (pv 8) (pv 4)) (fun _ _ => rfl)) (pe_ix (ix_listK (K := K) rfl) (pv 7) (pe_op op_add (pe_op op_add (pv 8) (pv 5)) pe_int) (fun _ _ => rfl)) (nomark _)))) pa_nil)))))))), ?_⟩
  refine ⟨_, rfl, p, _, rfl, SqT.of hm, rfl, _, _, rfl, _, _, rfl, _, _, rfl, _, _, rfl, rfl, ?_⟩
  refine ⟨_, rfl, s, _, rfl, hs.seq, ?_⟩
  rw [List.length_map]
  refine ⟨(by show 1 ≤ sizeLine; decide), fun A nA => ?_⟩
  refine ⟨_, rfl, _, rfl, _, _, rfl, rfl, _, rfl, by omega, by omega, ?_⟩
  rw [show ((R.length : Int) + (m.most : Int)).toNat = R.length + m.most by omega]
  have hsA : ∀ o, SeqAt (upd H A o) s R := fun o => hs.same (same_new nA _)
  refine for_range (lo := 0) (n := R.length + m.most) (fun i σ H' => H' = upd H A (.lst (iv (cnts R m.far i))) ∧ ∃ v, σ = [some (.ref s), some (.ref p), some (.int (m.near : Int)), some (.int (m.far : Int)), some (.int (m.least : Int)), some (.int (m.most : Int)), some (.int (R.length : Int)), some (.ref A), v]) ⟨rfl, none, rfl⟩ ?_ ?_
  · rintro i σ H1 hi ⟨rfl, v, rfl⟩
    rw [Int.zero_add]
    have hA : upd H A (.lst (iv (cnts R m.far i))) A = some (.lst (iv (cnts R m.far i))) := upd_same
    refine ⟨_, rfl, .inl ⟨rfl, _, SqL.of hA⟩, _, rfl, _, rfl, _, _, _, .int ((cnt R m.far i : Nat) : Int), rfl, rfl, SqL.of hA, iv_back (cnts_back _ _ _), ?_⟩
    refine ⟨_, rfl, _, rfl, _, rfl, _, _, rfl, rfl, (by omega), (hsA _).ix (b := rat R i) ?_ ⟨_, rfl, rfl, _, rfl, ?_⟩⟩
    · exact iv_at (rat_at h0)
    have hlen : (iv (cnts R m.far i)).length < sizeLine := by
      rw [List.length_map, List.length_map, List.length_range]
      exact Nat.lt_of_lt_of_le (by omega : i + 1 < 2000) (by decide)
    refine ite2 (fun c => ?_) (fun c => ?_)
    · have e : rat R i = m.far := by have := int_eq.mp (of_decide_eq_true c); omega
      refine ⟨_, _, rfl, rfl, A, _, _, rfl, rfl, hA, hlen, ?_, _, rfl⟩
      dsimp only
      rw [upd_upd, cnts_snoc, iv_app, show cnt R m.far (i + 1) = cnt R m.far i + 1 by show _ + (if _ then 1 else 0) = _; rw [if_pos e]]
      rfl
    · have e : ¬ rat R i = m.far := fun z => by rw [z] at c; simp at c
      refine ⟨_, _, rfl, rfl, A, _, _, rfl, rfl, hA, hlen, ?_, _, rfl⟩
      dsimp only
      rw [upd_upd, cnts_snoc, iv_app, show cnt R m.far (i + 1) = cnt R m.far i by show _ + (if _ then 1 else 0) = _; rw [if_neg e]; rfl, Int.add_zero]
  rintro σ H1 ⟨rfl, v, rfl⟩
  have hA : upd H A (.lst (iv (cnts R m.far (R.length + m.most)))) A = some (.lst (iv (cnts R m.far (R.length + m.most)))) := upd_same
  have hsB := hsA (.lst (iv (cnts R m.far (R.length + m.most))))
  have hSA : Same H (upd H A (.lst (iv (cnts R m.far (R.length + m.most))))) := same_new nA _
  generalize upd H A (.lst (iv (cnts R m.far (R.length + m.most)))) = HA at hA hsB hSA
  refine ⟨_, rfl, _, rfl, by omega, by omega, fun D nD => ?_⟩
  rw [show ((R.length : Int)).toNat = R.length by omega]
  refine lc_range (lo := 0) (n := R.length) (fun i H' => ∃ bs : List Bool, H' = upd HA D (.lst (bs.map V.bl)) ∧ bs.length ≤ i ∧ (bs.any id = true ↔ ∃ p, p < i ∧ rat R p = m.near ∧ cnt R m.far (p + m.least) < cnt R m.far (p + m.most + 1))) ⟨[], rfl, Nat.le_refl _, by simp⟩ ?_ ?_
  · rintro i H1 hi ⟨bs, rfl, hl, hb⟩
    rw [Int.zero_add]
    have hA1 : upd HA D (.lst (bs.map V.bl)) A = some (.lst (iv (cnts R m.far (R.length + m.most)))) := same_new nD _ _ _ hA
    refine ⟨rfl, _, rfl, _, rfl, (hsB.same (same_new nD _)).ix (b := rat R i) (iv_at (rat_lt hi)) ⟨_, rfl, rfl, _, rfl, ?_⟩⟩
    by_cases c : rat R i = m.near
    · refine iteYes (by rw [c]) ?_
      refine ⟨_, rfl, _, rfl, _, rfl, _, _, rfl, rfl, _, _, _, .int ((cnt R m.far (i + m.least) : Nat) : Int), rfl, rfl, SqL.of hA1, ?_, ?_⟩
      · rw [show (i : Int) + (m.least : Int) = ((i + m.least : Nat) : Int) by omega]
        exact iv_at (cnts_at (by omega))
      refine ⟨_, rfl, _, rfl, _, rfl, _, _, rfl, rfl, _, _, rfl, rfl, _, _, _, .int ((cnt R m.far (i + m.most + 1) : Nat) : Int), rfl, rfl, SqL.of hA1, ?_, ?_⟩
      · rw [show (i : Int) + (m.most : Int) + 1 = ((i + m.most + 1 : Nat) : Int) by omega]
        exact iv_at (cnts_at (by omega))
      refine ⟨_, _, rfl, rfl, _, upd_same, ?_, bs ++ [decide (((cnt R m.far (i + m.least) : Nat) : Int) < ((cnt R m.far (i + m.most + 1) : Nat) : Int))], ?_, ?_, ?_⟩
      · rw [List.length_map]
        exact Nat.lt_of_lt_of_le (by omega : bs.length < 2000) (by decide)
      · rw [upd_upd, List.map_append]
        rfl
      · rw [List.length_append, List.length_singleton]; omega
      · rw [List.any_append, Bool.or_eq_true, hb]
        constructor
        · rintro (⟨p, h1, h2⟩ | h)
          · exact ⟨p, by omega, h2⟩
          · simp at h
            exact ⟨i, by omega, c, by omega⟩
        · rintro ⟨p, h1, h2, h3⟩
          by_cases z : p = i
          · subst z
            right
            simp
            omega
          · exact .inl ⟨p, by omega, h2, h3⟩
    · refine iteNo (fun z => c (by have := int_eq.mp z; omega)) ⟨bs, rfl, by omega, ?_⟩
      rw [hb]
      constructor
      · rintro ⟨p, h1, h2⟩
        exact ⟨p, by omega, h2⟩
      · rintro ⟨p, h1, h2, h3⟩
        have z : p ≠ i := fun z => c (by rw [← z]; exact h2)
        exact ⟨p, by omega, h2, h3⟩
  · rintro H1 ⟨bs, rfl, hl, hb⟩
    refine ⟨D, bs, rfl, SqL.of upd_same, ?_⟩
    have e : bs.any id = keepsB R m := by
      rw [Bool.eq_iff_iff, hb, keepsB_iff, keeps_cnt h0 hlm]
    rw [e]
    exact q _ (hSA.trans (same_new nD _))
end
end My
namespace My
open PySem L2 PyProof.Rows
/-- the positions of the mates that a round breaks -/
noncomputable def brkN (R : List Nat) (ms : List Mate) : Nat → List Nat
  | 0 => []
  | i + 1 => match ms[i]? with
    | some m => if keepsB R m = true then brkN R ms i else brkN R ms i ++ [i]
    | none => brkN R ms i
noncomputable abbrev brk (R : List Nat) (ms : List Mate) : List Nat := brkN R ms ms.length
theorem brkN_len (R : List Nat) (ms : List Mate) : ∀ i, (brkN R ms i).length ≤ i
  | 0 => Nat.le_refl _
  | i + 1 => by
    have := brkN_len R ms i
    unfold brkN
    split
    · split
      · omega
      · rw [List.length_append, List.length_singleton]; omega
    · omega
theorem brkN_yes {R : List Nat} {ms : List Mate} {i : Nat} {m : Mate} (h : ms[i]? = some m) (k : keepsB R m = true) : brkN R ms (i + 1) = brkN R ms i := by
  show (match ms[i]? with | some m => if keepsB R m = true then brkN R ms i else brkN R ms i ++ [i] | none => brkN R ms i) = _
  rw [h]
  exact if_pos k
theorem brkN_no {R : List Nat} {ms : List Mate} {i : Nat} {m : Mate} (h : ms[i]? = some m) (k : ¬ keepsB R m = true) : brkN R ms (i + 1) = brkN R ms i ++ [i] := by
  show (match ms[i]? with | some m => if keepsB R m = true then brkN R ms i else brkN R ms i ++ [i] | none => brkN R ms i) = _
  rw [h]
  exact if_neg k
theorem brkN_mem {R : List Nat} {ms : List Mate} {x : Nat} : ∀ {i}, x ∈ brkN R ms i ↔ x < i ∧ ∃ m, ms[x]? = some m ∧ keepsB R m = false
  | 0 => by simp [brkN]
  | i + 1 => by
    have ih := brkN_mem (R := R) (ms := ms) (x := x) (i := i)
    cases e : ms[i]? with
    | none =>
      have u : brkN R ms (i + 1) = brkN R ms i := by
        show (match ms[i]? with | some m => if keepsB R m = true then brkN R ms i else brkN R ms i ++ [i] | none => brkN R ms i) = _
        rw [e]
      rw [u, ih]
      constructor
      · rintro ⟨h1, h2⟩
        exact ⟨by omega, h2⟩
      · rintro ⟨h1, m, h2, h3⟩
        refine ⟨?_, m, h2, h3⟩
        by_cases z : x = i
        · subst z; rw [e] at h2; cases h2
        · omega
    | some m =>
      by_cases k : keepsB R m = true
      · rw [brkN_yes e k, ih]
        constructor
        · rintro ⟨h1, h2⟩
          exact ⟨by omega, h2⟩
        · rintro ⟨h1, m', h2, h3⟩
          refine ⟨?_, m', h2, h3⟩
          by_cases z : x = i
          · subst z; rw [e] at h2; cases h2; rw [k] at h3; cases h3
          · omega
      · rw [brkN_no e k, List.mem_append, ih, List.mem_singleton]
        constructor
        · rintro (⟨h1, h2⟩ | rfl)
          · exact ⟨by omega, h2⟩
          · exact ⟨by omega, m, e, by simpa using k⟩
        · rintro ⟨h1, h2⟩
          by_cases z : x = i
          · exact .inr z
          · exact .inl ⟨by omega, h2⟩
theorem mt_at {H : Hp} {as : List Addr} {ms : List Mate} (h : Paired (MAt H) as ms) {i : Nat} {v : V} (e : (as.map V.ref)[i]? = some v) : ∃ p m, v = .ref p ∧ ms[i]? = some m ∧ MAt H p m := by
  rw [List.getElem?_map] at e
  cases z : as[i]? with
  | none => rw [z] at e; cases e
  | some p =>
    rw [z] at e
    obtain ⟨m, h1, h2⟩ := paired_get h z
    exact ⟨p, m, (Option.some.inj e).symm, h1, h2⟩
section
variable {P : Program} {w : World} {K : PySem.W.Frag} {mg : Str → Option Value} {base : Heap} {C : Addr}
def sp_need_mates (_ : PySem.W.Frag) (C : Addr) : Sp := fun vs H Q _ => ∃ a N ts l ms, vs = [.ref a, .ref l] ∧ WebAt C a N ts H ∧ MsAt H l ms ∧ ms.length ≤ 20 ∧ (∀ m ∈ ms, OkMate ts.length m) ∧ ∀ H', Same H H' → Q .non H'
theorem ok_need_mates (D : Def K mg "_need_mates" s_need_mates ["web", "mates"]) (B : Bs mg) (Glb : Glo mg) (WK : WebK K mg C)
    (his_listed : Good P w K mg base "is_listed" sis_listed ["value"] 1 (spis_listed K C))
    (h_is_mate : Good P w K mg base "_is_mate" s_is_mate ["web", "value"] 4 (sp_is_mate K C)) :
    Good P w K mg base "_need_mates" s_need_mates ["web", "mates"] 5 (sp_need_mates K C) := by
  refine D.good fun f fd F => ?_
  obtain ⟨fis_listed, dis_listed, Ois_listed, mis_listed, kis_listed, bis_listed, Fis_listed⟩ := his_listed
  obtain ⟨f_is_mate, d_is_mate, O_is_mate, m_is_mate, k_is_mate, b_is_mate, F_is_mate⟩ := h_is_mate
  refine F.ok sc_need_mates (fun vs H Q E h => ?_) (fun cdv A outer s H vs Q E hr h => ?_)
  · obtain ⟨a, N, ts, l, ms, rfl, hw, hl, h20, ho, q⟩ := h
    first | rfl | (rcases h with ⟨_, _, rfl, _⟩ | ⟨_, rfl, _⟩ <;> rfl)
  obtain ⟨a, N, ts, l, ms, rfl, hw, hl, h20, ho, q⟩ := h
  refine ⟨_, (pss_one (ps_if (PW.pt (pw_or (pt_not (pt_val (pe_call Ois_listed (hr.mono (by decide)) rfl mis_listed kis_listed bis_listed .nil pass0 (pa_cons (pv 1) pa_nil)))) (pw_or (pt_cmpR op_gt (pe_callB call_len_seq (by rfl) B.len (by decide +kernel) (pa_cons (pv 1) pa_nil)) (pe_globI Glb.MOST_MATES) (nomark _)) (pw_or1 (pt_not (pt_val (pe_callB (cr_all rfl) (by rfl) B.all (by decide +kernel) (pa_cons (pe_lc (own := [("mate", 2)]) (g := gName 2) (by rfl) sc_need_mates.nd (pi_or (pi_list (pv 1)) (pi_tup (pv 1))) (blkOk_by (own := [("mate", 2)]) (N := ["web", "mates", "mate"]) (sc := defScope s_need_mates) (by decide +kernel)) (fun _ _ _ _ _ => (pg_name (i := 2) sc_need_mates.nd rfl (by first | exact Or.inl rfl | exact Or.inr rfl))) (fun _ _ _ _ _ => pts_nil) (fun _ _ _ _ _ => (pe_call O_is_mate hr rfl m_is_mate k_is_mate b_is_mate .nil pass0 (pa_cons (pv 0) (pa_cons (pv 2) pa_nil))))) pa_nil))))))))
    (pss_one ps_never) pss_nil)), ?_⟩
  obtain ⟨as, g1, g2⟩ := hl
  have hlen := paired_len g2
  have gs : ∀ {H' : Hp}, Same H H' → SqL K H' l (as.map V.ref) ∨ SqT K H' l (as.map V.ref) := fun s => g1.imp (fun z => SqL.of (s _ _ z)) (fun z => SqT.of (s _ _ z))
  refine ⟨_, rfl, l, rfl, g1.imp (fun h => ⟨_, h⟩) (fun h => ⟨_, h⟩), fun H1 hS1 => ⟨_, rfl, iteF ?_⟩⟩
  refine ⟨_, rfl, l, _, rfl, gs hS1, _, _, rfl, rfl, _, rfl, iteNo (by rw [List.length_map]; omega) ?_⟩
  have turn : ∀ (D : Addr) (i : Nat) (v : V) (H2 : Hp), H1 D = none → (as.map V.ref)[i]? = some v → Same H1 H2 ∧ H2 D = some (.lst ((List.replicate i true).map V.bl)) → ∃ p m, v = .ref p ∧ WebAt C a N ts H2 ∧ MAt H2 p m ∧ OkMate ts.length m ∧ ((List.replicate i true).map V.bl).length < sizeLine ∧ Same H1 (upd H2 D (.lst ((List.replicate i true).map V.bl ++ [V.bl true]))) ∧ upd H2 D (.lst ((List.replicate i true).map V.bl ++ [V.bl true])) D = some (.lst ((List.replicate (i + 1) true).map V.bl)) := fun D i v H2 nD hv ⟨hS2, hD2⟩ => by
    obtain ⟨p, m, e1, e2, e3⟩ := mt_at g2 hv
    have hi := (List.getElem?_eq_some_iff.mp e2).1
    refine ⟨p, m, e1, (hw.same hS1).same hS2, hS2 _ _ (hS1 _ _ e3), ho m (List.mem_of_getElem? e2), ?_, same_upd hS2 nD, ?_⟩
    · rw [List.length_map, List.length_replicate]
      exact Nat.lt_of_lt_of_le (by omega : i < 1000) (by decide)
    · rw [upd_same, List.replicate_succ', List.map_append]
      rfl
  have fin : ∀ (D : Addr) (H2 : Hp), Same H1 H2 ∧ H2 D = some (.lst ((List.replicate as.length true).map V.bl)) → rAll K [.ref D] H2 fun v H3 => v = .bl true ∧ Same H1 H3 := fun D H2 ⟨hS2, hD2⟩ => ⟨D, _, rfl, SqL.of hD2, by
    congr 1
    rw [List.all_eq_true]
    intro b hb
    rw [List.eq_of_mem_replicate hb]
    rfl, hS2⟩
  rcases g1 with g | g
  · refine .inl ⟨_, rfl, l, rfl, ⟨_, SqL.of (hS1 _ _ g)⟩, fun D nD => ?_⟩
    refine lc_list (K := K) (a := l) (xs := as.map V.ref) (fun i H' => Same H1 H' ∧ H' D = some (.lst ((List.replicate i true).map V.bl))) ⟨same_new nD _, upd_same⟩ (fun i H' _ ⟨hS', _⟩ => SqL.of (hS' _ _ (hS1 _ _ g))) ?_ ?_
    · rintro i v H2 hv hI
      obtain ⟨p, m, rfl, t1, t2, t3, t4, t5, t6⟩ := turn D i v H2 nD hv hI
      exact ⟨rfl, _, rfl, _, rfl, a, N, ts, p, m, rfl, t1, t2, t3, _, hI.2, t4, t5, t6⟩
    · rintro H2 hI
      rw [List.length_map] at hI
      obtain ⟨D', bs, e1, e2, e3, e4⟩ := fin D H2 hI
      refine ⟨D', bs, e1, e2, ?_⟩
      rw [e3]
      exact ⟨_, rfl, iteF (q _ (hS1.trans e4))⟩
  · refine .inr ⟨_, rfl, l, rfl, ⟨_, SqT.of (hS1 _ _ g)⟩, fun D nD => ?_⟩
    refine lc_tup (K := K) (a := l) (xs := as.map V.ref) (fun i H' => Same H1 H' ∧ H' D = some (.lst ((List.replicate i true).map V.bl))) ⟨same_new nD _, upd_same⟩ (fun i H' _ ⟨hS', _⟩ => SqT.of (hS' _ _ (hS1 _ _ g))) ?_ ?_
    · rintro i v H2 hv hI
      obtain ⟨p, m, rfl, t1, t2, t3, t4, t5, t6⟩ := turn D i v H2 nD hv hI
      exact ⟨rfl, _, rfl, _, rfl, a, N, ts, p, m, rfl, t1, t2, t3, _, hI.2, t4, t5, t6⟩
    · rintro H2 hI
      rw [List.length_map] at hI
      obtain ⟨D', bs, e1, e2, e3, e4⟩ := fin D H2 hI
      refine ⟨D', bs, e1, e2, ?_⟩
      rw [e3]
      exact ⟨_, rfl, iteF (q _ (hS1.trans e4))⟩
def sp_broken (_ : PySem.W.Frag) (_ : Addr) : Sp := fun vs H Q _ => ∃ s R l ms, vs = [.ref s, .ref l] ∧ SeqAt H s R ∧ 0 < R.length ∧ R.length ≤ 1000 ∧ MsAt H l ms ∧ ms.length ≤ 20 ∧ (∀ m ∈ ms, m.least ≤ m.most ∧ m.most ≤ 60) ∧ ∀ H' D, H D = none → Same H H' → H' D = some (.lst (iv (brk R ms))) → Q (.ref D) H'
theorem ok_broken (D : Def K mg "_broken" s_broken ["tour", "mates"]) (B : Bs mg) (Glb : Glo mg) (WK : WebK K mg C)
    (h_keeps : Good P w K mg base "_keeps" s_keeps ["tour", "mate"] 1 (sp_keeps K C)) :
    Good P w K mg base "_broken" s_broken ["tour", "mates"] 2 (sp_broken K C) := by
  refine D.good fun f fd F => ?_
  obtain ⟨f_keeps, d_keeps, O_keeps, m_keeps, k_keeps, b_keeps, F_keeps⟩ := h_keeps
  refine F.ok sc_broken (fun vs H Q E h => ?_) (fun cdv A outer s H vs Q E hr h => ?_)
  · obtain ⟨s, R, l, ms, rfl, hs, h0, h1, hl, h20, ho, q⟩ := h
    first | rfl | (rcases h with ⟨_, _, rfl, _⟩ | ⟨_, rfl, _⟩ <;> rfl)
  obtain ⟨s, R, l, ms, rfl, hs, h0, h1, hl, h20, ho, q⟩ := h
  refine ⟨_, (pss_one (ps_ret (pe_lc (own := [("at", 2), ("mate", 3)]) (g := gTup K 2 (gCons (gName 2) (gCons (gName 3) gNil))) (by rfl) sc_broken.nd (pi_or (pi_enum (by rfl) B.enumerate (pa_cons (pv 1) pa_nil)) (pi_enumT (by rfl) B.enumerate (pa_cons (pv 1) pa_nil))) (blkOk_by (own := [("at", 2), ("mate", 3)]) (N := ["tour", "mates", "at", "mate"]) (sc := defScope s_broken) (by decide +kernel)) (fun _ _ _ _ _ => (pg_tup rfl (pgs_cons (pg_name (i := 2) sc_broken.nd rfl (by first | exact Or.inl rfl | exact Or.inr rfl)) (pgs_cons (pg_name (i := 3) sc_broken.nd rfl (by first | exact Or.inl rfl | exact Or.inr rfl)) pgs_nil)))) (fun _ _ _ _ _ => (pts_one (pt_not (pt_val (pe_call O_keeps hr rfl m_keeps k_keeps b_keeps .nil pass0 (pa_cons (pv 0) (pa_cons (pv 3) pa_nil))))))) (fun _ _ _ _ _ => (pv 2))))), ?_⟩
  obtain ⟨as, g1, g2⟩ := hl
  have hlen := paired_len g2
  have turn : ∀ (D : Addr) (i : Nat) (v : V) (H2 : Hp), H D = none → (as.map V.ref)[i]? = some v → Same H H2 ∧ H2 D = some (.lst (iv (brkN R ms i))) → ∃ p m, v = .ref p ∧ ms[i]? = some m ∧ MAt H2 p m ∧ m.least ≤ m.most ∧ m.most ≤ 60 ∧ (iv (brkN R ms i)).length < sizeLine := fun D i v H2 nD hv ⟨hS2, hD2⟩ => by
    obtain ⟨p, m, e1, e2, e3⟩ := mt_at g2 hv
    have hi := (List.getElem?_eq_some_iff.mp e2).1
    have := brkN_len R ms i
    obtain ⟨o1, o2⟩ := ho m (List.mem_of_getElem? e2)
    refine ⟨p, m, e1, e2, hS2 _ _ e3, o1, o2, ?_⟩
    rw [List.length_map]
    exact Nat.lt_of_lt_of_le (by omega : (brkN R ms i).length < 1000) (by decide)
  rcases g1 with g | g
  · refine .inl ⟨_, rfl, l, _, rfl, SqL.of g, fun D nD => ?_⟩
    refine lc_it (walk_enum (K := K) (a := l) (xs := as.map V.ref)) (fun i H' => Same H H' ∧ H' D = some (.lst (iv (brkN R ms i)))) ⟨same_new nD _, upd_same⟩ (fun i H' _ ⟨hS', _⟩ => SqL.of (hS' _ _ g)) ?_ ?_
    · rintro i x H1 H2 hi hI ⟨T0, x1, x2, rfl, nT0, rfl, e1, e2⟩
      cases e1
      replace e2 : (as.map V.ref)[i]? = some x2 := e2
      obtain ⟨p, m, rfl, m1, m2, m3, m4, m5⟩ := turn D i x2 H1 nD e2 hI
      obtain ⟨hS1, hD1⟩ := hI
      have hS2 : Same H1 (upd H1 T0 (.tup [.int (i : Int), .ref p])) := same_new nT0 _
      have hT : upd H1 T0 (.tup [.int (i : Int), .ref p]) T0 = some (.tup [.int (i : Int), .ref p]) := upd_same
      generalize upd H1 T0 (.tup [.int (i : Int), .ref p]) = H2 at hS2 hT
      refine ⟨T0, _, rfl, SqT.of hT, rfl, _, _, rfl, _, _, rfl, rfl, rfl, _, rfl, _, rfl, s, R, p, m, rfl, (hs.same hS1).same hS2, h0, h1, hS2 _ _ m2, m3, m4, fun H3 hS3 => ⟨_, rfl, ?_⟩⟩
      have hD3 := hS3 _ _ (hS2 _ _ hD1)
      have hS13 := (hS1.trans hS2).trans hS3
      by_cases k : keepsB R m = true
      · rw [k]
        refine iteF ⟨hS13, ?_⟩
        rw [brkN_yes m1 k]
        exact hD3
      · rw [show keepsB R m = false by simpa using k]
        refine iteT ⟨_, rfl, _, hD3, m5, same_upd hS13 nD, ?_⟩
        rw [brkN_no m1 k, iv_app]
        exact upd_same
    · rintro H1 ⟨hS1, hD1⟩
      rw [List.length_map, hlen] at hD1
      exact q H1 D nD hS1 hD1
  · refine .inr ⟨_, rfl, l, _, rfl, SqT.of g, fun D nD => ?_⟩
    refine lc_it (walk_enumT (K := K) (a := l) (xs := as.map V.ref)) (fun i H' => Same H H' ∧ H' D = some (.lst (iv (brkN R ms i)))) ⟨same_new nD _, upd_same⟩ (fun i H' _ ⟨hS', _⟩ => SqT.of (hS' _ _ g)) ?_ ?_
    · rintro i x H1 H2 hi hI ⟨T0, x1, x2, rfl, nT0, rfl, e1, e2⟩
      cases e1
      replace e2 : (as.map V.ref)[i]? = some x2 := e2
      obtain ⟨p, m, rfl, m1, m2, m3, m4, m5⟩ := turn D i x2 H1 nD e2 hI
      obtain ⟨hS1, hD1⟩ := hI
      have hS2 : Same H1 (upd H1 T0 (.tup [.int (i : Int), .ref p])) := same_new nT0 _
      have hT : upd H1 T0 (.tup [.int (i : Int), .ref p]) T0 = some (.tup [.int (i : Int), .ref p]) := upd_same
      generalize upd H1 T0 (.tup [.int (i : Int), .ref p]) = H2 at hS2 hT
      refine ⟨T0, _, rfl, SqT.of hT, rfl, _, _, rfl, _, _, rfl, rfl, rfl, _, rfl, _, rfl, s, R, p, m, rfl, (hs.same hS1).same hS2, h0, h1, hS2 _ _ m2, m3, m4, fun H3 hS3 => ⟨_, rfl, ?_⟩⟩
      have hD3 := hS3 _ _ (hS2 _ _ hD1)
      have hS13 := (hS1.trans hS2).trans hS3
      by_cases k : keepsB R m = true
      · rw [k]
        refine iteF ⟨hS13, ?_⟩
        rw [brkN_yes m1 k]
        exact hD3
      · rw [show keepsB R m = false by simpa using k]
        refine iteT ⟨_, rfl, _, hD3, m5, same_upd hS13 nD, ?_⟩
        rw [brkN_no m1 k, iv_app]
        exact upd_same
    · rintro H1 ⟨hS1, hD1⟩
      rw [List.length_map, hlen] at hD1
      exact q H1 D nD hS1 hD1
def spkeeps_mate (_ : PySem.W.Frag) (C : Addr) : Sp := fun vs H Q _ => ∃ a N ts s R p m, vs = [.ref a, .ref s, .ref p] ∧ WebAt C a N ts H ∧ SeqAt H s R ∧ Tour ts R ∧ MAt H p m ∧ OkMate ts.length m ∧ ∀ H', Same H H' → Q (.bl (keepsB R m)) H'
theorem okkeeps_mate (D : Def K mg "keeps_mate" skeeps_mate ["web", "tour", "mate"]) (B : Bs mg) (Glb : Glo mg) (WK : WebK K mg C)
    (hneed_web : Good P w K mg base "need_web" sneed_web ["web"] 3 (spneed_web K C))
    (hneed_tour : Good P w K mg base "need_tour" sneed_tour ["web", "tour"] 7 (spneed_tour K C))
    (h_keeps : Good P w K mg base "_keeps" s_keeps ["tour", "mate"] 1 (sp_keeps K C))
    (h_is_mate : Good P w K mg base "_is_mate" s_is_mate ["web", "value"] 4 (sp_is_mate K C)) :
    Good P w K mg base "keeps_mate" skeeps_mate ["web", "tour", "mate"] 8 (spkeeps_mate K C) := by
  refine D.good fun f fd F => ?_
  obtain ⟨fneed_web, dneed_web, Oneed_web, mneed_web, kneed_web, bneed_web, Fneed_web⟩ := hneed_web
  obtain ⟨fneed_tour, dneed_tour, Oneed_tour, mneed_tour, kneed_tour, bneed_tour, Fneed_tour⟩ := hneed_tour
  obtain ⟨f_keeps, d_keeps, O_keeps, m_keeps, k_keeps, b_keeps, F_keeps⟩ := h_keeps
  obtain ⟨f_is_mate, d_is_mate, O_is_mate, m_is_mate, k_is_mate, b_is_mate, F_is_mate⟩ := h_is_mate
  refine F.ok sckeeps_mate (fun vs H Q E h => ?_) (fun cdv A outer s H vs Q E hr h => ?_)
  · obtain ⟨a, N, ts, s, R, p, m, rfl, hw, hs, ht, hm, ho, q⟩ := h
    first | rfl | (rcases h with ⟨_, _, rfl, _⟩ | ⟨_, rfl, _⟩ <;> rfl)
  obtain ⟨a, N, ts, s, R, p, m, rfl, hw, hs, ht, hm, ho, q⟩ := h
  refine ⟨_, (pss_cons (ps_expr (pe_call Oneed_web (hr.mono (by decide)) rfl mneed_web kneed_web bneed_web .nil pass0 (pa_cons (pv 0) pa_nil)))
  (pss_cons (ps_expr (pe_call Oneed_tour hr rfl mneed_tour kneed_tour bneed_tour .nil pass0 (pa_cons (pv 0) (pa_cons (pv 1) pa_nil))))
  (pss_cons (ps_if (pt_not (pt_val (pe_call O_is_mate (hr.mono (by decide)) rfl m_is_mate k_is_mate b_is_mate .nil pass0 (pa_cons (pv 0) (pa_cons (pv 2) pa_nil)))))
    (pss_one ps_never) pss_nil)
  (pss_one (ps_ret (pe_call O_keeps (hr.mono (by decide)) rfl m_keeps k_keeps b_keeps .nil pass0 (pa_cons (pv 1) (pa_cons (pv 2) pa_nil)))))))), ?_⟩
  refine ⟨_, rfl, a, N, ts, rfl, hw, _, rfl, _, rfl, a, N, ts, s, R, rfl, hw, hs, ht, fun H1 hS1 => ?_⟩
  refine ⟨_, rfl, _, rfl, a, N, ts, p, m, rfl, hw.same hS1, hS1 _ _ hm, ho, _, rfl, iteF ?_⟩
  exact ⟨_, rfl, _, rfl, s, R, p, m, rfl, hs.same hS1, ht.ch.n0, ht.n1, hS1 _ _ hm, ho.lm, ho.m60, fun H2 hS2 => q _ (hS1.trans hS2)⟩
def spbroken_mates (_ : PySem.W.Frag) (C : Addr) : Sp := fun vs H Q _ => ∃ a N ts s R l ms, vs = [.ref a, .ref s, .ref l] ∧ WebAt C a N ts H ∧ SeqAt H s R ∧ Tour ts R ∧ MsAt H l ms ∧ ms.length ≤ 20 ∧ (∀ m ∈ ms, OkMate ts.length m) ∧ ∀ H' D, H D = none → Same H H' → H' D = some (.lst (iv (brk R ms))) → Q (.ref D) H'
theorem okbroken_mates (D : Def K mg "broken_mates" sbroken_mates ["web", "tour", "mates"]) (B : Bs mg) (Glb : Glo mg) (WK : WebK K mg C)
    (hneed_web : Good P w K mg base "need_web" sneed_web ["web"] 3 (spneed_web K C))
    (hneed_tour : Good P w K mg base "need_tour" sneed_tour ["web", "tour"] 7 (spneed_tour K C))
    (h_need_mates : Good P w K mg base "_need_mates" s_need_mates ["web", "mates"] 5 (sp_need_mates K C))
    (h_broken : Good P w K mg base "_broken" s_broken ["tour", "mates"] 2 (sp_broken K C)) :
    Good P w K mg base "broken_mates" sbroken_mates ["web", "tour", "mates"] 8 (spbroken_mates K C) := by
  refine D.good fun f fd F => ?_
  obtain ⟨fneed_web, dneed_web, Oneed_web, mneed_web, kneed_web, bneed_web, Fneed_web⟩ := hneed_web
  obtain ⟨fneed_tour, dneed_tour, Oneed_tour, mneed_tour, kneed_tour, bneed_tour, Fneed_tour⟩ := hneed_tour
  obtain ⟨f_need_mates, d_need_mates, O_need_mates, m_need_mates, k_need_mates, b_need_mates, F_need_mates⟩ := h_need_mates
  obtain ⟨f_broken, d_broken, O_broken, m_broken, k_broken, b_broken, F_broken⟩ := h_broken
  refine F.ok scbroken_mates (fun vs H Q E h => ?_) (fun cdv A outer s H vs Q E hr h => ?_)
  · obtain ⟨a, N, ts, s, R, l, ms, rfl, hw, hs, ht, hl, h20, ho, q⟩ := h
    first | rfl | (rcases h with ⟨_, _, rfl, _⟩ | ⟨_, rfl, _⟩ <;> rfl)
  obtain ⟨a, N, ts, s, R, l, ms, rfl, hw, hs, ht, hl, h20, ho, q⟩ := h
  refine ⟨_, (pss_cons (ps_expr (pe_call Oneed_web (hr.mono (by decide)) rfl mneed_web kneed_web bneed_web .nil pass0 (pa_cons (pv 0) pa_nil)))
  (pss_cons (ps_expr (pe_call Oneed_tour hr rfl mneed_tour kneed_tour bneed_tour .nil pass0 (pa_cons (pv 0) (pa_cons (pv 1) pa_nil))))
  (pss_cons (ps_expr (pe_call O_need_mates (hr.mono (by decide)) rfl m_need_mates k_need_mates b_need_mates .nil pass0 (pa_cons (pv 0) (pa_cons (pv 2) pa_nil))))
  (pss_one (ps_ret (pe_call O_broken (hr.mono (by decide)) rfl m_broken k_broken b_broken .nil pass0 (pa_cons (pv 1) (pa_cons (pv 2) pa_nil)))))))), ?_⟩
  refine ⟨_, rfl, a, N, ts, rfl, hw, _, rfl, _, rfl, a, N, ts, s, R, rfl, hw, hs, ht, fun H1 hS1 => ?_⟩
  refine ⟨_, rfl, _, rfl, a, N, ts, l, ms, rfl, hw.same hS1, hl.same hS1, h20, ho, fun H2 hS2 => ?_⟩
  have hS12 := hS1.trans hS2
  exact ⟨_, rfl, _, rfl, s, R, l, ms, rfl, hs.same hS12, ht.ch.n0, ht.n1, hl.same hS12, h20, fun m hm => ⟨(ho m hm).lm, (ho m hm).m60⟩, fun H3 D nD hS3 hD => q _ D (hS12.free nD) (hS12.trans hS3) hD⟩
end
end My
namespace My
open PySem L2 PyProof.Rows
def PotOk (x y : Int) : Prop := 0 ≤ x ∧ 0 ≤ y ∧ y < 2147483588
def PotAt (H : Hp) (a : Addr) : Prop := ∃ x y : Int, H a = some (.lst [.int x, .int y]) ∧ PotOk x y
theorem PotAt.new {H : Hp} {a p : Addr} {o : HO} (h : PotAt H a) (np : H p = none) : PotAt (upd H p o) a := by
  obtain ⟨x, y, e, h⟩ := h
  exact ⟨x, y, by rw [upd_ne (ne_of_none e np)]; exact e, h⟩
theorem PotAt.put {H : Hp} {a p : Addr} {o : HO} (h : PotAt H a) (np : p ≠ a) : PotAt (upd H p o) a := by
  obtain ⟨x, y, e, h⟩ := h
  exact ⟨x, y, by rw [upd_ne np.symm]; exact e, h⟩
theorem PotAt.same {H H' : Hp} {a : Addr} (h : PotAt H a) (s : Same H H') : PotAt H' a := by
  obtain ⟨x, y, e, h⟩ := h
  exact ⟨x, y, s _ _ e, h⟩
theorem PotAt.ne {H : Hp} {a p : Addr} (h : PotAt H a) (np : H p = none) : p ≠ a := by
  obtain ⟨x, y, e, h⟩ := h
  exact (ne_of_none e np).symm
theorem PotAt.ntup {H : Hp} {a p : Addr} {xs : List V} (h : PotAt H a) (hp : H p = some (.tup xs)) : p ≠ a := by
  obtain ⟨x, y, e, h⟩ := h
  exact ne_of hp e (by intro q; cases q)
theorem Kept.new {H H' : Hp} {a p : Addr} {o : HO} (h : Kept a H H') (np : H' p = none) : Kept a H (upd H' p o) := h.trans (Same.kept (same_new np o))
theorem Kept.put {H H' : Hp} {a p : Addr} {o : HO} (h : Kept a H H') (np : H p = none) : Kept a H (upd H' p o) := fun b u e n => by
  rw [upd_ne (ne_of_none e np)]
  exact h b u e n
theorem TiesAt.kept {H H' : Hp} {a t : Addr} {ts : List (Nat × Nat)} (h : TiesAt H t ts) (k : Kept a H H') (hp : PotAt H a) (hn : t ≠ a) : TiesAt H' t ts := by
  obtain ⟨tas, h1, h2⟩ := h
  exact ⟨tas, k _ _ h1 hn, paired_mono (fun p e hq => k _ _ hq (hp.ntup hq)) h2⟩
theorem paired_app {α β : Type} {F : α → β → Prop} {a : α} {b : β} : ∀ {l1 : List α} {l2 : List β}, Paired F l1 l2 → F a b → Paired F (l1 ++ [a]) (l2 ++ [b])
  | _, _, .nil, h => .cons h .nil
  | _, _, .cons r t, h => .cons r (paired_app t h)
theorem paired_apps {α β : Type} {F : α → β → Prop} : ∀ {l1 m1 : List α} {l2 m2 : List β}, Paired F l1 l2 → Paired F m1 m2 → Paired F (l1 ++ m1) (l2 ++ m2)
  | _, _, _, _, .nil, h => h
  | _, _, _, _, .cons r t, h => .cons r (paired_apps t h)
theorem paired_rev {α β : Type} {F : α → β → Prop} : ∀ {l1 : List α} {l2 : List β}, Paired F l1 l2 → Paired F l1.reverse l2.reverse
  | _, _, .nil => .nil
  | _, _, .cons r t => by
    rw [List.reverse_cons, List.reverse_cons]
    exact paired_app (paired_rev t) r
theorem TiesAt.push {H : Hp} {p tp : Addr} {ts : List (Nat × Nat)} {u v : Nat} (h : TiesAt H p ts) (nt : H tp = none) :
    ∃ xs, (upd H tp (.tup [.int (u : Int), .int (v : Int)])) p = some (.lst xs) ∧ xs.length = ts.length ∧ TiesAt (upd (upd H tp (.tup [.int (u : Int), .int (v : Int)])) p (.lst (xs ++ [.ref tp]))) p (ts ++ [(u, v)]) := by
  obtain ⟨tas, h1, h2⟩ := h
  have npt : p ≠ tp := ne_of_none h1 nt
  refine ⟨tas.map V.ref, by rw [upd_ne npt]; exact h1, by rw [List.length_map]; exact paired_len h2, tas ++ [tp], by rw [upd_same, List.map_append]; rfl, paired_app (paired_mono (fun q e hq => ?_) h2) ?_⟩
  · have nqp : q ≠ p := ne_of hq h1 (by intro z; cases z)
    show upd _ _ _ q = _
    rw [upd_ne nqp, upd_ne (ne_of_none hq nt)]
    exact hq
  · show upd _ _ _ tp = _
    rw [upd_ne npt.symm, upd_same]
theorem TiesAt.pushV {H : Hp} {p tp : Addr} {ts : List (Nat × Nat)} {u v : Nat} {x y : V} (hx : x = .int (u : Int)) (hy : y = .int (v : Int)) (h : TiesAt H p ts) (nt : H tp = none) :
    ∃ xs, (upd H tp (.tup [x, y])) p = some (.lst xs) ∧ xs.length = ts.length ∧ TiesAt (upd (upd H tp (.tup [x, y])) p (.lst (xs ++ [.ref tp]))) p (ts ++ [(u, v)]) := by
  subst hx hy
  exact h.push nt
theorem TiesAt.nil {H : Hp} {p : Addr} : TiesAt (upd H p (.lst [])) p [] := ⟨[], upd_same, .nil⟩
theorem TiesAt.cat {H : Hp} {l m p : Addr} {ts us : List (Nat × Nat)} (h : TiesAt H l ts) (k : TiesAt H m us) (np : H p = none) : ∃ xs zs, H l = some (.lst xs) ∧ H m = some (.lst zs) ∧ xs.length = ts.length ∧ zs.length = us.length ∧ TiesAt (upd H p (.lst (xs ++ zs))) p (ts ++ us) := by
  obtain ⟨tas, h1, h2⟩ := h
  obtain ⟨uas, k1, k2⟩ := k
  refine ⟨_, _, h1, k1, by rw [List.length_map]; exact paired_len h2, by rw [List.length_map]; exact paired_len k2, tas ++ uas, by rw [upd_same, List.map_append], paired_mono (fun q e hq => ?_) (paired_apps h2 k2)⟩
  exact same_new np _ _ _ hq
theorem TiesAt.get {H : Hp} {l : Addr} {ts : List (Nat × Nat)} (h : TiesAt H l ts) : ∃ xs, H l = some (.lst xs) ∧ xs.length = ts.length := by
  obtain ⟨tas, h1, h2⟩ := h
  exact ⟨_, h1, by rw [List.length_map]; exact paired_len h2⟩
theorem TiesAt.new {H : Hp} {l p : Addr} {ts : List (Nat × Nat)} {o : HO} (h : TiesAt H l ts) (np : H p = none) : TiesAt (upd H p o) l ts := h.same (same_new np o)
theorem TiesAt.rev {H : Hp} {l p : Addr} {ts : List (Nat × Nat)} (h : TiesAt H l ts) (np : H p = none) : ∃ xs, H l = some (.lst xs) ∧ TiesAt (upd H p (.lst xs.reverse)) p ts.reverse := by
  obtain ⟨tas, h1, h2⟩ := h
  refine ⟨_, h1, tas.reverse, by rw [upd_same, List.map_reverse], paired_mono (fun q e hq => same_new np _ _ _ hq) (paired_rev h2)⟩
theorem TiesAt.catOne {H : Hp} {l p : Addr} {ts : List (Nat × Nat)} {tp : Addr} {u v : Nat} (h : TiesAt H l ts) (ht : H tp = some (.tup [.int (u : Int), .int (v : Int)])) (np : H p = none) :
    ∃ xs, H l = some (.lst xs) ∧ xs.length = ts.length ∧ TiesAt (upd H p (.lst (xs ++ [.ref tp]))) p (ts ++ [(u, v)]) := by
  obtain ⟨tas, h1, h2⟩ := h
  refine ⟨_, h1, by rw [List.length_map]; exact paired_len h2, tas ++ [tp], by rw [upd_same, List.map_append]; rfl, paired_app (paired_mono (fun q e hq => same_new np _ _ _ hq) h2) (same_new np _ _ _ ht)⟩
theorem Kept.free {a p : Addr} {H H' : Hp} (h : Kept a H H') (hn : H' p = none) (np : p ≠ a) : H p = none := by
  cases e : H p with
  | none => rfl
  | some o =>
    have := h p o e np
    rw [hn] at this
    cases this
theorem ok_app {N : Nat} {ts us : List (Nat × Nat)} (h : ∀ e ∈ ts, e.1 < N ∧ e.2 < N) (k : ∀ e ∈ us, e.1 < N ∧ e.2 < N) : ∀ e ∈ ts ++ us, e.1 < N ∧ e.2 < N := fun e he => (List.mem_append.mp he).elim (h e) (k e)
theorem ok_one {N u v : Nat} (h1 : u < N) (h2 : v < N) : ∀ e ∈ [(u, v)], e.1 < N ∧ e.2 < N := fun e he => by rw [List.mem_singleton.mp he]; exact ⟨h1, h2⟩
theorem ok_up {N M : Nat} {ts : List (Nat × Nat)} (h : ∀ e ∈ ts, e.1 < N ∧ e.2 < N) (hm : N ≤ M) : ∀ e ∈ ts, e.1 < M ∧ e.2 < M := fun e he => ⟨Nat.lt_of_lt_of_le (h e he).1 hm, Nat.lt_of_lt_of_le (h e he).2 hm⟩
section
variable {P : Program} {w : World} {K : PySem.W.Frag} {mg : Str → Option Value} {base : Heap} {C : Addr}
def sp_law_pot (K : PySem.W.Frag) (_ : Addr) : Sp := fun vs H Q _ => ∃ a, ∃ ns : List Int, vs = [.ref a, .int 0] ∧ SqL K H a (ns.map V.int) ∧ ∀ p H', PotAt H' p → Same H H' → H p = none → Q (.ref p) H'
theorem ok_law_pot (D : Def K mg "_law_pot" s_law_pot ["_law_script", "_law_k"]) (B : Bs mg) (Glb : Glo mg) (WK : WebK K mg C) :
    Good P w K mg base "_law_pot" s_law_pot ["_law_script", "_law_k"] 1 (sp_law_pot K C) := by
  refine D.good fun f fd F => ?_
  refine F.ok sc_law_pot (fun vs H Q E h => ?_) (fun cdv A outer s H vs Q E hr h => ?_)
  · obtain ⟨a, ns, rfl, hS, q⟩ := h
    first | rfl | (rcases h with ⟨_, _, rfl, _⟩ | ⟨_, rfl, _⟩ <;> rfl)
  obtain ⟨a, ns, rfl, hS, q⟩ := h
  refine ⟨_, (pss_cons (ps_set (i := 2) sc_law_pot.nd rfl (by first | exact Or.inl rfl | exact Or.inr rfl) (pe_op op_add (pe_op op_mul pe_int (pv 1)) pe_int))
  (pss_cons (ps_if (pt_cmpR op_lt (pv 1) (pe_callB call_len_seq (by rfl) B.len (by decide +kernel) (pa_cons (pv 0) pa_nil)) (nomark _))
    (pss_one (ps_set (i := 2) sc_law_pot.nd rfl (by first | exact Or.inl rfl | exact Or.inr rfl) (pe_callB call_abs (by rfl) B.abs (by decide +kernel) (pa_cons (pe_ix ix_list (pv 0) (pv 1) (fun _ _ => rfl)) pa_nil)))) pss_nil)
  (pss_cons (ps_set (i := 3) sc_law_pot.nd rfl (by first | exact Or.inl rfl | exact Or.inr rfl) (pe_op op_add (pe_op op_add (pe_op op_mul (pe_op op_mod (pe_callTy call_int1 (by rfl) B.int (by decide +kernel) (pa_cons (pv 2) pa_nil)) pe_int) pe_int) (pe_op op_mul pe_int (pv 1))) pe_int))
  (pss_one (ps_ret (pe_lst (pa_cons (pe_callB (call_max2 rfl) (by rfl) B.max (by decide +kernel) (pa_cons pe_int (pa_cons (pe_op op_sub (pv 2) (pe_op op_pow pe_int pe_int)) pa_nil))) (pa_cons (pe_op op_add (pe_op op_mod (pe_callTy call_int1 (by rfl) B.int (by decide +kernel) (pa_cons (pv 3) pa_nil)) pe_int) pe_int) pa_nil)))))))), ?_⟩
  refine ⟨_, rfl, _, _, rfl, rfl, .inl ⟨by decide, by decide⟩, _, _, rfl, rfl, ?_⟩
  refine ⟨_, rfl, _, rfl, _, _, rfl, .inl hS, _, _, rfl, rfl, _, rfl, ?_⟩
  refine ite2 (fun c1 => ?pos) (fun c1 => ?neg)
  case' pos =>
    obtain ⟨n, rest, rfl⟩ : ∃ n rest, ns = n :: rest := by
      cases ns with
      | nil => exact absurd (of_decide_eq_true c1) (by decide)
      | cons n rest => exact ⟨n, rest, rfl⟩
    refine ⟨_, rfl, _, rfl, _, _, _, .int n, rfl, rfl, hS, atI_nat (j := 0) rfl, _, rfl, ?_⟩
    have hz0 : (0 : Int) ≤ (if n < 0 then -n else n) := by split <;> omega
  case' neg =>
    have hz0 : (0 : Int) ≤ (1091 * 0 + 197) := by decide
  all_goals
    refine ⟨_, rfl, .inl ⟨_, rfl, _, _, rfl, rfl, (by show (0 : Int) < 2147483549; decide), _, _, rfl, rfl, .inl ⟨?_, ?_⟩, _, rfl, _, _, rfl, rfl, .inl ⟨by decide, by decide⟩, _, _, rfl, rfl, _, _, rfl, rfl, ?_⟩⟩
    · omega
    · omega
    refine ⟨_, rfl, _, _, rfl, rfl, ⟨by decide, by decide, by decide⟩, _, _, rfl, rfl, _, _, rfl, _, rfl, .inl ⟨_, rfl, _, _, rfl, rfl, (by show (0 : Int) < 2147483563; decide), _, _, rfl, rfl, (by show 2 ≤ sizeLine; decide), fun p np => ?_⟩⟩
    · refine q p _ ⟨_, _, upd_same, ?_, ?_, ?_⟩ (same_new np _) np
      · split <;> omega
      · omega
      · omega
def sp_law_draw (_ : PySem.W.Frag) (_ : Addr) : Sp := fun vs H Q _ => ∃ a n, vs = [.ref a, .int ((n : Nat) : Int)] ∧ PotAt H a ∧ 0 < n ∧ n ≤ 1000 ∧ ∀ (d : Nat) H', d < n → Kept a H H' → PotAt H' a → Q (.int (d : Int)) H'
theorem ok_law_draw (D : Def K mg "_law_draw" s_law_draw ["_law_pot_here", "_law_size"]) (B : Bs mg) (Glb : Glo mg) (WK : WebK K mg C) :
    Good P w K mg base "_law_draw" s_law_draw ["_law_pot_here", "_law_size"] 1 (sp_law_draw K C) := by
  refine D.good fun f fd F => ?_
  refine F.ok sc_law_draw (fun vs H Q E h => ?_) (fun cdv A outer s H vs Q E hr h => ?_)
  · obtain ⟨a, n, rfl, ⟨x, y, ha, hx, hy, hy2⟩, hn, hn2, q⟩ := h
    first | rfl | (rcases h with ⟨_, _, rfl, _⟩ | ⟨_, rfl, _⟩ <;> rfl)
  obtain ⟨a, n, rfl, ⟨x, y, ha, hx, hy, hy2⟩, hn, hn2, q⟩ := h
  refine ⟨_, (pss_cons (ps_if (pt_cmpR op_gt (pe_ix ix_list (pv 0) pe_int (fun _ _ => rfl)) pe_int (nomark _))
    (pss_cons (ps_asg (pe_callB call_divmod (by rfl) B.divmod (by decide +kernel) (pa_cons (pe_ix ix_list (pv 0) pe_int (fun _ _ => rfl)) (pa_cons (pv 1) pa_nil))) (pg_tup rfl (pgs_cons (pg_sub (pv 0) pe_int set_list) (pgs_cons (pg_name (i := 2) sc_law_draw.nd rfl (by first | exact Or.inl rfl | exact Or.inr rfl)) pgs_nil))))
  (pss_one (ps_ret (pv 2)))) pss_nil)
  (pss_cons (ps_asg (pe_op op_mod (pe_callTy call_int1 (by rfl) B.int (by decide +kernel) (pa_cons (pe_op op_add (pe_op op_mul (pe_ix ix_list (pv 0) pe_int (fun _ _ => rfl)) pe_int) pe_int) pa_nil)) pe_int) (pg_sub (pv 0) pe_int set_list))
  (pss_one (ps_ret (pe_op op_mod (pe_callTy call_int1 (by rfl) B.int (by decide +kernel) (pa_cons (pe_op op_fdiv (pe_op op_mod (pe_callTy call_int1 (by rfl) B.int (by decide +kernel) (pa_cons (pe_op op_mul (pe_ix ix_list (pv 0) pe_int (fun _ _ => rfl)) (pe_ix ix_list (pv 0) pe_int (fun _ _ => rfl))) pa_nil)) pe_int) pe_int) pa_nil)) (pv 1)))))), ?_⟩
  refine ⟨_, rfl, _, _, _, .int x, rfl, rfl, SqL.of ha, rfl, _, _, rfl, rfl, _, rfl, ?_⟩
  refine ite2 (fun c1 => ?_) (fun c1 => ?_)
  · have hpos : (0 : Int) < x := of_decide_eq_true c1
    refine ⟨_, rfl, _, _, _, .int x, rfl, rfl, SqL.of ha, rfl, _, rfl, _, _, rfl, ⟨by omega, by omega⟩, fun p np => ?_⟩
    have hpa : a ≠ p := ne_of_none ha np
    have ha' : (upd H p (.tup [.int (x / (n : Int)), .int (x % (n : Int))])) a = some (.lst [.int x, .int y]) := by
      rw [upd_ne hpa]
      exact ha
    have ed : (((x % (n : Int)).toNat : Nat) : Int) = x % (n : Int) := Int.toNat_of_nonneg (Int.emod_nonneg _ (by omega))
    have el := Int.emod_lt_of_pos x (show (0 : Int) < (n : Int) by omega)
    refine ⟨_, _, rfl, SqT.of upd_same, rfl, _, _, rfl, _, rfl, _, _, _, 0, rfl, rfl, ha', rfl, _, _, rfl, rfl, ?_⟩
    refine ⟨_, rfl, ?_⟩
    have := q (x % (n : Int)).toNat (upd (upd H p (.tup [.int (x / (n : Int)), .int (x % (n : Int))])) a (.lst [.int (x / (n : Int)), .int y])) (by omega) (fun b o e nb => by rw [upd_ne nb, upd_ne (ne_of_none e np)]; exact e)
      ⟨_, _, upd_same, Int.ediv_nonneg hx (by omega), hy, hy2⟩
    rw [ed] at this
    exact this
  · refine ⟨_, rfl, _, _, _, .int y, rfl, rfl, SqL.of ha, rfl, _, _, rfl, rfl, .inl ⟨by omega, by omega⟩, _, _, rfl, rfl, .inl ⟨_, rfl, _, _, rfl, rfl, (by show (0 : Int) < 2147483587; decide), _, rfl, _, _, _, 1, rfl, rfl, ha, rfl, ?_⟩⟩
    have hz0 : (0 : Int) ≤ (y * 39373 + 9649) % 2147483587 := by omega
    have hz1 : (y * 39373 + 9649) % 2147483587 < (2147483587 : Int) := by omega
    refine ⟨_, rfl, _, _, _, .int ((y * 39373 + 9649) % 2147483587), rfl, rfl, SqL.of upd_same, rfl, _, rfl, _, _, _, .int ((y * 39373 + 9649) % 2147483587), rfl, rfl, SqL.of upd_same, rfl, _, _, rfl, rfl, .inl ⟨by omega, by omega⟩, .inl ⟨_, rfl, _, _, rfl, rfl, (by show (0 : Int) < 2147483563; decide), _, _, rfl, rfl, ⟨by decide, by decide⟩, .inl ⟨_, rfl, _, rfl, _, _, rfl, rfl, (by show (0 : Int) < (n : Int); omega), ?_⟩⟩⟩
    have fin : ∀ z : Int, 0 ≤ z → z < 2147483587 → Q (V.int (z * z % 2147483563 / 19 % (n : Int))) (upd H a (.lst [.int x, .int z])) := fun z hz0 hz1 => by
      have ed : (((z * z % 2147483563 / 19 % (n : Int)).toNat : Nat) : Int) = z * z % 2147483563 / 19 % (n : Int) := Int.toNat_of_nonneg (Int.emod_nonneg _ (by omega))
      have el := Int.emod_lt_of_pos (z * z % 2147483563 / 19) (show (0 : Int) < (n : Int) by omega)
      have := q (z * z % 2147483563 / 19 % (n : Int)).toNat (upd H a (.lst [.int x, .int z])) (by omega) (fun b o e nb => by rw [upd_ne nb]; exact e) ⟨_, _, upd_same, hx, hz0, by omega⟩
      rw [ed] at this
      exact this
    exact fin _ hz0 hz1
def sp_law_pick (K : PySem.W.Frag) (_ : Addr) : Sp := fun vs H Q _ => ∃ a l, ∃ xs : List V, vs = [.ref a, .ref l] ∧ H l = some (.lst xs) ∧ l ≠ a ∧ 0 < xs.length ∧ xs.length ≤ 1000 ∧ PotAt H a ∧ ∀ v H', v ∈ xs → Kept a H H' → PotAt H' a → Q v H'
theorem ok_law_pick (D : Def K mg "_law_pick" s_law_pick ["_law_pot_here", "_law_some"]) (B : Bs mg) (Glb : Glo mg) (WK : WebK K mg C)
    (h_law_draw : Good P w K mg base "_law_draw" s_law_draw ["_law_pot_here", "_law_size"] 1 (sp_law_draw K C)) :
    Good P w K mg base "_law_pick" s_law_pick ["_law_pot_here", "_law_some"] 2 (sp_law_pick K C) := by
  refine D.good fun f fd F => ?_
  obtain ⟨f_law_draw, d_law_draw, O_law_draw, m_law_draw, k_law_draw, b_law_draw, F_law_draw⟩ := h_law_draw
  refine F.ok sc_law_pick (fun vs H Q E h => ?_) (fun cdv A outer s H vs Q E hr h => ?_)
  · obtain ⟨a, l, xs, rfl, hl, hla, h0, hlen, hp, q⟩ := h
    first | rfl | (rcases h with ⟨_, _, rfl, _⟩ | ⟨_, rfl, _⟩ <;> rfl)
  obtain ⟨a, l, xs, rfl, hl, hla, h0, hlen, hp, q⟩ := h
  refine ⟨_, (pss_one (ps_ret (pe_ix ix_list (pv 1) (pe_call O_law_draw hr rfl m_law_draw k_law_draw b_law_draw .nil pass0 (pa_cons (pv 0) (pa_cons (pe_callB call_len_seq (by rfl) B.len (by decide +kernel) (pa_cons (pv 1) pa_nil)) pa_nil))) (fun _ _ => rfl)))), ?_⟩
  refine ⟨_, rfl, _, rfl, _, rfl, _, _, rfl, .inl (SqL.of hl), a, xs.length, rfl, hp, h0, hlen, fun d H' hd hk hp' => ?_⟩
  exact ⟨_, _, _, _, rfl, rfl, SqL.of (hk l _ hl hla), atI_nat (List.getElem?_eq_getElem hd), q _ H' (List.getElem_mem hd) hk hp'⟩
end
end My
namespace My
open PySem L2 PyProof.Rows
theorem sIx_lt {d n : Nat} (h : d < n) : seqIndex? (d : Int) n = some d := by
  refine (ixN_seq ?_).1
  unfold ixN
  rw [if_pos (by omega), if_pos (by omega)]
  rfl
theorem cutV_to {xs : List V} {k : Nat} : cutV xs none (some (k : Int)) = xs.take k := by
  unfold cutV
  rw [HT.sIx_none, HT.sIx_nat]
  show (xs.drop 0).take _ = _
  rw [List.drop_zero]
  by_cases h : k ≤ xs.length
  · rw [Nat.min_eq_left h]; rfl
  · rw [Nat.min_eq_right (by omega), List.take_of_length_le (by omega), List.take_of_length_le (by omega)]
theorem cutV_from {xs : List V} {k : Nat} : cutV xs (some (k : Int)) none = xs.drop k := by
  unfold cutV
  rw [HT.sIx_none, HT.sIx_nat]
  by_cases h : k ≤ xs.length
  · rw [Nat.min_eq_left h, List.take_of_length_le (by rw [List.length_drop]; omega)]
  · rw [Nat.min_eq_right (by omega), List.drop_of_length_le (by omega), List.drop_of_length_le (by omega)]
    simp
theorem dp_iv {K : PySem.W.Frag} {H : Hp} {p : Addr} {L : List Nat} (h : H p = some (.lst (iv L))) : Dp K H (.ref p) (dz (L.map fun n : Nat => (n : Int))) := dp_iz (by rw [← iv_iz]; exact h)
theorem TiesAt.take {H : Hp} {l : Addr} {ts : List (Nat × Nat)} {k : Nat} {xs : List V} (h : TiesAt H l ts) (hx : H l = some (.lst xs)) {p : Addr} (hp : H p = some (.lst (xs.take k))) : TiesAt H p (ts.take k) := by
  obtain ⟨tas, h1, h2⟩ := h
  rw [hx] at h1
  cases h1
  refine ⟨tas.take k, by rw [hp, List.map_take], ?_⟩
  clear hx hp
  induction h2 generalizing k with
  | nil => simp; exact .nil
  | cons r t ih =>
    cases k with
    | zero => exact .nil
    | succ k => exact .cons r ih
theorem TiesAt.drop {H : Hp} {l : Addr} {ts : List (Nat × Nat)} {k : Nat} {xs : List V} (h : TiesAt H l ts) (hx : H l = some (.lst xs)) {p : Addr} (hp : H p = some (.lst (xs.drop k))) : TiesAt H p (ts.drop k) := by
  obtain ⟨tas, h1, h2⟩ := h
  rw [hx] at h1
  cases h1
  refine ⟨tas.drop k, by rw [hp, List.map_drop], ?_⟩
  clear hx hp
  induction h2 generalizing k with
  | nil => simp; exact .nil
  | cons r t ih =>
    cases k with
    | zero => exact .cons r t
    | succ k => exact ih
theorem TiesAt.app {H : Hp} {l m p : Addr} {ts us : List (Nat × Nat)} {xs zs : List V} (h : TiesAt H l ts) (k : TiesAt H m us) (hx : H l = some (.lst xs)) (hz : H m = some (.lst zs)) (hp : H p = some (.lst (xs ++ zs))) : TiesAt H p (ts ++ us) := by
  obtain ⟨tas, h1, h2⟩ := h
  obtain ⟨uas, k1, k2⟩ := k
  rw [hx] at h1
  rw [hz] at k1
  cases h1
  cases k1
  exact ⟨tas ++ uas, by rw [hp, List.map_append], paired_apps h2 k2⟩
theorem iv_erase : ∀ (L : List Nat) (d : Nat), iv (L.eraseIdx d) = (iv L).eraseIdx d
  | [], _ => rfl
  | _ :: _, 0 => rfl
  | x :: r, d + 1 => congrArg (List.cons _) (iv_erase r d)
theorem erase_perm : ∀ {L : List Nat} {d x : Nat}, L[d]? = some x → (x :: L.eraseIdx d).Perm L
  | [], _, _, h => by simp at h
  | y :: r, 0, x, h => by
    have : y = x := by simpa using h
    subst this
    exact List.Perm.refl _
  | y :: r, d + 1, x, h => by
    have ih := erase_perm (L := r) (d := d) (x := x) (by simpa using h)
    exact (List.Perm.swap y x _).trans (ih.cons y)
/-- a tie begins at each place -/
def Goes (N : Nat) (ts : List (Nat × Nat)) : Prop := ∀ p, p < N → ∃ e ∈ ts, e.1 = p
theorem goes_frm {N : Nat} {ts : List (Nat × Nat)} (h : Goes N ts) {p : Nat} (hp : p < N) : 0 < (frm ts p).length := by
  obtain ⟨e, he, rfl⟩ := h p hp
  obtain ⟨i, hi⟩ := List.getElem?_of_mem he
  have : i ∈ frm ts e.1 := (frmN_mem ts e.1 i _).mpr ⟨(List.getElem?_eq_some_iff.mp hi).1, by rw [hi]; rfl⟩
  exact List.length_pos_of_mem this
/-- the ring of a sequence of places -/
def ringOf (o : List Nat) (n : Nat) : List (Nat × Nat) := (List.range n).map fun k => (o.getD k 0, o.getD ((k + 1) % o.length) 0)
theorem ringOf_snoc (o : List Nat) (n : Nat) : ringOf o (n + 1) = ringOf o n ++ [(o.getD n 0, o.getD ((n + 1) % o.length) 0)] := by
  unfold ringOf
  rw [List.range_succ, List.map_append]
  rfl
theorem getD_mem {o : List Nat} {k : Nat} (h : k < o.length) : o.getD k 0 ∈ o := by
  rw [List.getD_eq_getElem?_getD, List.getElem?_eq_getElem h]
  exact List.getElem_mem h
section
variable {P : Program} {w : World} {K : PySem.W.Frag} {mg : Str → Option Value} {base : Heap} {C : Addr}
def sp_law_close_web (_ : PySem.W.Frag) (_ : Addr) : Sp := fun vs H Q _ => ∃ a N m, vs = [.ref a, .int ((N : Nat) : Int), .int ((m : Nat) : Int)] ∧ PotAt H a ∧ 0 < N ∧ N ≤ 60 ∧ m ≤ 10 ∧ ∀ l ts H', ts.length ≤ N + m → OkWeb N ts → Goes N ts → Kept a H H' → PotAt H' a → H l = none → TiesAt H' l ts → Q (.ref l) H'
theorem ok_law_close_web (D : Def K mg "_law_close_web" s_law_close_web ["_law_pot_here", "_law_places", "_law_more"]) (B : Bs mg) (Glb : Glo mg) (WK : WebK K mg C)
    (h_law_draw : Good P w K mg base "_law_draw" s_law_draw ["_law_pot_here", "_law_size"] 1 (sp_law_draw K C)) :
    Good P w K mg base "_law_close_web" s_law_close_web ["_law_pot_here", "_law_places", "_law_more"] 2 (sp_law_close_web K C) := by
  refine D.good fun f fd F => ?_
  obtain ⟨f_law_draw, d_law_draw, O_law_draw, m_law_draw, k_law_draw, b_law_draw, F_law_draw⟩ := h_law_draw
  refine F.ok sc_law_close_web (fun vs H Q E h => ?_) (fun cdv A outer s H vs Q E hr h => ?_)
  · obtain ⟨a, N, m, rfl, hp, hN, hN60, hm, q⟩ := h
    first | rfl | (rcases h with ⟨_, _, rfl, _⟩ | ⟨_, rfl, _⟩ <;> rfl)
  obtain ⟨a, N, m, rfl, hp, hN, hN60, hm, q⟩ := h
  refine ⟨_, (pss_cons (ps_asg (pe_tup (pa_cons (pe_lst pa_nil) (pa_cons (pe_callTy (call_listRng rfl) (by rfl) B.list (by decide +kernel) (pa_cons (pe_callTy cr_range1 (by rfl) B.range (by decide +kernel) (pa_cons (pv 1) pa_nil)) pa_nil)) pa_nil))) (pg_tup rfl (pgs_cons (pg_name (i := 3) sc_law_close_web.nd rfl (by first | exact Or.inl rfl | exact Or.inr rfl)) (pgs_cons (pg_name (i := 4) sc_law_close_web.nd rfl (by first | exact Or.inl rfl | exact Or.inr rfl)) pgs_nil))))
  (pss_cons (ps_while PassesOwn.never (pt_cmpR (op_neD hr.units) (pv 4) (pe_lst pa_nil) (nomark _))
    (pss_one (ps_expr (pe_bm PySem.F.plainAttrs_list PySem.F.slot_list_append PySem.F.type_list_append mt_append (pv 3) (pa_cons (pe_bm PySem.F.plainAttrs_list PySem.F.slot_list_pop PySem.F.type_list_pop mt_popAt (pv 4) (pa_cons (pe_call O_law_draw hr rfl m_law_draw k_law_draw b_law_draw .nil pass0 (pa_cons (pv 0) (pa_cons (pe_callB call_len_seq (by rfl) B.len (by decide +kernel) (pa_cons (pv 4) pa_nil)) pa_nil))) pa_nil)) pa_nil)))))
  (pss_cons (ps_setLc (i := 5) (own := [("_law_at", 10)]) (g := gName 10) (by rfl) sc_law_close_web.nd rfl rfl (sw_true rfl rfl rfl (by decide +kernel)) (pi_range1 (by rfl) B.range (pa_cons (pv 1) pa_nil)) (blkOk_by (own := [("_law_at", 10)]) (N := ["_law_pot_here", "_law_places", "_law_more", "_law_order", "_law_left", "_law_ties", "_law_turn", "_law_near", "_law_tie", "_law_spot", "_law_at"]) (sc := defScope s_law_close_web) (by decide +kernel)) (fun _ _ _ _ _ => (pg_name (i := 10) sc_law_close_web.nd rfl (by first | exact Or.inl rfl | exact Or.inr rfl))) (fun _ _ _ _ _ => pts_nil) (fun _ _ _ _ _ => (pe_tup (pa_cons (pe_ix (ix_listK (K := K) rfl) (pv 3) (pv 10) (fun _ _ => rfl)) (pa_cons (pe_ix (ix_listK (K := K) rfl) (pv 3) (pe_op op_mod (pe_callTy call_int1 (by rfl) B.int (by decide +kernel) (pa_cons (pe_op op_add (pv 10) pe_int) pa_nil)) (pv 1)) (fun _ _ => rfl)) pa_nil)))))
  (pss_cons (ps_for PassesOwn.never rfl (pi_range1 (by rfl) B.range (pa_cons (pe_call O_law_draw hr rfl m_law_draw k_law_draw b_law_draw .nil pass0 (pa_cons (pv 0) (pa_cons (pe_op op_add (pv 2) pe_int) pa_nil))) pa_nil)) (pg_name (i := 6) sc_law_close_web.nd rfl (by first | exact Or.inl rfl | exact Or.inr rfl))
    (pss_cons (ps_set (i := 7) sc_law_close_web.nd rfl (by first | exact Or.inl rfl | exact Or.inr rfl) (pe_call O_law_draw hr rfl m_law_draw k_law_draw b_law_draw .nil pass0 (pa_cons (pv 0) (pa_cons (pv 1) pa_nil))))
  (pss_cons (ps_set (i := 8) sc_law_close_web.nd rfl (by first | exact Or.inl rfl | exact Or.inr rfl) (pe_tup (pa_cons (pv 7) (pa_cons (pe_call O_law_draw hr rfl m_law_draw k_law_draw b_law_draw .nil pass0 (pa_cons (pv 0) (pa_cons (pv 1) pa_nil))) pa_nil))))
  (pss_cons (ps_set (i := 9) sc_law_close_web.nd rfl (by first | exact Or.inl rfl | exact Or.inr rfl) (pe_call O_law_draw hr rfl m_law_draw k_law_draw b_law_draw .nil pass0 (pa_cons (pv 0) (pa_cons (pe_op op_add (pe_callB call_len_seq (by rfl) B.len (by decide +kernel) (pa_cons (pv 5) pa_nil)) pe_int) pa_nil))))
  (pss_one (ps_set (i := 5) sc_law_close_web.nd rfl (by first | exact Or.inl rfl | exact Or.inr rfl) (pe_op op_cat (pe_op op_cat (pe_slice sl_list (pv 5) po_none (po_some (pv 9))) (pe_lst (pa_cons (pv 8) pa_nil))) (pe_slice sl_list (pv 5) (po_some (pv 9)) po_none))))))))
  (pss_one (ps_ret (pv 5))))))), ?_⟩
  refine ⟨Nat.zero_le _, fun O nO => ⟨_, rfl, (N : Int), rfl, fun pr npr => ⟨pr, N, rfl, upd_same, by omega, fun Lf nLf => ⟨(by show 2 ≤ sizeLine; decide), fun T nT => ?_⟩⟩⟩⟩
  refine ⟨T, _, rfl, SqT.of upd_same, rfl, _, _, rfl, _, _, rfl, rfl, ?_⟩
  have nOpr : O ≠ pr := ne_of_none upd_same npr
  have nOL : O ≠ Lf := ne_of_none (by rw [upd_ne nOpr]; exact upd_same) nLf
  have nOT : O ≠ T := ne_of_none (by rw [upd_ne nOL, upd_ne nOpr]; exact upd_same) nT
  have nLT : Lf ≠ T := ne_of_none upd_same nT
  have hO0 : upd (upd (upd (upd H O (.lst [])) pr (.rng 0 (N : Int))) Lf (.lst (iv (List.range N)))) T (.tup [.ref O, .ref Lf]) O = some (.lst (iv [])) := by rw [upd_ne nOT, upd_ne nOL, upd_ne nOpr]; exact upd_same
  have hL0 : upd (upd (upd (upd H O (.lst [])) pr (.rng 0 (N : Int))) Lf (.lst (iv (List.range N)))) T (.tup [.ref O, .ref Lf]) Lf = some (.lst (iv (List.range N))) := by rw [upd_ne nLT]; exact upd_same
  have hS0 : Same H (upd (upd (upd (upd H O (.lst [])) pr (.rng 0 (N : Int))) Lf (.lst (iv (List.range N)))) T (.tup [.ref O, .ref Lf])) := (((same_new nO _).trans (same_new npr _)).trans (same_new nLf _)).trans (same_new nT _)
  have nLf0 : H Lf = none := ((same_new nO (.lst [])).trans (same_new npr (.rng 0 (N : Int)))).free nLf
  have nOa : O ≠ a := hp.ne nO
  have nLa : Lf ≠ a := hp.ne nLf0
  have hp0 := hp.same hS0
  generalize upd (upd (upd (upd H O (.lst [])) pr (.rng 0 (N : Int))) Lf (.lst (iv (List.range N)))) T (.tup [.ref O, .ref Lf]) = H0 at hO0 hL0 hS0 hp0
  let Pv : Nat → L2.St → Hp → Prop := fun m' σ H' => ∃ (ord lft : List Nat), σ = [some (.ref a), some (.int (N : Int)), some (.int (m : Int)), some (.ref O), some (.ref Lf), none, none, none, none, none, none] ∧ Kept a H H' ∧ PotAt H' a ∧ H' O = some (.lst (iv ord)) ∧ H' Lf = some (.lst (iv lft)) ∧ (ord ++ lft).Perm (List.range N) ∧ lft.length = m'
  refine ⟨Pv, ⟨_, [], List.range N, rfl, Same.kept hS0, hp0, hO0, hL0, by simp, rfl⟩, ?_⟩
  rintro m' σ H1 ⟨ord, lft, rfl, hk1, hp1, hO1, hL1, hperm, hlen⟩
  have hlt : (ord ++ lft).length = N := by rw [hperm.length_eq, List.length_range]
  rw [List.length_append] at hlt
  refine ⟨_, rfl, (by decide), fun p0 np0 => ⟨_, _, dp_iv (same_new np0 _ _ _ hL1), dp_iz (L := []) upd_same, shaped_iz _, shaped_iz _, _, rfl, ?_⟩⟩
  rw [eqv_empty]
  have hk2 : Kept a H (upd H1 p0 (.lst [])) := hk1.new np0
  have hp2 : PotAt (upd H1 p0 (.lst [])) a := hp1.new np0
  have hO2 := same_new np0 (.lst []) _ _ hO1
  have hL2 := same_new np0 (.lst []) _ _ hL1
  generalize upd H1 p0 (.lst []) = H2 at hk2 hp2 hO2 hL2
  by_cases c : lft = []
  · subst c
    refine iteNot' (by rfl) ?_
    have hpo : ord.Perm (List.range N) := by simpa using hperm
    have hol : ord.length = N := by simpa using hlt
    have hlo : ∀ x ∈ ord, x < N := fun x hx => List.mem_range.mp (hpo.mem_iff.mp hx)
    refine ⟨_, rfl, _, rfl, by omega, by omega, fun D nD => ?_⟩
    rw [show ((N : Nat) : Int).toNat = N by omega]
    refine lc_range (lo := 0) (n := N) (fun i H' => Kept a H H' ∧ PotAt H' a ∧ H' O = some (.lst (iv ord)) ∧ TiesAt H' D (ringOf ord i)) ⟨hk2.new nD, hp2.new nD, by rw [upd_ne (ne_of_none hO2 nD)]; exact hO2, TiesAt.nil⟩ ?_ ?_
    · rintro i H3 hi ⟨hk3, hp3, hO3, hT3⟩
      rw [Int.zero_add]
      have e2 : ((i : Int) + 1) % (N : Int) = (((i + 1) % ord.length : Nat) : Int) := by rw [hol]; rfl
      refine ⟨rfl, _, rfl, _, rfl, _, _, _, .int ((ord.getD i 0 : Nat) : Int), rfl, rfl, SqL.of hO3, iv_at (getD_lt (by omega)), ?_⟩
      refine ⟨_, rfl, _, rfl, _, _, rfl, rfl, .inl ⟨_, rfl, _, rfl, _, _, rfl, rfl, (by omega), _, _, _, .int ((ord.getD ((i + 1) % ord.length) 0 : Nat) : Int), rfl, rfl, SqL.of hO3, ?_, (by show 2 ≤ sizeLine; decide), fun tp ntp => ?_⟩⟩
      · rw [e2]
        exact iv_at (getD_lt (Nat.mod_lt _ (by omega)))
      obtain ⟨xs, g1, g2, g3⟩ := hT3.push (u := ord.getD i 0) (v := ord.getD ((i + 1) % ord.length) 0) ntp
      have hDa : D ≠ a := hp2.ne nD
      have hDn : H D = none := hk2.free nD hDa
      refine ⟨xs, g1, ?_, (hk3.new ntp).put hDn, (hp3.new ntp).put hDa, ?_, ?_⟩
      · rw [g2]
        unfold ringOf
        rw [List.length_map, List.length_range]
        exact Nat.lt_of_lt_of_le (by omega : i < 1000) (by decide)
      · rw [upd_ne (fun z => by rw [z] at hO2; rw [hO2] at nD; cases nD), upd_ne (ne_of_none hO3 ntp)]
        exact hO3
      · rw [ringOf_snoc]
        exact g3
    rintro H3 ⟨hk3, hp3, hO3, hT3⟩
    have hDa : D ≠ a := hp2.ne nD
    have hDn : H D = none := hk2.free nD hDa
    have hr1 : (ringOf ord N).length = N := by unfold ringOf; rw [List.length_map, List.length_range]
    have hr2 : ∀ e ∈ ringOf ord N, e.1 < N ∧ e.2 < N := fun e he => by
      obtain ⟨k, hk, rfl⟩ := List.mem_map.mp he
      have hk := List.mem_range.mp hk
      exact ⟨hlo _ (getD_mem (by omega)), hlo _ (getD_mem (Nat.mod_lt _ (by omega)))⟩
    have hr3 : Goes N (ringOf ord N) := fun p hpN => by
      have : p ∈ ord := hpo.mem_iff.mpr (List.mem_range.mpr hpN)
      obtain ⟨k, hk⟩ := List.getElem?_of_mem this
      have hk1 := (List.getElem?_eq_some_iff.mp hk).1
      refine ⟨_, List.mem_map.mpr ⟨k, List.mem_range.mpr (by omega), rfl⟩, ?_⟩
      show ord.getD k 0 = p
      rw [List.getD_eq_getElem?_getD, hk]
      rfl
    generalize ringOf ord N = ts0 at hT3 hr1 hr2 hr3
    refine ⟨_, rfl, _, rfl, _, _, rfl, rfl, a, m + 1, rfl, hp3, by omega, by omega, fun d H4 hd hk4 hp4 => ⟨_, rfl, by omega, by omega, ?_⟩⟩
    rw [show ((d : Nat) : Int).toNat = d by omega]
    refine for_range (lo := 0) (n := d) (fun i σ H' => ∃ (l : Addr) (ts : List (Nat × Nat)) (v6 v7 v8 v9 : Option V), σ = [some (.ref a), some (.int (N : Int)), some (.int (m : Int)), some (.ref O), some (.ref Lf), some (.ref l), v6, v7, v8, v9, none] ∧ ts.length = N + i ∧ (∀ e ∈ ts, e.1 < N ∧ e.2 < N) ∧ Goes N ts ∧ Kept a H H' ∧ PotAt H' a ∧ H l = none ∧ TiesAt H' l ts) ⟨D, ts0, none, none, none, none, rfl, by rw [hr1]; rfl, hr2, hr3, hk3.trans hk4, hp4, hDn, hT3.kept hk4 hp3 hDa⟩ ?_ ?_
    · rintro i σ H5 hi ⟨l, ts, v6, v7, v8, v9, rfl, hl, hok, hgo, hk5, hp5, nl, hT5⟩
      have hla : l ≠ a := hp.ne nl
      refine ⟨_, rfl, _, rfl, a, N, rfl, hp5, hN, by omega, fun u H6 hu hk6 hp6 => ?_⟩
      refine ⟨_, rfl, _, rfl, _, rfl, a, N, rfl, hp6, hN, by omega, fun v H7 hv hk7 hp7 => ⟨(by show 2 ≤ sizeLine; decide), fun tp ntp => ?_⟩⟩
      have hk57 := (hk5.trans hk6).trans hk7
      have hT7 := (hT5.kept hk6 hp5 hla).kept hk7 hp6 hla
      have hT8 := hT7.new (o := .tup [.int (u : Int), .int (v : Int)]) ntp
      have hp8 := hp7.new (o := .tup [.int (u : Int), .int (v : Int)]) ntp
      have hk8 := hk57.new (o := .tup [.int (u : Int), .int (v : Int)]) ntp
      have ht8 : upd H7 tp (.tup [.int (u : Int), .int (v : Int)]) tp = some (.tup [.int (u : Int), .int (v : Int)]) := upd_same
      generalize upd H7 tp (.tup [.int (u : Int), .int (v : Int)]) = H8 at hT8 hp8 hk8 ht8
      obtain ⟨xs8, hx8, hxl8⟩ := hT8.get
      refine ⟨_, rfl, _, rfl, l, _, rfl, .inl (SqL.of hx8), _, _, rfl, rfl, a, xs8.length + 1, rfl, hp8, by omega, by omega, fun k H9 hk hk9 hp9 => ?_⟩
      have hT9 := hT8.kept hk9 hp8 hla
      have ht9 := hk9 _ _ ht8 (hp8.ntup ht8)
      have hk9' := hk8.trans hk9
      obtain ⟨xs, hx, hxl⟩ := hT9.get
      refine ⟨_, rfl, _, rfl, _, rfl, l, _, rfl, SqL.of hx, fun p1 n1 => ?_⟩
      rw [cutV_to] at *
      have hS1 : Same H9 (upd H9 p1 (.lst (xs.take k))) := same_new n1 _
      have h11 : upd H9 p1 (.lst (xs.take k)) p1 = some (.lst (xs.take k)) := upd_same
      generalize upd H9 p1 (.lst (xs.take k)) = HA at hS1 h11
      refine ⟨_, rfl, (by show 1 ≤ sizeLine; decide), fun p2 n2 => ?_⟩
      have hS2 := hS1.trans (same_new n2 (.lst [.ref tp]))
      have h12 := same_new n2 (.lst [.ref tp]) _ _ h11
      have h22 : upd HA p2 (.lst [.ref tp]) p2 = some (.lst [.ref tp]) := upd_same
      generalize upd HA p2 (.lst [.ref tp]) = HB at hS2 h12 h22
      have hlen : (xs.take k).length + [V.ref tp].length ≤ sizeLine := by
        rw [List.length_take, List.length_singleton]
        exact Nat.le_trans (by omega : _ ≤ 1000) (by decide)
      refine ⟨p1, p2, _, _, rfl, rfl, h12, h22, hlen, fun p3 n3 => ?_⟩
      have hS3 := hS2.trans (same_new n3 (.lst (xs.take k ++ [V.ref tp])))
      have h13 := same_new n3 (.lst (xs.take k ++ [V.ref tp])) _ _ h12
      have h23 := same_new n3 (.lst (xs.take k ++ [V.ref tp])) _ _ h22
      have h33 : upd HB p3 (.lst (xs.take k ++ [V.ref tp])) p3 = some (.lst (xs.take k ++ [V.ref tp])) := upd_same
      generalize upd HB p3 (.lst (xs.take k ++ [V.ref tp])) = HC at hS3 h13 h23 h33
      refine ⟨_, rfl, _, rfl, _, rfl, l, _, rfl, SqL.of (hS3 _ _ hx), fun p4 n4 => ?_⟩
      rw [cutV_from] at *
      have hS4 := hS3.trans (same_new n4 (.lst (xs.drop k)))
      have h14 := same_new n4 (.lst (xs.drop k)) _ _ h13
      have h24 := same_new n4 (.lst (xs.drop k)) _ _ h23
      have h34 := same_new n4 (.lst (xs.drop k)) _ _ h33
      have h44 : upd HC p4 (.lst (xs.drop k)) p4 = some (.lst (xs.drop k)) := upd_same
      generalize upd HC p4 (.lst (xs.drop k)) = HD at hS4 h14 h24 h34 h44
      have hlen2 : (xs.take k ++ [V.ref tp]).length + (xs.drop k).length ≤ sizeLine := by
        rw [List.length_append, List.length_take, List.length_singleton, List.length_drop]
        exact Nat.le_trans (by omega : _ ≤ 1000) (by decide)
      refine ⟨p3, p4, _, _, rfl, rfl, h34, h44, hlen2, fun p5 n5 => ?_⟩
      have hS5 := hS4.trans (same_new n5 (.lst (xs.take k ++ [V.ref tp] ++ xs.drop k)))
      have h15 := same_new n5 (.lst (xs.take k ++ [V.ref tp] ++ xs.drop k)) _ _ h14
      have h25 := same_new n5 (.lst (xs.take k ++ [V.ref tp] ++ xs.drop k)) _ _ h24
      have h35 := same_new n5 (.lst (xs.take k ++ [V.ref tp] ++ xs.drop k)) _ _ h34
      have h45 := same_new n5 (.lst (xs.take k ++ [V.ref tp] ++ xs.drop k)) _ _ h44
      have h55 : upd HD p5 (.lst (xs.take k ++ [V.ref tp] ++ xs.drop k)) p5 = some (.lst (xs.take k ++ [V.ref tp] ++ xs.drop k)) := upd_same
      generalize upd HD p5 (.lst (xs.take k ++ [V.ref tp] ++ xs.drop k)) = HF at hS5 h15 h25 h35 h45 h55
      have hx5 := hS5 _ _ hx
      have t0 := hT9.same hS5
      have t2 : TiesAt HF p2 [(u, v)] := ⟨[tp], h25, .cons (hS5 _ _ ht9) .nil⟩
      have t3 := (t0.take hx5 h15).app t2 h15 h25 h35
      have t5 := t3.app (t0.drop hx5 h45) h35 h45 h55
      refine ⟨p5, _, _, _, _, _, rfl, ?_, ?_, ?_, hk9'.trans (Same.kept hS5), hp9.same hS5, ?_, t5⟩
      · rw [List.length_append, List.length_append, List.length_take, List.length_singleton, List.length_drop]
        omega
      · intro e he
        rcases List.mem_append.mp he with he | he
        · rcases List.mem_append.mp he with he | he
          · exact hok e (List.mem_of_mem_take he)
          · rw [List.mem_singleton.mp he]; exact ⟨hu, hv⟩
        · exact hok e (List.mem_of_mem_drop he)
      · intro p hpN
        obtain ⟨e, he, h1⟩ := hgo p hpN
        refine ⟨e, ?_, h1⟩
        rw [← List.take_append_drop k ts] at he
        rcases List.mem_append.mp he with he | he
        · exact List.mem_append_left _ (List.mem_append_left _ he)
        · exact List.mem_append_right _ he
      · exact hk9'.free (hS4.free n5) (fun z => by rw [z] at n5; obtain ⟨x, y, e, _⟩ := hp9.same hS4; rw [e] at n5; cases n5)
    · rintro σ H5 ⟨l, ts, v6, v7, v8, v9, rfl, hl, hok, hgo, hk5, hp5, nl, hT5⟩
      exact ⟨_, rfl, q l ts H5 (by omega) ⟨hN, hN60, by omega, hok⟩ hgo hk5 hp5 nl hT5⟩
  · refine iteNot (by simpa using c) ?_
    have hl0 : 0 < lft.length := List.length_pos_iff.mpr c
    refine ⟨fun σ' H' => ∃ m'', m'' < m' ∧ Pv m'' σ' H', fun σ' H' h => h, ?_⟩
    refine ⟨_, rfl, .inl ⟨rfl, _, SqL.of hO2⟩, _, rfl, .inl ⟨rfl, _, SqL.of hL2⟩, _, rfl, _, rfl, Lf, _, rfl, .inl (SqL.of hL2), a, (iv lft).length, rfl, hp2, by rw [List.length_map]; exact hl0, by rw [List.length_map]; omega, fun d H3 hd hk3 hp3 => ?_⟩
    rw [List.length_map] at hd
    have hL3 := hk3 _ _ hL2 nLa
    have hO3 := hk3 _ _ hO2 nOa
    have ed : lft[d]? = some (lft[d]'hd) := List.getElem?_eq_getElem hd
    refine ⟨Lf, _, (d : Int), d, .int ((lft[d] : Nat) : Int), rfl, rfl, hL3, by omega, by omega, sIx_lt (by rw [List.length_map]; exact hd), by rw [List.getElem?_map, ed]; rfl, ?_⟩
    refine ⟨O, _, _, rfl, rfl, by rw [upd_ne nOL]; exact hO3, by rw [List.length_map]; exact Nat.lt_of_lt_of_le (by omega : ord.length < 1000) (by decide), ?_⟩
    refine ⟨_, ?_, ord ++ [lft[d]], lft.eraseIdx d, rfl, ?_, ?_, ?_, ?_, ?_, rfl⟩
    · rw [List.length_eraseIdx_of_lt hd]; omega
    · exact ((hk2.trans hk3).put nLf0).put nO
    · exact (hp3.put nLa).put nOa
    · rw [upd_same, iv_app]
    · rw [upd_ne nOL.symm, upd_same]
      congr 2
      exact (iv_erase _ _).symm
    · refine List.Perm.trans ?_ hperm
      rw [List.append_assoc]
      refine List.Perm.append_left _ ?_
      exact erase_perm ed
end
end My
namespace My
open PySem L2 PyProof.Rows
theorem Chain.one {ts : List (Nat × Nat)} {x : Nat} (h : x < ts.length) : Chain ts [x] := ⟨by simp, fun y hy => by rw [List.mem_singleton.mp hy]; exact h, fun i hi => by simp at hi⟩
theorem Chain.last {ts : List (Nat × Nat)} {R : List Nat} (h : Chain ts R) : ∃ x e, R[R.length - 1]? = some x ∧ ts[x]? = some e := by
  have h0 := h.n0
  have e1 : R[R.length - 1]? = some (R[R.length - 1]'(by omega)) := List.getElem?_eq_getElem _
  have := h.num _ (List.mem_of_getElem? e1)
  exact ⟨_, _, e1, List.getElem?_eq_getElem this⟩
theorem Chain.first {ts : List (Nat × Nat)} {R : List Nat} (h : Chain ts R) : ∃ x e, R[0]? = some x ∧ ts[x]? = some e := by
  have h0 := h.n0
  have e1 : R[0]? = some (R[0]'(by omega)) := List.getElem?_eq_getElem _
  have := h.num _ (List.mem_of_getElem? e1)
  exact ⟨_, _, e1, List.getElem?_eq_getElem this⟩
theorem Chain.snoc {ts : List (Nat × Nat)} {R : List Nat} {x y : Nat} {e : Nat × Nat} (h : Chain ts R) (hx : R[R.length - 1]? = some x) (he : ts[x]? = some e) (hy : y ∈ frm ts e.2) : Chain ts (R ++ [y]) := by
  have h0 := h.n0
  obtain ⟨y1, y2⟩ := (frmN_mem ts e.2 y _).mp hy
  obtain ⟨g, hg⟩ : ∃ g, ts[y]? = some g := ⟨_, List.getElem?_eq_getElem y1⟩
  rw [hg] at y2
  have y3 : g.1 = e.2 := by simpa using y2
  refine ⟨by simp, fun z hz => ?_, fun i hi => ?_⟩
  · rcases List.mem_append.mp hz with hz | hz
    · exact h.num z hz
    · rw [List.mem_singleton.mp hz]; exact y1
  · rw [List.length_append, List.length_singleton] at hi
    by_cases c : i + 1 < R.length
    · obtain ⟨x', y', e', f', k1, k2, k3, k4, k5⟩ := h.on i c
      exact ⟨x', y', e', f', by rw [List.getElem?_append_left (by omega)]; exact k1, by rw [List.getElem?_append_left c]; exact k2, k3, k4, k5⟩
    · have ei : i = R.length - 1 := by omega
      subst ei
      refine ⟨x, y, e, g, by rw [List.getElem?_append_left (by omega)]; exact hx, ?_, he, hg, y3⟩
      rw [List.getElem?_append_right (by omega), show R.length - 1 + 1 - R.length = 0 by omega]
      rfl
theorem iv_mem {L : List Nat} {v : V} (h : v ∈ iv L) : ∃ y : Nat, y ∈ L ∧ v = .int (y : Int) := by
  obtain ⟨y, hy, rfl⟩ := List.mem_map.mp h
  exact ⟨y, hy, rfl⟩
section
variable {P : Program} {w : World} {K : PySem.W.Frag} {mg : Str → Option Value} {base : Heap} {C : Addr}
def sp_law_walk (_ : PySem.W.Frag) (_ : Addr) : Sp := fun vs H Q _ => ∃ a l N ts m, vs = [.ref a, .ref l, .int ((m : Nat) : Int)] ∧ PotAt H a ∧ l ≠ a ∧ TiesAt H l ts ∧ OkWeb N ts ∧ Goes N ts ∧ 0 < m ∧ m ≤ 100 ∧ ∀ f R H', Chain ts R → R.length = m → Kept a H H' → PotAt H' a → H f = none → H' f = some (.lst (iv R)) → Q (.ref f) H'
theorem ok_law_walk (D : Def K mg "_law_walk" s_law_walk ["_law_pot_here", "_law_ties", "_law_many"]) (B : Bs mg) (Glb : Glo mg) (WK : WebK K mg C)
    (h_law_draw : Good P w K mg base "_law_draw" s_law_draw ["_law_pot_here", "_law_size"] 1 (sp_law_draw K C))
    (h_law_pick : Good P w K mg base "_law_pick" s_law_pick ["_law_pot_here", "_law_some"] 2 (sp_law_pick K C)) :
    Good P w K mg base "_law_walk" s_law_walk ["_law_pot_here", "_law_ties", "_law_many"] 3 (sp_law_walk K C) := by
  refine D.good fun f fd F => ?_
  obtain ⟨f_law_draw, d_law_draw, O_law_draw, m_law_draw, k_law_draw, b_law_draw, F_law_draw⟩ := h_law_draw
  obtain ⟨f_law_pick, d_law_pick, O_law_pick, m_law_pick, k_law_pick, b_law_pick, F_law_pick⟩ := h_law_pick
  refine F.ok sc_law_walk (fun vs H Q E h => ?_) (fun cdv A outer s H vs Q E hr h => ?_)
  · obtain ⟨a, l, N, ts, m, rfl, hp, hla, hT, ho, hgo, hm0, hm, q⟩ := h
    first | rfl | (rcases h with ⟨_, _, rfl, _⟩ | ⟨_, rfl, _⟩ <;> rfl)
  obtain ⟨a, l, N, ts, m, rfl, hp, hla, hT, ho, hgo, hm0, hm, q⟩ := h
  refine ⟨_, (pss_cons (ps_set (i := 3) sc_law_walk.nd rfl (by first | exact Or.inl rfl | exact Or.inr rfl) (pe_lst (pa_cons (pe_call O_law_draw (hr.mono (by decide)) rfl m_law_draw k_law_draw b_law_draw .nil pass0 (pa_cons (pv 0) (pa_cons (pe_callB call_len_seq (by rfl) B.len (by decide +kernel) (pa_cons (pv 1) pa_nil)) pa_nil))) pa_nil)))
  (pss_cons (ps_while PassesOwn.never (pt_cmpR op_lt (pe_callB call_len_seq (by rfl) B.len (by decide +kernel) (pa_cons (pv 3) pa_nil)) (pv 2) (nomark _))
    (pss_cons (ps_set (i := 4) sc_law_walk.nd rfl (by first | exact Or.inl rfl | exact Or.inr rfl) (pe_ix ix_tup (pe_ix ix_list (pv 1) (pe_ix ix_list (pv 3) (pe_un un_neg pe_int) (fun _ _ => rfl)) (fun _ _ => rfl)) pe_int (fun _ _ => rfl)))
  (pss_cons (ps_setLc (i := 5) (own := [("_law_number", 6), ("_law_tie", 7)]) (g := gTup K 2 (gCons (gName 6) (gCons (gName 7) gNil))) (by rfl) sc_law_walk.nd rfl rfl (sw_true rfl rfl rfl (by decide +kernel)) (pi_enum (by rfl) B.enumerate (pa_cons (pv 1) pa_nil)) (blkOk_by (own := [("_law_number", 6), ("_law_tie", 7)]) (N := ["_law_pot_here", "_law_ties", "_law_many", "_law_found", "_law_here", "_law_some", "_law_number", "_law_tie"]) (sc := defScope s_law_walk) (by decide +kernel)) (fun _ _ _ _ _ => (pg_tup rfl (pgs_cons (pg_name (i := 6) sc_law_walk.nd rfl (by first | exact Or.inl rfl | exact Or.inr rfl)) (pgs_cons (pg_name (i := 7) sc_law_walk.nd rfl (by first | exact Or.inl rfl | exact Or.inr rfl)) pgs_nil)))) (fun _ _ _ _ _ => (pts_one (pt_cmpR op_eq (pe_ix (ix_tupK (K := K) rfl) (pv 7) pe_int (fun _ _ => rfl)) (pv 4) (nomark _)))) (fun _ _ _ _ _ => (pv 6)))
  (pss_one (ps_expr (pe_bm PySem.F.plainAttrs_list PySem.F.slot_list_append PySem.F.type_list_append mt_append (pv 3) (pa_cons (pe_call O_law_pick hr rfl m_law_pick k_law_pick b_law_pick .nil pass0 (pa_cons (pv 0) (pa_cons (pv 5) pa_nil))) pa_nil)))))))
  (pss_one (ps_ret (pv 3))))), ?_⟩
  have htm := ho.m
  have hgm : 0 < ts.length := by
    obtain ⟨e, he, _⟩ := hgo 0 ho.n0
    exact List.length_pos_of_mem he
  obtain ⟨xs0, hxs0, hxl0⟩ := hT.get
  refine ⟨_, rfl, _, rfl, l, _, rfl, .inl (SqL.of hxs0), a, xs0.length, rfl, hp, by omega, by omega, fun d H0 hd hk0 hp0 => ⟨(by show 1 ≤ sizeLine; decide), fun f nf => ?_⟩⟩
  have hfa : f ≠ a := hp0.ne nf
  have nfH : H f = none := hk0.free nf hfa
  have hkF := hk0.new (o := .lst [.int (d : Int)]) nf
  have hpF := hp0.new (o := .lst [.int (d : Int)]) nf
  have hfF : upd H0 f (.lst [.int (d : Int)]) f = some (.lst (iv [d])) := upd_same
  generalize upd H0 f (.lst [.int (d : Int)]) = HF at hkF hpF hfF
  let Pv : Nat → L2.St → Hp → Prop := fun m' σ H' => ∃ (R : List Nat) (v4 v5 : Option V), σ = [some (.ref a), some (.ref l), some (.int (m : Int)), some (.ref f), v4, v5, none, none] ∧ Chain ts R ∧ R.length ≤ m ∧ m' = m - R.length ∧ Kept a H H' ∧ PotAt H' a ∧ H' f = some (.lst (iv R))
  refine ⟨Pv, ⟨_, [d], none, none, rfl, Chain.one (by omega), by show 1 ≤ m; omega, rfl, hkF, hpF, hfF⟩, ?_⟩
  rintro m' σ H1 ⟨R, v4, v5, rfl, hc, hRm, rfl, hk1, hp1, hf1⟩
  have h0 := hc.n0
  refine ⟨_, rfl, f, _, rfl, .inl (SqL.of hf1), _, rfl, _, _, rfl, rfl, _, rfl, ?_⟩
  rw [List.length_map]
  refine ite2 (fun c1 => ?_) (fun c1 => ?_)
  · have c2 : (R.length : Int) < (m : Int) := of_decide_eq_true c1
    refine ⟨fun σ' H' => ∃ m'', m'' < m - R.length ∧ Pv m'' σ' H', fun σ' H' h => h, ?_⟩
    obtain ⟨x, e, e1, e2⟩ := hc.last
    have hT1 := hT.kept hk1 hp hla
    obtain ⟨xs, p, k1, k2, k3⟩ := hT1.at_ e2
    refine ⟨_, rfl, _, rfl, _, rfl, _, _, _, .int (x : Int), rfl, rfl, SqL.of hf1, iv_back e1, _, _, _, .ref p, rfl, rfl, SqL.of k1, k2, _, _, _, .int (e.2 : Int), rfl, rfl, SqT.of k3, rfl, ?_⟩
    obtain ⟨tas, hl1, hP1⟩ := id hT1
    refine ⟨_, rfl, l, _, rfl, SqL.of hl1, fun D nD => ?_⟩
    refine lc_it (walk_enum (K := K) (a := l) (xs := tas.map V.ref)) (fun i H' => Same H1 H' ∧ H' D = some (.lst (iv (frmN ts e.2 i)))) ⟨same_new nD _, upd_same⟩ (fun i H' _ ⟨hS', _⟩ => SqL.of (hS' _ _ hl1)) ?_ ?_
    · rintro i x H2 H3 hi ⟨hS2, hD2⟩ ⟨T0, x1, x2, rfl, nT0, rfl, e1, e2⟩
      cases e1
      rw [List.length_map] at hi
      replace e2 : (tas.map V.ref)[i]? = some x2 := e2
      rw [List.getElem?_map, List.getElem?_eq_getElem hi] at e2
      cases e2
      obtain ⟨⟨u, v⟩, he', hpe⟩ := paired_get hP1 (List.getElem?_eq_getElem hi)
      have hil := (List.getElem?_eq_some_iff.mp he').1
      have hS3 := same_new nT0 (.tup [.int (i : Int), .ref tas[i]])
      have hT3 : upd H2 T0 (.tup [.int (i : Int), .ref tas[i]]) T0 = some (.tup [.int (i : Int), .ref tas[i]]) := upd_same
      generalize upd H2 T0 (.tup [.int (i : Int), .ref tas[i]]) = H3 at hS3 hT3
      have hp3 : H3 tas[i] = some (.tup [.int (u : Int), .int (v : Int)]) := hS3 _ _ (hS2 _ _ hpe)
      have hD3 := hS3 _ _ hD2
      have hlf := frmN_len ts e.2 i
      refine ⟨T0, _, rfl, SqT.of hT3, rfl, _, _, rfl, _, _, rfl, rfl, rfl, ?_⟩
      refine ⟨_, rfl, _, _, _, .int (u : Int), rfl, rfl, SqT.of hp3, rfl, _, rfl, rfl, _, rfl, ?_⟩
      by_cases c : u = e.2
      · have e3 : frmN ts e.2 (i + 1) = frmN ts e.2 i ++ [i] := if_pos (by rw [he', c]; rfl)
        refine iteYes (by rw [c]) ⟨_, rfl, _, hD3, ?_, same_upd (hS2.trans hS3) nD, ?_⟩
        · rw [List.length_map]
          exact Nat.lt_of_lt_of_le (by omega : (frmN ts e.2 i).length < 1000) (by decide)
        · rw [upd_same, e3, iv_app]
      · have e3 : frmN ts e.2 (i + 1) = frmN ts e.2 i := if_neg (by rw [he']; intro z; exact c (by simpa using z))
        refine iteNo (fun z => c (by have := int_eq.mp z; omega)) ⟨hS2.trans hS3, ?_⟩
        rw [e3]
        exact hD3
    rintro H2 ⟨hS2, hD2⟩
    rw [List.length_map, paired_len hP1] at hD2
    have hf2 := hS2 _ _ hf1
    have hgf := goes_frm hgo (ho.ok e (List.mem_of_getElem? e2)).2
    have hlf := frmN_len ts e.2 ts.length
    have hDa : D ≠ a := hp1.ne nD
    refine ⟨_, rfl, .inl ⟨rfl, _, SqL.of hf2⟩, _, rfl, _, rfl, a, D, _, rfl, hD2, hDa, by rw [List.length_map]; exact hgf, by rw [List.length_map]; omega, hp1.same hS2, fun v H3 hv hk3 hp3 => ?_⟩
    obtain ⟨y, hy, rfl⟩ := iv_mem hv
    have hf3 := hk3 _ _ hf2 hfa
    refine ⟨f, _, _, rfl, rfl, hf3, by rw [List.length_map]; exact Nat.lt_of_lt_of_le (by omega : R.length < 1000) (by decide), ?_⟩
    refine ⟨m - (R ++ [y]).length, by rw [List.length_append, List.length_singleton]; omega, R ++ [y], _, _, rfl, hc.snoc e1 e2 hy, by rw [List.length_append, List.length_singleton]; omega, rfl, ((hk1.trans (Same.kept hS2)).trans hk3).put nfH, hp3.put hfa, ?_⟩
    rw [upd_same, iv_app]
  · have c2 : ¬ (R.length : Int) < (m : Int) := of_decide_eq_false (Bool.eq_false_iff.mpr c1)
    exact ⟨_, rfl, q f R H1 hc (by omega) hk1 hp1 nfH hf1⟩
def sp_law_tour (_ : PySem.W.Frag) (_ : Addr) : Sp := fun vs H Q _ => ∃ a l N ts m, vs = [.ref a, .ref l, .int ((m : Nat) : Int)] ∧ PotAt H a ∧ l ≠ a ∧ TiesAt H l ts ∧ OkWeb N ts ∧ Goes N ts ∧ 0 < m ∧ m ≤ 100 ∧ (∀ H', Q .non H') ∧ ∀ f R H', Tour ts R → R.length ≤ m + 20 → Kept a H H' → PotAt H' a → H f = none → H' f = some (.lst (iv R)) → Q (.ref f) H'
theorem ok_law_tour (D : Def K mg "_law_tour" s_law_tour ["_law_pot_here", "_law_ties", "_law_many"]) (B : Bs mg) (Glb : Glo mg) (WK : WebK K mg C)
    (h_law_walk : Good P w K mg base "_law_walk" s_law_walk ["_law_pot_here", "_law_ties", "_law_many"] 3 (sp_law_walk K C))
    (h_law_pick : Good P w K mg base "_law_pick" s_law_pick ["_law_pot_here", "_law_some"] 2 (sp_law_pick K C)) :
    Good P w K mg base "_law_tour" s_law_tour ["_law_pot_here", "_law_ties", "_law_many"] 4 (sp_law_tour K C) := by
  refine D.good fun f fd F => ?_
  obtain ⟨f_law_walk, d_law_walk, O_law_walk, m_law_walk, k_law_walk, b_law_walk, F_law_walk⟩ := h_law_walk
  obtain ⟨f_law_pick, d_law_pick, O_law_pick, m_law_pick, k_law_pick, b_law_pick, F_law_pick⟩ := h_law_pick
  refine F.ok sc_law_tour (fun vs H Q E h => ?_) (fun cdv A outer s H vs Q E hr h => ?_)
  · obtain ⟨a, l, N, ts, m, rfl, hp, hla, hT, ho, hgo, hm0, hm, qn, q⟩ := h
    first | rfl | (rcases h with ⟨_, _, rfl, _⟩ | ⟨_, rfl, _⟩ <;> rfl)
  obtain ⟨a, l, N, ts, m, rfl, hp, hla, hT, ho, hgo, hm0, hm, qn, q⟩ := h
  refine ⟨_, (pss_cons (ps_set (i := 3) sc_law_tour.nd rfl (by first | exact Or.inl rfl | exact Or.inr rfl) (pe_call O_law_walk hr rfl m_law_walk k_law_walk b_law_walk .nil pass0 (pa_cons (pv 0) (pa_cons (pv 1) (pa_cons (pv 2) pa_nil)))))
  (pss_cons (ps_set (i := 4) sc_law_tour.nd rfl (by first | exact Or.inl rfl | exact Or.inr rfl) (pe_ix ix_tup (pe_ix ix_list (pv 1) (pe_ix ix_list (pv 3) pe_int (fun _ _ => rfl)) (fun _ _ => rfl)) pe_int (fun _ _ => rfl)))
  (pss_cons (ps_for PassesOwn.never rfl (pi_range1 (by rfl) B.range (pa_cons pe_int pa_nil)) (pg_name (i := 5) sc_law_tour.nd rfl (by first | exact Or.inl rfl | exact Or.inr rfl))
    (pss_cons (ps_set (i := 6) sc_law_tour.nd rfl (by first | exact Or.inl rfl | exact Or.inr rfl) (pe_ix ix_tup (pe_ix ix_list (pv 1) (pe_ix ix_list (pv 3) (pe_un un_neg pe_int) (fun _ _ => rfl)) (fun _ _ => rfl)) pe_int (fun _ _ => rfl)))
  (pss_cons (ps_if (pt_cmpR op_eq (pv 6) (pv 4) (nomark _))
    (pss_one (ps_ret (pv 3))) pss_nil)
  (pss_cons (ps_setLc (i := 7) (own := [("_law_number", 8), ("_law_tie", 9)]) (g := gTup K 2 (gCons (gName 8) (gCons (gName 9) gNil))) (by rfl) sc_law_tour.nd rfl rfl (sw_true rfl rfl rfl (by decide +kernel)) (pi_enum (by rfl) B.enumerate (pa_cons (pv 1) pa_nil)) (blkOk_by (own := [("_law_number", 8), ("_law_tie", 9)]) (N := ["_law_pot_here", "_law_ties", "_law_many", "_law_walk_here", "_law_goal", "_law_turn", "_law_here", "_law_some", "_law_number", "_law_tie"]) (sc := defScope s_law_tour) (by decide +kernel)) (fun _ _ _ _ _ => (pg_tup rfl (pgs_cons (pg_name (i := 8) sc_law_tour.nd rfl (by first | exact Or.inl rfl | exact Or.inr rfl)) (pgs_cons (pg_name (i := 9) sc_law_tour.nd rfl (by first | exact Or.inl rfl | exact Or.inr rfl)) pgs_nil)))) (fun _ _ _ _ _ => (pts_one (pt_cmpR op_eq (pe_ix (ix_tupK (K := K) rfl) (pv 9) pe_int (fun _ _ => rfl)) (pv 6) (nomark _)))) (fun _ _ _ _ _ => (pv 8)))
  (pss_one (ps_expr (pe_bm PySem.F.plainAttrs_list PySem.F.slot_list_append PySem.F.type_list_append mt_append (pv 3) (pa_cons (pe_call O_law_pick (hr.mono (by decide)) rfl m_law_pick k_law_pick b_law_pick .nil pass0 (pa_cons (pv 0) (pa_cons (pv 7) pa_nil))) pa_nil))))))))
  (pss_one (ps_ret pe_non))))), ?_⟩
  have htm := ho.m
  refine ⟨_, rfl, _, rfl, _, rfl, a, l, N, ts, m, rfl, hp, hla, hT, ho, hgo, hm0, hm, fun f R0 HF hc0 hR0 hkF hpF nfH hfF => ?_⟩
  have hfa : f ≠ a := hp.ne nfH
  obtain ⟨x0, e0, z1, z2⟩ := hc0.first
  obtain ⟨xs, p, k1, k2, k3⟩ := (hT.kept hkF hp hla).at_ z2
  refine ⟨_, rfl, _, rfl, _, _, _, .int (x0 : Int), rfl, rfl, SqL.of hfF, iv_at (j := 0) z1, _, _, _, .ref p, rfl, rfl, SqL.of k1, k2, _, _, _, .int (e0.1 : Int), rfl, rfl, SqT.of k3, rfl, ?_⟩
  refine ⟨_, rfl, by decide, by decide, ?_⟩
  refine for_range (lo := 0) (n := 20) (fun i σ H' => ∃ (R : List Nat) (v5 v6 v7 : Option V), σ = [some (.ref a), some (.ref l), some (.int (m : Int)), some (.ref f), some (.int (e0.1 : Int)), v5, v6, v7, none, none] ∧ Chain ts R ∧ R.length = m + i ∧ R[0]? = some x0 ∧ Kept a H H' ∧ PotAt H' a ∧ H' f = some (.lst (iv R))) ⟨R0, none, none, none, rfl, hc0, hR0, z1, hkF, hpF, hfF⟩ ?_ ?_
  · rintro i σ H1 hi ⟨R, v5, v6, v7, rfl, hc, hRl, hR0', hk1, hp1, hf1⟩
    have h0 := hc.n0
    obtain ⟨x, e, e1, e2⟩ := hc.last
    have hT1 := hT.kept hk1 hp hla
    obtain ⟨xs, p, k1, k2, k3⟩ := hT1.at_ e2
    refine ⟨_, rfl, _, rfl, _, rfl, _, _, _, .int (x : Int), rfl, rfl, SqL.of hf1, iv_back e1, _, _, _, .ref p, rfl, rfl, SqL.of k1, k2, _, _, _, .int (e.2 : Int), rfl, rfl, SqT.of k3, rfl, ?_⟩
    refine ⟨_, rfl, _, rfl, rfl, _, rfl, ?_⟩
    refine ite2 (fun c1 => ?_) (fun c1 => ?_)
    · have c2 : e.2 = e0.1 := by have := int_eq.mp (of_decide_eq_true c1); omega
      exact ⟨_, rfl, q f R H1 ⟨hc, by omega, ⟨x0, x, e0, e, hR0', e1, z2, e2, c2.symm⟩⟩ (by omega) hk1 hp1 nfH hf1⟩
    obtain ⟨tas, hl1, hP1⟩ := id hT1
    refine ⟨_, rfl, l, _, rfl, SqL.of hl1, fun D nD => ?_⟩
    refine lc_it (walk_enum (K := K) (a := l) (xs := tas.map V.ref)) (fun i H' => Same H1 H' ∧ H' D = some (.lst (iv (frmN ts e.2 i)))) ⟨same_new nD _, upd_same⟩ (fun i H' _ ⟨hS', _⟩ => SqL.of (hS' _ _ hl1)) ?_ ?_
    · rintro i x H2 H3 hi ⟨hS2, hD2⟩ ⟨T0, x1, x2, rfl, nT0, rfl, e1, e2⟩
      cases e1
      rw [List.length_map] at hi
      replace e2 : (tas.map V.ref)[i]? = some x2 := e2
      rw [List.getElem?_map, List.getElem?_eq_getElem hi] at e2
      cases e2
      obtain ⟨⟨u, v⟩, he', hpe⟩ := paired_get hP1 (List.getElem?_eq_getElem hi)
      have hil := (List.getElem?_eq_some_iff.mp he').1
      have hS3 := same_new nT0 (.tup [.int (i : Int), .ref tas[i]])
      have hT3 : upd H2 T0 (.tup [.int (i : Int), .ref tas[i]]) T0 = some (.tup [.int (i : Int), .ref tas[i]]) := upd_same
      generalize upd H2 T0 (.tup [.int (i : Int), .ref tas[i]]) = H3 at hS3 hT3
      have hp3 : H3 tas[i] = some (.tup [.int (u : Int), .int (v : Int)]) := hS3 _ _ (hS2 _ _ hpe)
      have hD3 := hS3 _ _ hD2
      have hlf := frmN_len ts e.2 i
      refine ⟨T0, _, rfl, SqT.of hT3, rfl, _, _, rfl, _, _, rfl, rfl, rfl, ?_⟩
      refine ⟨_, rfl, _, _, _, .int (u : Int), rfl, rfl, SqT.of hp3, rfl, _, rfl, rfl, _, rfl, ?_⟩
      by_cases c : u = e.2
      · have e3 : frmN ts e.2 (i + 1) = frmN ts e.2 i ++ [i] := if_pos (by rw [he', c]; rfl)
        refine iteYes (by rw [c]) ⟨_, rfl, _, hD3, ?_, same_upd (hS2.trans hS3) nD, ?_⟩
        · rw [List.length_map]
          exact Nat.lt_of_lt_of_le (by omega : (frmN ts e.2 i).length < 1000) (by decide)
        · rw [upd_same, e3, iv_app]
      · have e3 : frmN ts e.2 (i + 1) = frmN ts e.2 i := if_neg (by rw [he']; intro z; exact c (by simpa using z))
        refine iteNo (fun z => c (by have := int_eq.mp z; omega)) ⟨hS2.trans hS3, ?_⟩
        rw [e3]
        exact hD3
    rintro H2 ⟨hS2, hD2⟩
    rw [List.length_map, paired_len hP1] at hD2
    have hf2 := hS2 _ _ hf1
    have hgf := goes_frm hgo (ho.ok e (List.mem_of_getElem? e2)).2
    have hlf := frmN_len ts e.2 ts.length
    have hDa : D ≠ a := hp1.ne nD
    refine ⟨_, rfl, .inl ⟨rfl, _, SqL.of hf2⟩, _, rfl, _, rfl, a, D, _, rfl, hD2, hDa, by rw [List.length_map]; exact hgf, by rw [List.length_map]; omega, hp1.same hS2, fun v H3 hv hk3 hp3 => ?_⟩
    obtain ⟨y, hy, rfl⟩ := iv_mem hv
    have hf3 := hk3 _ _ hf2 hfa
    refine ⟨f, _, _, rfl, rfl, hf3, by rw [List.length_map]; exact Nat.lt_of_lt_of_le (by omega : R.length < 1000) (by decide), ?_⟩
    refine ⟨R ++ [y], _, _, _, rfl, hc.snoc e1 e2 hy, by rw [List.length_append, List.length_singleton]; omega, by rw [List.getElem?_append_left h0]; exact hR0', ((hk1.trans (Same.kept hS2)).trans hk3).put nfH, hp3.put hfa, ?_⟩
    rw [upd_same, iv_app]
  · rintro σ H1 ⟨R, v5, v6, v7, rfl, hc, hRl, hR0', hk1, hp1, hf1⟩
    exact qn H1
end
end My
namespace My
open PySem L2 PyProof.Rows
theorem ixN_lt {n d : Nat} (h : d < n) : ixN n (d : Int) = some d := by
  unfold ixN
  rw [if_pos (by omega), if_pos (by omega)]
  rfl
theorem cutV_both {xs : List V} {i j : Nat} (h : j ≤ xs.length) (hi : i ≤ j) : cutV xs (some (i : Int)) (some (j : Int)) = (xs.drop i).take (j - i) := by
  unfold cutV
  rw [HT.sIx_nat, HT.sIx_nat, Nat.min_eq_left h, Nat.min_eq_left (by omega)]
theorem inV_bl (bs : List Bool) : inV (.bl true) (bs.map V.bl) = bs.any id := by
  unfold inV
  rw [List.any_map]
  congr 1
  funext b
  cases b <;> rfl
theorem flat_bl (bs : List Bool) : (bs.map V.bl).all flatV = true := by
  rw [List.all_eq_true]
  intro x hx
  obtain ⟨b, _, rfl⟩ := List.mem_map.mp hx
  rfl
/-- what stands how far behind -/
structure BOk (R : List Nat) (near far : Nat) (i : Nat) (bs : List Bool) : Prop where
  n : bs.length = 61
  ok : ∀ b, bs[b]? = some true ↔ 1 ≤ b ∧ b ≤ 60 ∧ ∃ p, p < i ∧ rat R p = near ∧ rat R (p + b) = far
structure BIn (R : List Nat) (near far : Nat) (i j : Nat) (bs : List Bool) : Prop where
  n : bs.length = 61
  ok : ∀ b, bs[b]? = some true ↔ 1 ≤ b ∧ b ≤ 60 ∧ ((∃ p, p < i ∧ rat R p = near ∧ rat R (p + b) = far) ∨ (b ≤ j ∧ rat R (i + b) = far))
theorem bok_zero (R : List Nat) (near far : Nat) : BOk R near far 0 (List.replicate 61 false) := by
  refine ⟨List.length_replicate, fun b => ?_⟩
  constructor
  · intro h
    have := List.mem_of_getElem? h
    rw [List.mem_replicate] at this
    cases this.2
  · rintro ⟨_, _, p, h, _⟩
    omega
theorem bok_no {R : List Nat} {near far i : Nat} {bs : List Bool} (h : BOk R near far i bs) (c : ¬ rat R i = near) : BOk R near far (i + 1) bs := by
  refine ⟨h.n, fun b => ?_⟩
  rw [h.ok b]
  constructor
  · rintro ⟨h1, h2, p, h3, h4⟩
    exact ⟨h1, h2, p, by omega, h4⟩
  · rintro ⟨h1, h2, p, h3, h4⟩
    refine ⟨h1, h2, p, ?_, h4⟩
    by_cases z : p = i
    · subst z; exact absurd h4.1 c
    · omega
theorem bin_start {R : List Nat} {near far i : Nat} {bs : List Bool} (h : BOk R near far i bs) : BIn R near far i 0 bs := by
  refine ⟨h.n, fun b => ?_⟩
  rw [h.ok b]
  constructor
  · rintro ⟨h1, h2, h3⟩
    exact ⟨h1, h2, .inl h3⟩
  · rintro ⟨h1, h2, h3 | h3⟩
    · exact ⟨h1, h2, h3⟩
    · omega
theorem bin_end {R : List Nat} {near far i : Nat} {bs : List Bool} (h : BIn R near far i 60 bs) (c : rat R i = near) : BOk R near far (i + 1) bs := by
  refine ⟨h.n, fun b => ?_⟩
  rw [h.ok b]
  constructor
  · rintro ⟨h1, h2, ⟨p, h3, h4⟩ | h3⟩
    · exact ⟨h1, h2, p, by omega, h4⟩
    · exact ⟨h1, h2, i, by omega, c, h3.2⟩
  · rintro ⟨h1, h2, p, h3, h4⟩
    refine ⟨h1, h2, ?_⟩
    by_cases z : p = i
    · subst z; exact .inr ⟨h2, h4.2⟩
    · exact .inl ⟨p, by omega, h4⟩
theorem bin_yes {R : List Nat} {near far i j : Nat} {bs : List Bool} (h : BIn R near far i j bs) (hj : j < 60) (c : rat R (i + (j + 1)) = far) : BIn R near far i (j + 1) (bs.set (j + 1) true) := by
  refine ⟨by rw [List.length_set]; exact h.n, fun b => ?_⟩
  have hn := h.n
  by_cases z : j + 1 = b
  · subst z
    rw [List.getElem?_set_self (by omega)]
    exact ⟨fun _ => ⟨by omega, by omega, .inr ⟨by omega, c⟩⟩, fun _ => rfl⟩
  · rw [List.getElem?_set_ne z, h.ok b]
    constructor
    · rintro ⟨h1, h2, h3 | h3⟩
      · exact ⟨h1, h2, .inl h3⟩
      · exact ⟨h1, h2, .inr ⟨by omega, h3.2⟩⟩
    · rintro ⟨h1, h2, h3 | h3⟩
      · exact ⟨h1, h2, .inl h3⟩
      · exact ⟨h1, h2, .inr ⟨by omega, h3.2⟩⟩
theorem bin_no {R : List Nat} {near far i j : Nat} {bs : List Bool} (h : BIn R near far i j bs) (c : ¬ rat R (i + (j + 1)) = far) : BIn R near far i (j + 1) bs := by
  refine ⟨h.n, fun b => ?_⟩
  rw [h.ok b]
  constructor
  · rintro ⟨h1, h2, h3 | h3⟩
    · exact ⟨h1, h2, .inl h3⟩
    · exact ⟨h1, h2, .inr ⟨by omega, h3.2⟩⟩
  · rintro ⟨h1, h2, h3 | h3⟩
    · exact ⟨h1, h2, .inl h3⟩
    · refine ⟨h1, h2, ?_⟩
      by_cases z : b = j + 1
      · subst z; exact absurd h3.2 c
      · exact .inr ⟨by omega, h3.2⟩
theorem bok_keeps {R : List Nat} {m : Mate} {bs : List Bool} (h0 : 0 < R.length) (h : BOk R m.near m.far R.length bs) (hl : 1 ≤ m.least) (hlm : m.least ≤ m.most) (h60 : m.most ≤ 60) : ((bs.drop m.least).take (m.most + 1 - m.least)).any id = keepsB R m := by
  rw [Bool.eq_iff_iff, keepsB_iff, keeps_low h0, List.any_eq_true]
  constructor
  · rintro ⟨b, hb, e⟩
    have e : b = true := e
    subst e
    obtain ⟨k, hk⟩ := List.getElem?_of_mem hb
    have hk1 := (List.getElem?_eq_some_iff.mp hk).1
    rw [List.length_take] at hk1
    rw [List.getElem?_take_of_lt (by omega), List.getElem?_drop] at hk
    obtain ⟨a1, a2, p, a3, a4, a5⟩ := (h.ok _).mp hk
    exact ⟨p, m.least + k, a3, by omega, by omega, a4, a5⟩
  · rintro ⟨p, d, a1, a2, a3, a4, a5⟩
    have := (h.ok d).mpr ⟨by omega, by omega, p, a1, a4, a5⟩
    refine ⟨true, ?_, rfl⟩
    refine List.mem_of_getElem? (i := d - m.least) ?_
    rw [List.getElem?_take_of_lt (by omega), List.getElem?_drop, show m.least + (d - m.least) = d by omega]
    exact this
section
variable {P : Program} {w : World} {K : PySem.W.Frag} {mg : Str → Option Value} {base : Heap} {C : Addr}
def sp_law_behind (_ : PySem.W.Frag) (_ : Addr) : Sp := fun vs H Q _ => ∃ s R near far, vs = [.ref s, .int ((near : Nat) : Int), .int ((far : Nat) : Int)] ∧ H s = some (.lst (iv R)) ∧ 0 < R.length ∧ R.length ≤ 1000 ∧ ∀ H' F bs, H F = none → Same H H' → H' F = some (.lst (bs.map V.bl)) → BOk R near far R.length bs → Q (.ref F) H'
theorem ok_law_behind (D : Def K mg "_law_behind" s_law_behind ["_law_tour_here", "_law_near", "_law_far"]) (B : Bs mg) (Glb : Glo mg) (WK : WebK K mg C) :
    Good P w K mg base "_law_behind" s_law_behind ["_law_tour_here", "_law_near", "_law_far"] 1 (sp_law_behind K C) := by
  refine D.good fun f fd F => ?_
  refine F.ok sc_law_behind (fun vs H Q E h => ?_) (fun cdv A outer s H vs Q E hr h => ?_)
  · obtain ⟨s, R, near, far, rfl, hs, h0, h1, q⟩ := h
    first | rfl | (rcases h with ⟨_, _, rfl, _⟩ | ⟨_, rfl, _⟩ <;> rfl)
  obtain ⟨s, R, near, far, rfl, hs, h0, h1, q⟩ := h
  refine ⟨_, (pss_cons (ps_set (i := 3) sc_law_behind.nd rfl (by first | exact Or.inl rfl | exact Or.inr rfl) (pe_op op_rep (pe_lst (pa_cons pe_bl pa_nil)) pe_int))
  (pss_cons (ps_for PassesOwn.never rfl (pi_range1 (by rfl) B.range (pa_cons (pe_callB call_len_seq (by rfl) B.len (by decide +kernel) (pa_cons (pv 0) pa_nil)) pa_nil)) (pg_name (i := 4) sc_law_behind.nd rfl (by first | exact Or.inl rfl | exact Or.inr rfl))
    (pss_one (ps_if (pt_cmpR op_eq (pe_ix ix_list (pv 0) (pv 4) (fun _ _ => rfl)) (pv 1) (nomark _))
    (pss_one (ps_for PassesOwn.never rfl (pi_range2 (by rfl) B.range (pa_cons pe_int (pa_cons pe_int pa_nil))) (pg_name (i := 5) sc_law_behind.nd rfl (by first | exact Or.inl rfl | exact Or.inr rfl))
    (pss_one (ps_if (pt_cmpR op_eq (pe_ix ix_list (pv 0) (pe_op op_mod (pe_callTy call_int1 (by rfl) B.int (by decide +kernel) (pa_cons (pe_op op_add (pv 4) (pv 5)) pa_nil)) (pe_callB call_len_seq (by rfl) B.len (by decide +kernel) (pa_cons (pv 0) pa_nil))) (fun _ _ => rfl)) (pv 2) (nomark _))
    (pss_one (ps_asg pe_bl (pg_sub (pv 3) (pv 5) set_list))) pss_nil)))) pss_nil)))
  (pss_one (ps_ret (pv 3))))), ?_⟩
  refine ⟨(by show 1 ≤ sizeLine; decide), fun z nz => ⟨z, 61, _, rfl, rfl, upd_same, by decide, by decide, (by show 1 * 61 ≤ sizeLine; decide), fun F nF => ?_⟩⟩
  have nFH : H F = none := (same_new nz (.lst [.bl false])).free nF
  have hSz := same_new nz (.lst [.bl false])
  generalize upd H z (.lst [.bl false]) = Hz at nF hSz
  have hsF : ∀ o, upd Hz F o s = some (.lst (iv R)) := fun o => by rw [upd_ne (ne_of_none (hSz _ _ hs) nF)]; exact hSz _ _ hs
  refine ⟨_, rfl, s, _, rfl, .inl (SqL.of (hsF _)), _, rfl, by rw [List.length_map]; omega, by rw [List.length_map]; omega, ?_⟩
  rw [List.length_map, show ((R.length : Nat) : Int).toNat = R.length by omega]
  refine for_range (lo := 0) (n := R.length) (fun i σ H' => ∃ (bs : List Bool) (v4 v5 : Option V), σ = [some (.ref s), some (.int (near : Int)), some (.int (far : Int)), some (.ref F), v4, v5] ∧ H' = upd Hz F (.lst (bs.map V.bl)) ∧ BOk R near far i bs) ⟨List.replicate 61 false, none, none, rfl, rfl, bok_zero _ _ _⟩ ?_ ?_
  · rintro i σ H1 hi ⟨bs, v4, v5, rfl, rfl, hb⟩
    rw [Int.zero_add]
    refine ⟨_, rfl, _, rfl, _, _, _, .int ((rat R i : Nat) : Int), rfl, rfl, SqL.of (hsF _), iv_at (rat_lt hi), _, rfl, rfl, _, rfl, ?_⟩
    refine ite2 (fun c => ?_) (fun c => ?_)
    · have c1 : rat R i = near := by have := int_eq.mp (of_decide_eq_true c); omega
      refine ⟨_, _, rfl, ⟨by decide, by decide, by decide, by decide⟩, ?_⟩
      rw [show ((61 : Int) - 1).toNat = 60 from rfl]
      refine for_range (lo := 1) (n := 60) (fun j σ H' => ∃ (bs : List Bool) (v5 : Option V), σ = [some (.ref s), some (.int (near : Int)), some (.int (far : Int)), some (.ref F), some (.int (i : Int)), v5] ∧ H' = upd Hz F (.lst (bs.map V.bl)) ∧ BIn R near far i j bs) ⟨bs, v5, rfl, rfl, bin_start hb⟩ ?_ ?_
      · rintro j σ H2 hj ⟨bs, v5, rfl, rfl, hb⟩
        rw [show (1 : Int) + (j : Int) = ((j + 1 : Nat) : Int) by omega]
        refine ⟨_, rfl, _, rfl, _, rfl, _, _, rfl, rfl, .inl ⟨_, rfl, _, rfl, s, _, rfl, .inl (SqL.of (hsF _)), _, _, rfl, rfl, by rw [List.length_map]; omega, _, _, _, .int ((rat R (i + (j + 1)) : Nat) : Int), rfl, rfl, SqL.of (hsF _), ?_, _, rfl, rfl, _, rfl, ?_⟩⟩
        · rw [List.length_map]
          rw [show ((i : Int) + ((j + 1 : Nat) : Int)) % ((R.length : Nat) : Int) = (((i + (j + 1)) % R.length : Nat) : Int) by rfl]
          exact iv_at (rat_at h0)
        refine ite2 (fun c => ?_) (fun c => ?_)
        · have c2 : rat R (i + (j + 1)) = far := by have := int_eq.mp (of_decide_eq_true c); omega
          refine ⟨_, rfl, _, rfl, F, _, _, j + 1, rfl, rfl, upd_same, ixN_lt (by rw [List.length_map, hb.n]; omega), bs.set (j + 1) true, _, rfl, ?_, bin_yes hb hj c2⟩
          rw [upd_upd]
          congr 2
          exact (List.map_set ..).symm
        · have c2 : ¬ rat R (i + (j + 1)) = far := fun z => by rw [z] at c; simp at c
          exact ⟨bs, _, rfl, rfl, bin_no hb c2⟩
      · rintro σ H2 ⟨bs, v5, rfl, rfl, hb⟩
        exact ⟨bs, _, _, rfl, rfl, bin_end hb c1⟩
    · have c1 : ¬ rat R i = near := fun z => by rw [z] at c; simp at c
      exact ⟨bs, _, _, rfl, rfl, bok_no hb c1⟩
  · rintro σ H1 ⟨bs, v4, v5, rfl, rfl, hb⟩
    exact ⟨_, rfl, q _ F bs nFH (hSz.trans (same_new nF _)) upd_same hb⟩
def sp_law_is_kept (_ : PySem.W.Frag) (_ : Addr) : Sp := fun vs H Q _ => ∃ s R p m, vs = [.ref s, .ref p] ∧ H s = some (.lst (iv R)) ∧ 0 < R.length ∧ R.length ≤ 1000 ∧ MAt H p m ∧ 1 ≤ m.least ∧ m.least ≤ m.most ∧ m.most ≤ 60 ∧ ∀ H', Same H H' → Q (.bl (keepsB R m)) H'
theorem ok_law_is_kept (D : Def K mg "_law_is_kept" s_law_is_kept ["_law_tour_here", "_law_mate_here"]) (B : Bs mg) (Glb : Glo mg) (WK : WebK K mg C)
    (h_law_behind : Good P w K mg base "_law_behind" s_law_behind ["_law_tour_here", "_law_near", "_law_far"] 1 (sp_law_behind K C)) :
    Good P w K mg base "_law_is_kept" s_law_is_kept ["_law_tour_here", "_law_mate_here"] 2 (sp_law_is_kept K C) := by
  refine D.good fun f fd F => ?_
  obtain ⟨f_law_behind, d_law_behind, O_law_behind, m_law_behind, k_law_behind, b_law_behind, F_law_behind⟩ := h_law_behind
  refine F.ok sc_law_is_kept (fun vs H Q E h => ?_) (fun cdv A outer s H vs Q E hr h => ?_)
  · obtain ⟨s, R, p, m, rfl, hs, h0, h1, hm, hl, hlm, h60, q⟩ := h
    first | rfl | (rcases h with ⟨_, _, rfl, _⟩ | ⟨_, rfl, _⟩ <;> rfl)
  obtain ⟨s, R, p, m, rfl, hs, h0, h1, hm, hl, hlm, h60, q⟩ := h
  refine ⟨_, (pss_cons (ps_asg (pv 1) (pg_tup rfl (pgs_cons (pg_name (i := 2) sc_law_is_kept.nd rfl (by first | exact Or.inl rfl | exact Or.inr rfl)) (pgs_cons (pg_name (i := 3) sc_law_is_kept.nd rfl (by first | exact Or.inl rfl | exact Or.inr rfl)) (pgs_cons (pg_name (i := 4) sc_law_is_kept.nd rfl (by first | exact Or.inl rfl | exact Or.inr rfl)) (pgs_cons (pg_name (i := 5) sc_law_is_kept.nd rfl (by first | exact Or.inl rfl | exact Or.inr rfl)) pgs_nil))))))
  (pss_one (ps_ret (pe_cmpR op_in_seq pe_bl (pe_slice sl_list (pe_call O_law_behind hr rfl m_law_behind k_law_behind b_law_behind .nil pass0 (pa_cons (pv 0) (pa_cons (pv 2) (pa_cons (pv 3) pa_nil)))) (po_some (pv 4)) (po_some (pe_op op_add (pv 5) pe_int))) (by rfl))))), ?_⟩
  refine ⟨_, rfl, p, _, rfl, SqT.of hm, rfl, _, _, rfl, _, _, rfl, _, _, rfl, _, _, rfl, rfl, ?_⟩
  refine ⟨_, rfl, _, rfl, _, rfl, s, R, m.near, m.far, rfl, hs, h0, h1, fun H1 F bs nF hS1 hF hb => ?_⟩
  refine ⟨_, rfl, _, rfl, _, rfl, _, _, rfl, rfl, _, rfl, F, _, rfl, SqL.of hF, fun g ng => ?_⟩
  rw [show (m.most : Int) + 1 = ((m.most + 1 : Nat) : Int) by omega, cutV_both (by rw [List.length_map, hb.n]; omega) (by omega), ← List.map_drop, ← List.map_take] at *
  refine ⟨g, _, rfl, .inl (SqL.of upd_same), rfl, flat_bl _, ?_⟩
  show Q (.bl (inV _ _)) _
  rw [inV_bl, bok_keeps h0 hb hl hlm h60]
  exact q _ (hS1.trans (same_new ng _))
def sp_law_mate (_ : PySem.W.Frag) (_ : Addr) : Sp := fun vs H Q _ => ∃ a M, vs = [.ref a, .int ((M : Nat) : Int)] ∧ PotAt H a ∧ 0 < M ∧ M ≤ 100 ∧ ∀ t m H', Kept a H H' → PotAt H' a → MAt H' t m → OkMate M m → Q (.ref t) H'
theorem ok_law_mate (D : Def K mg "_law_mate" s_law_mate ["_law_pot_here", "_law_many"]) (B : Bs mg) (Glb : Glo mg) (WK : WebK K mg C)
    (h_law_pick : Good P w K mg base "_law_pick" s_law_pick ["_law_pot_here", "_law_some"] 2 (sp_law_pick K C))
    (h_law_draw : Good P w K mg base "_law_draw" s_law_draw ["_law_pot_here", "_law_size"] 1 (sp_law_draw K C)) :
    Good P w K mg base "_law_mate" s_law_mate ["_law_pot_here", "_law_many"] 3 (sp_law_mate K C) := by
  refine D.good fun f fd F => ?_
  obtain ⟨f_law_pick, d_law_pick, O_law_pick, m_law_pick, k_law_pick, b_law_pick, F_law_pick⟩ := h_law_pick
  obtain ⟨f_law_draw, d_law_draw, O_law_draw, m_law_draw, k_law_draw, b_law_draw, F_law_draw⟩ := h_law_draw
  refine F.ok sc_law_mate (fun vs H Q E h => ?_) (fun cdv A outer s H vs Q E hr h => ?_)
  · obtain ⟨a, M, rfl, hp, hM, hM1, q⟩ := h
    first | rfl | (rcases h with ⟨_, _, rfl, _⟩ | ⟨_, rfl, _⟩ <;> rfl)
  obtain ⟨a, M, rfl, hp, hM, hM1, q⟩ := h
  refine ⟨_, (pss_cons (ps_par (i := 2) (j := 3) (by rfl) sc_law_mate.nd rfl rfl (by decide) rfl rfl (pa_cons (pe_call O_law_draw (hr.mono (by decide)) rfl m_law_draw k_law_draw b_law_draw .nil pass0 (pa_cons (pv 0) (pa_cons (pv 1) pa_nil))) (pa_cons (pe_call O_law_draw (hr.mono (by decide)) rfl m_law_draw k_law_draw b_law_draw .nil pass0 (pa_cons (pv 0) (pa_cons (pv 1) pa_nil))) pa_nil)) (by rfl))
  (pss_cons (ps_if (pt_cmpR op_eq (pe_call O_law_draw (hr.mono (by decide)) rfl m_law_draw k_law_draw b_law_draw .nil pass0 (pa_cons (pv 0) (pa_cons pe_int pa_nil))) pe_int (nomark _))
    (pss_one (ps_set (i := 3) sc_law_mate.nd rfl (by first | exact Or.inl rfl | exact Or.inr rfl) (pv 2))) pss_nil)
  (pss_cons (ps_set (i := 4) sc_law_mate.nd rfl (by first | exact Or.inl rfl | exact Or.inr rfl) (pe_call O_law_pick hr rfl m_law_pick k_law_pick b_law_pick .nil pass0 (pa_cons (pv 0) (pa_cons (pe_lst (pa_cons pe_int (pa_cons pe_int (pa_cons pe_int (pa_cons pe_int (pa_cons pe_int (pa_cons pe_int (pa_cons pe_int (pa_cons pe_int pa_nil))))))))) pa_nil))))
  (pss_one (ps_ret (pe_tup (pa_cons (pv 2) (pa_cons (pv 3) (pa_cons (pv 4) (pa_cons (pe_callB (call_min2 rfl) (by rfl) B.min (by decide +kernel) (pa_cons pe_int (pa_cons (pe_op op_add (pv 4) (pe_call O_law_pick hr rfl m_law_pick k_law_pick b_law_pick .nil pass0 (pa_cons (pv 0) (pa_cons (pe_lst (pa_cons pe_int (pa_cons pe_int (pa_cons pe_int (pa_cons pe_int (pa_cons pe_int pa_nil)))))) pa_nil)))) pa_nil))) pa_nil)))))))))), ?_⟩
  refine ⟨_, rfl, _, rfl, a, M, rfl, hp, hM, by omega, fun u H1 hu hk1 hp1 => ⟨_, rfl, _, rfl, a, M, rfl, hp1, hM, by omega, fun v0 H2 hv0 hk2 hp2 => ⟨_, _, rfl, ?_⟩⟩⟩
  refine ⟨_, rfl, a, 3, rfl, hp2, by decide, by decide, fun z H3 hz hk3 hp3 => ⟨rfl, _, rfl, ?_⟩⟩
  have hk03 := (hk1.trans hk2).trans hk3
  refine ite2 (fun c => ?pos) (fun c => ?neg)
  case' pos =>
    refine ⟨_, rfl, ?_⟩
    obtain ⟨v, hv, ev⟩ : ∃ v : Nat, v < M ∧ v = u := ⟨u, hu, rfl⟩
  case' neg =>
    obtain ⟨v, hv, ev⟩ : ∃ v : Nat, v < M ∧ v = v0 := ⟨v0, hv0, rfl⟩
  all_goals
    refine ⟨_, rfl, (by show 8 ≤ sizeLine; decide), fun L nL => ⟨a, L, _, rfl, upd_same, hp3.ne nL, by simp, by simp, hp3.new nL, fun x H4 hx hk4 hp4 => ?_⟩⟩
    obtain ⟨k, rfl, hk1', hk2'⟩ : ∃ k : Nat, x = .int (k : Int) ∧ 1 ≤ k ∧ k ≤ 60 := by
      simp only [List.mem_cons, List.not_mem_nil, or_false] at hx
      rcases hx with rfl | rfl | rfl | rfl | rfl | rfl | rfl | rfl
      · exact ⟨1, rfl, by decide, by decide⟩
      · exact ⟨2, rfl, by decide, by decide⟩
      · exact ⟨3, rfl, by decide, by decide⟩
      · exact ⟨5, rfl, by decide, by decide⟩
      · exact ⟨9, rfl, by decide, by decide⟩
      · exact ⟨20, rfl, by decide, by decide⟩
      · exact ⟨59, rfl, by decide, by decide⟩
      · exact ⟨60, rfl, by decide, by decide⟩
    refine ⟨_, rfl, _, rfl, _, rfl, _, rfl, _, rfl, (by show 5 ≤ sizeLine; decide), fun L2 nL2 => ⟨a, L2, _, rfl, upd_same, hp4.ne nL2, by simp, by simp, hp4.new nL2, fun y H5 hy hk5 hp5 => ?_⟩⟩
    obtain ⟨j, rfl⟩ : ∃ j : Nat, y = .int (j : Int) := by
      simp only [List.mem_cons, List.not_mem_nil, or_false] at hy
      rcases hy with rfl | rfl | rfl | rfl | rfl
      · exact ⟨0, rfl⟩
      · exact ⟨0, rfl⟩
      · exact ⟨1, rfl⟩
      · exact ⟨4, rfl⟩
      · exact ⟨40, rfl⟩
    refine ⟨_, _, rfl, rfl, _, _, rfl, (by show 4 ≤ sizeLine; decide), fun t nt => ?_⟩
    have em : (if (k : Int) + (j : Int) < 60 then (k : Int) + (j : Int) else 60) = ((min 60 (k + j) : Nat) : Int) := by split <;> omega
    refine q t ⟨u, v, k, min 60 (k + j)⟩ _ ?_ (hp5.new nt) ?_ ⟨hu, hv, hk1', by show k ≤ min 60 (k + j); omega, by show min 60 (k + j) ≤ 60; omega⟩
    · exact (((hk03.new nL).trans hk4).new nL2 |>.trans hk5).new nt
    · show upd _ _ _ t = _
      rw [upd_same]
      subst ev
      show some (HO.tup [_, _, _, V.int (if (k : Int) + (j : Int) < 60 then (k : Int) + (j : Int) else 60)]) = _
      rw [em]
end
end My
namespace My
open PySem L2 PyProof.Rows
theorem inV_iv (n : Nat) (W : List Nat) : inV (.int (n : Int)) (iv W) = decide (n ∈ W) := by
  unfold inV iv
  induction W with
  | nil => rfl
  | cons a r ih =>
    rw [List.map_cons, List.any_cons, ih]
    by_cases h : a = n
    · subst h
      have e : eqV (V.int (a : Int)) (V.int (a : Int)) = true := by
        show ((a : Int) == (a : Int)) = true
        simp
      rw [e]
      simp
    · have e : eqV (V.int (a : Int)) (V.int (n : Int)) = false := by
        show ((a : Int) == (n : Int)) = false
        simp
        omega
      rw [e]
      have h2 : ¬ n = a := fun z => h z.symm
      simp [h2]
theorem flat_iv (W : List Nat) : (iv W).all flatV = true := by
  rw [List.all_eq_true]
  intro x hx
  obtain ⟨n, _, rfl⟩ := List.mem_map.mp hx
  rfl
/-! ### rounds turned, rounds read twice -/
theorem Tour.all {ts : List (Nat × Nat)} {R : List Nat} (h : Tour ts R) (j : Nat) : ∃ e f, ts[rat R j]? = some e ∧ ts[rat R (j + 1)]? = some f ∧ f.1 = e.2 := by
  have h0 := h.ch.n0
  have hj := Nat.mod_lt j h0
  by_cases c : j % R.length + 1 < R.length
  · obtain ⟨x, y, e, f, e1, e2, e3, e4, e5⟩ := h.ch.on _ c
    refine ⟨e, f, ?_, ?_, e5⟩
    · rw [rat_at h0] at e1
      rw [Option.some.inj e1]
      exact e3
    · have z : (j + 1) % R.length = j % R.length + 1 := by
        rw [← Nat.mod_add_mod]
        exact Nat.mod_eq_of_lt c
      rw [← z, rat_at h0] at e2
      rw [Option.some.inj e2]
      exact e4
  · obtain ⟨x, y, e, f, e1, e2, e3, e4, e5⟩ := h.back
    have z1 : j % R.length = R.length - 1 := by omega
    refine ⟨f, e, ?_, ?_, e5⟩
    · rw [← z1, rat_at h0] at e2
      rw [Option.some.inj e2]
      exact e4
    · have z : (j + 1) % R.length = 0 := by
        rw [← Nat.mod_add_mod, z1, show R.length - 1 + 1 = R.length by omega]
        exact Nat.mod_self _
      rw [← z, rat_at h0] at e1
      rw [Option.some.inj e1]
      exact e3
theorem Tour.of {ts : List (Nat × Nat)} {R : List Nat} (h0 : 0 < R.length) (h1 : R.length ≤ 1000) (h : ∀ j, ∃ e f, ts[rat R j]? = some e ∧ ts[rat R (j + 1)]? = some f ∧ f.1 = e.2) : Tour ts R := by
  refine ⟨⟨h0, fun x hx => ?_, fun i hi => ?_⟩, h1, ?_⟩
  · obtain ⟨i, hi⟩ := List.getElem?_of_mem hx
    have hl := (List.getElem?_eq_some_iff.mp hi).1
    rw [rat_lt hl] at hi
    obtain ⟨e, f, e1, _⟩ := h i
    rw [Option.some.inj hi] at e1
    exact (List.getElem?_eq_some_iff.mp e1).1
  · obtain ⟨e, f, e1, e2, e3⟩ := h i
    exact ⟨_, _, e, f, rat_lt (by omega), rat_lt hi, e1, e2, e3⟩
  · obtain ⟨e, f, e1, e2, e3⟩ := h (R.length - 1)
    have z : rat R (R.length - 1 + 1) = rat R 0 := by
      rw [rat, rat, show R.length - 1 + 1 = R.length by omega, Nat.mod_self, Nat.zero_mod]
    rw [z] at e2
    exact ⟨_, _, f, e, rat_lt h0, rat_lt (by omega), e2, e1, e3⟩
theorem rat_turn {R : List Nat} {k : Nat} (h : k < R.length) (j : Nat) : rat (R.drop k ++ R.take k) j = rat R (k + j) := by
  have hl : (R.drop k ++ R.take k).length = R.length := by rw [List.length_append, List.length_drop, List.length_take]; omega
  have h0 : j % R.length < R.length := Nat.mod_lt _ (by omega)
  have e := rd_get R k R.length (j % R.length) h0
  rw [rd_turn R k h] at e
  rw [rat, hl, List.getD_eq_getElem?_getD, e, Nat.add_mod_mod]
  rfl
theorem rat_two (R : List Nat) (j : Nat) : rat (R ++ R) j = rat R j := by
  rcases Nat.eq_zero_or_pos R.length with z | h0
  · rw [List.eq_nil_of_length_eq_zero z]
    rfl
  have hl : (R ++ R).length = R.length + R.length := List.length_append
  have h2 : j % (R.length + R.length) < R.length + R.length := Nat.mod_lt _ (by omega)
  have e : j % (R.length + R.length) % R.length = j % R.length := Nat.mod_mod_of_dvd _ ⟨2, by omega⟩
  rw [rat, rat, hl, ← e]
  generalize j % (R.length + R.length) = i at h2
  rw [List.getD_eq_getElem?_getD, List.getD_eq_getElem?_getD]
  by_cases c : i < R.length
  · rw [List.getElem?_append_left c, Nat.mod_eq_of_lt c]
  · rw [List.getElem?_append_right (by omega), Nat.mod_eq_sub_mod (by omega), Nat.mod_eq_of_lt (by omega)]
theorem rat_per {R : List Nat} (j : Nat) : rat R (j + R.length) = rat R j := by rw [rat, rat, Nat.add_mod_right]
theorem Tour.turn {ts : List (Nat × Nat)} {R : List Nat} {k : Nat} (h : Tour ts R) (hk : k < R.length) : Tour ts (R.drop k ++ R.take k) := by
  have hl : (R.drop k ++ R.take k).length = R.length := by rw [List.length_append, List.length_drop, List.length_take]; omega
  refine Tour.of (by rw [hl]; exact h.ch.n0) (by rw [hl]; exact h.n1) fun j => ?_
  rw [rat_turn hk, rat_turn hk]
  exact h.all (k + j)
theorem Tour.two {ts : List (Nat × Nat)} {R : List Nat} (h : Tour ts R) (hk : R.length ≤ 500) : Tour ts (R ++ R) := by
  have h0 := h.ch.n0
  refine Tour.of (by rw [List.length_append]; omega) (by rw [List.length_append]; omega) fun j => ?_
  rw [rat_two, rat_two]
  exact h.all j
theorem keeps_turn {R : List Nat} {k : Nat} (h : k < R.length) (m : Mate) : keepsB (R.drop k ++ R.take k) m = keepsB R m := by
  rw [Bool.eq_iff_iff, keepsB_iff, keepsB_iff]
  constructor
  · rintro ⟨p, d, h1, h2, h3, h4⟩
    rw [rat_turn h] at h3 h4
    exact ⟨k + p, d, h1, h2, h3, by rw [Nat.add_assoc]; exact h4⟩
  · rintro ⟨p, d, h1, h2, h3, h4⟩
    refine ⟨p + (R.length - k), d, h1, h2, ?_, ?_⟩
    · rw [rat_turn h, show k + (p + (R.length - k)) = p + R.length by omega, rat_per]
      exact h3
    · rw [rat_turn h, show k + (p + (R.length - k) + d) = p + d + R.length by omega, rat_per]
      exact h4
theorem keeps_two (R : List Nat) (m : Mate) : keepsB (R ++ R) m = keepsB R m := by
  rw [Bool.eq_iff_iff, keepsB_iff, keepsB_iff]
  unfold Keeps
  simp only [rat_two]
theorem brk_congr {R S : List Nat} (h : ∀ m, keepsB S m = keepsB R m) (ms : List Mate) : brk S ms = brk R ms := by
  have : ∀ i, brkN S ms i = brkN R ms i := fun i => by
    induction i with
    | zero => rfl
    | succ i ih =>
      unfold brkN
      rw [ih]
      split
      · rw [h]
      · rfl
  exact this _
theorem brk_app (R : List Nat) (ms : List Mate) : brk R (ms ++ ms) = brk R ms ++ (brk R ms).map fun x => ms.length + x := by
  have lo : ∀ i, i ≤ ms.length → brkN R (ms ++ ms) i = brkN R ms i := fun i => by
    induction i with
    | zero => intro _; rfl
    | succ i ih =>
      intro hi
      unfold brkN
      rw [ih (by omega), List.getElem?_append_left (by omega)]
  have hi : ∀ i, i ≤ ms.length → brkN R (ms ++ ms) (ms.length + i) = brkN R ms ms.length ++ (brkN R ms i).map fun x => ms.length + x := fun i => by
    induction i with
    | zero => intro _; rw [Nat.add_zero, lo _ (Nat.le_refl _)]; simp [brkN]
    | succ i ih =>
      intro h
      have e : ms[i]? = some (ms[i]'(by omega)) := List.getElem?_eq_getElem _
      have e2 : (ms ++ ms)[ms.length + i]? = some (ms[i]'(by omega)) := by rw [List.getElem?_append_right (by omega), show ms.length + i - ms.length = i by omega]; exact e
      by_cases k : keepsB R (ms[i]'(by omega)) = true
      · rw [show ms.length + (i + 1) = ms.length + i + 1 by omega, brkN_yes e2 k, brkN_yes e k]
        exact ih (by omega)
      · rw [show ms.length + (i + 1) = ms.length + i + 1 by omega, brkN_no e2 k, brkN_no e k, ih (by omega), List.map_append, List.append_assoc]
        rfl
  have := hi ms.length (Nat.le_refl _)
  rw [brk, List.length_append]
  exact this
end My
namespace My
open PySem L2 PyProof.Rows
/-- all keywords, turned about -/
def gR {α : Type} : List α → List α → List α | [], ws => ws.reverse | _ :: _, _ => []
theorem gR_inv3 {α : Type} {us ws : List α} (h : (gR us ws).length = 3) : us = [] ∧ ∃ a b c, ws = [a, b, c] := by
  match us, ws, h with
  | [], [a, b, c], _ => exact ⟨rfl, a, b, c, rfl⟩
  | [], [], h => exact absurd h (by simp [gR])
  | [], [_], h => exact absurd h (by simp [gR])
  | [], [_, _], h => exact absurd h (by simp [gR])
  | [], _ :: _ :: _ :: _ :: _, h => exact absurd h (by simp [gR])
  | _ :: _, _, h => exact absurd h (by simp [gR])
theorem relR {vs : List V} {us : List Value} {zs : List V} {ws : List Value} (a : Vals vs us) (b : Vals zs ws) : Vals (gR vs zs) (gR us ws) := by
  cases a with
  | nil => exact paired_rev b
  | cons r a => exact .nil
theorem stay {a : Addr} {S H H' : Hp} (h : Same S H) (k : Kept a H H') (n : S a = none) : Same S H' := fun b o e => k b o (h b o e) (fun z => by rw [z, n] at e; cases e)
def MlAt (H : Hp) (l : Addr) (ms : List Mate) : Prop := ∃ as : List Addr, H l = some (.lst (as.map V.ref)) ∧ Paired (MAt H) as ms
theorem MlAt.ms {H : Hp} {l : Addr} {ms : List Mate} (h : MlAt H l ms) : MsAt H l ms := by
  obtain ⟨as, h1, h2⟩ := h
  exact ⟨as, .inl h1, h2⟩
theorem MlAt.same {H H' : Hp} {l : Addr} {ms : List Mate} (h : MlAt H l ms) (s : Same H H') : MlAt H' l ms := by
  obtain ⟨as, h1, h2⟩ := h
  exact ⟨as, s _ _ h1, paired_mono (fun p e hp => s _ _ hp) h2⟩
theorem MlAt.kept {H H' : Hp} {a l : Addr} {ms : List Mate} (h : MlAt H l ms) (k : Kept a H H') (hp : PotAt H a) (n : l ≠ a) : MlAt H' l ms := by
  obtain ⟨as, h1, h2⟩ := h
  exact ⟨as, k _ _ h1 n, paired_mono (fun p e hm => k _ _ hm (hp.ntup hm)) h2⟩
theorem MlAt.push {H : Hp} {l t : Addr} {ms : List Mate} {m : Mate} (h : MlAt H l ms) (ht : MAt H t m) : ∃ xs, H l = some (.lst xs) ∧ xs.length = ms.length ∧ MlAt (upd H l (.lst (xs ++ [.ref t]))) l (ms ++ [m]) := by
  obtain ⟨as, h1, h2⟩ := h
  have nt : ∀ q e, MAt H q e → q ≠ l := fun q e hq => ne_of hq h1 (by intro z; cases z)
  refine ⟨as.map V.ref, h1, by rw [List.length_map]; exact paired_len h2, as ++ [t], by rw [upd_same, List.map_append]; rfl, paired_app (paired_mono (fun q e hq => ?_) h2) ?_⟩
  · show upd _ _ _ q = _
    rw [upd_ne (nt q e hq)]
    exact hq
  · show upd _ _ _ t = _
    rw [upd_ne (nt t m ht)]
    exact ht
theorem MlAt.cat {H : Hp} {l p : Addr} {ms : List Mate} {xs : List V} (h : MlAt H l ms) (hx : H l = some (.lst xs)) (np : H p = none) : MlAt (upd H p (.lst (xs ++ xs))) p (ms ++ ms) := by
  obtain ⟨as, h1, h2⟩ := h
  rw [hx] at h1
  cases h1
  exact ⟨as ++ as, by rw [upd_same, List.map_append], paired_mono (fun q e hq => same_new np _ _ _ hq) (paired_apps h2 h2)⟩
section
variable {P : Program} {w : World} {K : PySem.W.Frag} {mg : Str → Option Value} {base : Heap} {C : Addr}
def sp_law_right (_ : PySem.W.Frag) (C : Addr) : Sp := fun vs H Q _ => ∃ a, vs = [.ref a] ∧ PotAt H a ∧ ∀ H', Q (.bl true) H'
theorem ok_law_right (D : Def K mg "_law_right" s_law_right ["_law_pot_here"]) (B : Bs mg) (Glb : Glo mg) (WK : WebK K mg C)
    (h_law_close_web : Good P w K mg base "_law_close_web" s_law_close_web ["_law_pot_here", "_law_places", "_law_more"] 2 (sp_law_close_web K C))
    (h_law_draw : Good P w K mg base "_law_draw" s_law_draw ["_law_pot_here", "_law_size"] 1 (sp_law_draw K C))
    (h_law_tour : Good P w K mg base "_law_tour" s_law_tour ["_law_pot_here", "_law_ties", "_law_many"] 4 (sp_law_tour K C))
    (hbroken_mates : Good P w K mg base "broken_mates" sbroken_mates ["web", "tour", "mates"] 8 (spbroken_mates K C))
    (hkeeps_mate : Good P w K mg base "keeps_mate" skeeps_mate ["web", "tour", "mate"] 8 (spkeeps_mate K C))
    (h_law_mate : Good P w K mg base "_law_mate" s_law_mate ["_law_pot_here", "_law_many"] 3 (sp_law_mate K C))
    (h_law_is_kept : Good P w K mg base "_law_is_kept" s_law_is_kept ["_law_tour_here", "_law_mate_here"] 2 (sp_law_is_kept K C))
    (hWeb___init__ : GoodI P w K mg base C "__init__" "Web.__init__" sWeb___init__ ["self", "places", "ties"] 5 (spWeb___init__ K C)) :
    Good P w K mg base "_law_right" s_law_right ["_law_pot_here"] 9 (sp_law_right K C) := by
  refine D.good fun f fd F => ?_
  obtain ⟨f_law_close_web, d_law_close_web, O_law_close_web, m_law_close_web, k_law_close_web, b_law_close_web, F_law_close_web⟩ := h_law_close_web
  obtain ⟨f_law_draw, d_law_draw, O_law_draw, m_law_draw, k_law_draw, b_law_draw, F_law_draw⟩ := h_law_draw
  obtain ⟨f_law_tour, d_law_tour, O_law_tour, m_law_tour, k_law_tour, b_law_tour, F_law_tour⟩ := h_law_tour
  obtain ⟨fbroken_mates, dbroken_mates, Obroken_mates, mbroken_mates, kbroken_mates, bbroken_mates, Fbroken_mates⟩ := hbroken_mates
  obtain ⟨fkeeps_mate, dkeeps_mate, Okeeps_mate, mkeeps_mate, kkeeps_mate, bkeeps_mate, Fkeeps_mate⟩ := hkeeps_mate
  obtain ⟨f_law_mate, d_law_mate, O_law_mate, m_law_mate, k_law_mate, b_law_mate, F_law_mate⟩ := h_law_mate
  obtain ⟨f_law_is_kept, d_law_is_kept, O_law_is_kept, m_law_is_kept, k_law_is_kept, b_law_is_kept, F_law_is_kept⟩ := h_law_is_kept
  obtain ⟨fWeb___init__, dWeb___init__, OWeb___init__, MK, bWeb___init__⟩ := hWeb___init__
  have kb_broken_mates_mates_tour_web : KBinds K dbroken_mates ["web", "tour", "mates"] ["mates", "tour", "web"] gR gR := fun_kbinds Fbroken_mates gR gR relR (fun _ _ _ _ _ _ us ws hl => by
    obtain ⟨rfl, a0, a1, a2, rfl⟩ := gR_inv3 hl
    rfl)
  have kb_keeps_mate_mate_tour_web : KBinds K dkeeps_mate ["web", "tour", "mate"] ["mate", "tour", "web"] gR gR := fun_kbinds Fkeeps_mate gR gR relR (fun _ _ _ _ _ _ us ws hl => by
    obtain ⟨rfl, a0, a1, a2, rfl⟩ := gR_inv3 hl
    rfl)
  refine F.ok sc_law_right (fun vs H Q E h => ?_) (fun cdv A outer s H vs Q E hr h => ?_)
  · obtain ⟨a, rfl, hp, q⟩ := h
    first | rfl | (rcases h with ⟨_, _, rfl, _⟩ | ⟨_, rfl, _⟩ <;> rfl)
  obtain ⟨a, rfl, hp, q⟩ := h
  refine ⟨_, (pss_cons (ps_set (i := 1) sc_law_right.nd rfl (by first | exact Or.inl rfl | exact Or.inr rfl) (pe_op op_add pe_int (pe_call O_law_draw (hr.mono (by decide)) rfl m_law_draw k_law_draw b_law_draw .nil pass0 (pa_cons (pv 0) (pa_cons pe_int pa_nil)))))
  (pss_cons (ps_set (i := 2) sc_law_right.nd rfl (by first | exact Or.inl rfl | exact Or.inr rfl) (pe_call O_law_close_web (hr.mono (by decide)) rfl m_law_close_web k_law_close_web b_law_close_web .nil pass0 (pa_cons (pv 0) (pa_cons (pv 1) (pa_cons pe_int pa_nil)))))
  (pss_cons (ps_asg (pe_tup (pa_cons (pe_make MK OWeb___init__ (hr.mono (by decide)) rfl WK.mgC bWeb___init__ .nil pass0 (pa_cons (pv 1) (pa_cons (pv 2) pa_nil))) (pa_cons (pe_call O_law_tour (hr.mono (by decide)) rfl m_law_tour k_law_tour b_law_tour .nil pass0 (pa_cons (pv 0) (pa_cons (pv 2) (pa_cons (pe_op op_add pe_int (pe_call O_law_draw (hr.mono (by decide)) rfl m_law_draw k_law_draw b_law_draw .nil pass0 (pa_cons (pv 0) (pa_cons pe_int pa_nil)))) pa_nil)))) pa_nil))) (pg_tup rfl (pgs_cons (pg_name (i := 3) sc_law_right.nd rfl (by first | exact Or.inl rfl | exact Or.inr rfl)) (pgs_cons (pg_name (i := 4) sc_law_right.nd rfl (by first | exact Or.inl rfl | exact Or.inr rfl)) pgs_nil))))
  (pss_cons (ps_if (pt_cmpR op_isN (pv 4) pe_non (nomark _))
    (pss_one (ps_ret pe_bl)) pss_nil)
  (pss_cons (ps_set (i := 5) sc_law_right.nd rfl (by first | exact Or.inl rfl | exact Or.inr rfl) (pe_lst pa_nil))
  (pss_cons (ps_for PassesOwn.never rfl (pi_range1 (by rfl) B.range (pa_cons (pe_call O_law_draw (hr.mono (by decide)) rfl m_law_draw k_law_draw b_law_draw .nil pass0 (pa_cons (pv 0) (pa_cons pe_int pa_nil))) pa_nil)) (pg_name (i := 6) sc_law_right.nd rfl (by first | exact Or.inl rfl | exact Or.inr rfl))
    (pss_one (ps_expr (pe_bm PySem.F.plainAttrs_list PySem.F.slot_list_append PySem.F.type_list_append mt_append (pv 5) (pa_cons (pe_call O_law_mate (hr.mono (by decide)) rfl m_law_mate k_law_mate b_law_mate .nil pass0 (pa_cons (pv 0) (pa_cons (pe_callB call_len_seq (by rfl) B.len (by decide +kernel) (pa_cons (pv 2) pa_nil)) pa_nil))) pa_nil)))))
  (pss_cons (ps_setLc (i := 7) (own := [("_law_at", 8), ("_law_mate_here", 11)]) (g := gTup K 2 (gCons (gName 8) (gCons (gName 11) gNil))) (by rfl) sc_law_right.nd rfl rfl (sw_true rfl rfl rfl (by decide +kernel)) (pi_enum (by rfl) B.enumerate (pa_cons (pv 5) pa_nil)) (blkOk_by (own := [("_law_at", 8), ("_law_mate_here", 11)]) (N := ["_law_pot_here", "_law_places", "_law_ties", "_law_web", "_law_tour_here", "_law_mates", "_law_turn", "_law_due", "_law_at", "_law_one", "_law_number", "_law_mate_here", "_law_told"]) (sc := defScope s_law_right) (by decide +kernel)) (fun _ _ _ _ _ => (pg_tup rfl (pgs_cons (pg_name (i := 8) sc_law_right.nd rfl (by first | exact Or.inl rfl | exact Or.inr rfl)) (pgs_cons (pg_name (i := 11) sc_law_right.nd rfl (by first | exact Or.inl rfl | exact Or.inr rfl)) pgs_nil)))) (fun _ _ _ _ _ => (pts_one (pt_not (pt_val (pe_call O_law_is_kept (hr.mono (by decide)) rfl m_law_is_kept k_law_is_kept b_law_is_kept .nil pass0 (pa_cons (pv 4) (pa_cons (pv 11) pa_nil))))))) (fun _ _ _ _ _ => (pv 8)))
  (pss_cons (ps_set (i := 8) sc_law_right.nd rfl (by first | exact Or.inl rfl | exact Or.inr rfl) (pe_call O_law_draw (hr.mono (by decide)) rfl m_law_draw k_law_draw b_law_draw .nil pass0 (pa_cons (pv 0) (pa_cons (pe_callB call_len_seq (by rfl) B.len (by decide +kernel) (pa_cons (pv 4) pa_nil)) pa_nil))))
  (pss_cons (ps_for PassesOwn.never rfl (pi_list (pe_lst (pa_cons (pv 4) (pa_cons (pe_op op_cat (pe_slice sl_list (pv 4) (po_some (pv 8)) po_none) (pe_slice sl_list (pv 4) po_none (po_some (pv 8)))) (pa_cons (pe_op op_cat (pv 4) (pv 4)) pa_nil))))) (pg_name (i := 9) sc_law_right.nd rfl (by first | exact Or.inl rfl | exact Or.inr rfl))
    (pss_one (ps_if (pt_cmpR (op_neD hr.units) (pe_call Obroken_mates hr rfl mbroken_mates kbroken_mates bbroken_mates .nil pass0 (pa_cons (pv 3) (pa_cons (pv 9) (pa_cons (pv 5) pa_nil)))) (pv 7) (nomark _))
    (pss_one (ps_ret pe_bl)) pss_nil)))
  (pss_cons (ps_if (pt_cmpR (op_neD hr.units) (pe_callKK Obroken_mates hr (by rfl) mbroken_mates kbroken_mates kb_broken_mates_mates_tour_web pass0 (pk_cons (pe_callTy call_tuple_of (by rfl) B.tuple (by decide +kernel) (pa_cons (pv 5) pa_nil)) (pk_cons (pe_callTy call_tuple_of (by rfl) B.tuple (by decide +kernel) (pa_cons (pv 4) pa_nil)) (pk_cons (pv 3) pk_nil)))) (pv 7) (nomark _))
    (pss_one (ps_ret pe_bl)) pss_nil)
  (pss_cons (ps_for PassesOwn.never rfl (pi_enum (by rfl) B.enumerate (pa_cons (pv 5) pa_nil)) (pg_tup rfl (pgs_cons (pg_name (i := 10) sc_law_right.nd rfl (by first | exact Or.inl rfl | exact Or.inr rfl)) (pgs_cons (pg_name (i := 11) sc_law_right.nd rfl (by first | exact Or.inl rfl | exact Or.inr rfl)) pgs_nil)))
    (pss_cons (ps_set (i := 12) sc_law_right.nd rfl (by first | exact Or.inl rfl | exact Or.inr rfl) (pe_call Okeeps_mate hr rfl mkeeps_mate kkeeps_mate bkeeps_mate .nil pass0 (pa_cons (pv 3) (pa_cons (pv 4) (pa_cons (pv 11) pa_nil)))))
  (pss_cons (ps_if (pt_cmpR op_ne (pe_callB call_repr_bl (by rfl) B.repr (by decide +kernel) (pa_cons (pv 12) pa_nil)) (pe_callB call_repr_bl (by rfl) B.repr (by decide +kernel) (pa_cons (pe_cmpR op_notIn_seq (pv 10) (pv 7) (by rfl)) pa_nil)) (nomark _))
    (pss_one (ps_ret pe_bl)) pss_nil)
  (pss_one (ps_if (pt_cmpR op_ne (pe_callB call_repr_bl (by rfl) B.repr (by decide +kernel) (pa_cons (pe_callKK Okeeps_mate hr (by rfl) mkeeps_mate kkeeps_mate kb_keeps_mate_mate_tour_web pass0 (pk_cons (pv 11) (pk_cons (pv 4) (pk_cons (pv 3) pk_nil)))) pa_nil)) (pe_callB call_repr_bl (by rfl) B.repr (by decide +kernel) (pa_cons (pv 12) pa_nil)) (nomark _))
    (pss_one (ps_ret pe_bl)) pss_nil)))))
  (pss_one (ps_ret (pe_cmpR (op_eqD hr.units) (pe_call Obroken_mates hr rfl mbroken_mates kbroken_mates bbroken_mates .nil pass0 (pa_cons (pv 3) (pa_cons (pv 4) (pa_cons (pe_op op_cat (pv 5) (pv 5)) pa_nil)))) (pe_op op_cat (pv 7) (pe_lc (own := [("_law_one", 9)]) (g := gName 9) (by rfl) sc_law_right.nd (pi_list (pv 7)) (blkOk_by (own := [("_law_one", 9)]) (N := ["_law_pot_here", "_law_places", "_law_ties", "_law_web", "_law_tour_here", "_law_mates", "_law_turn", "_law_due", "_law_at", "_law_one", "_law_number", "_law_mate_here", "_law_told"]) (sc := defScope s_law_right) (by decide +kernel)) (fun _ _ _ _ _ => (pg_name (i := 9) sc_law_right.nd rfl (by first | exact Or.inl rfl | exact Or.inr rfl))) (fun _ _ _ _ _ => pts_nil) (fun _ _ _ _ _ => (pe_op op_add (pe_callB (call_len_seqK (K := K) rfl) (by rfl) B.len (by decide +kernel) (pa_cons (pv 5) pa_nil)) (pv 9))))) (nomark _))))))))))))))), ?_⟩
  refine ⟨_, rfl, a, 3, rfl, hp, by decide, by decide, fun d1 H1 hd1 hk1 hp1 => ⟨_, _, rfl, rfl, ?_⟩⟩
  refine ⟨_, rfl, _, rfl, a, 1 + d1, 3, rfl, hp1, by omega, by omega, by omega, fun l ts H2 htl ho hgo hk2 hp2 nl hT2 => ?_⟩
  have hla : l ≠ a := hp1.ne nl
  have hm := ho.m
  generalize eN : 1 + d1 = N at *
  refine ⟨_, rfl, _, rfl, fun x dx nx ndx ndxx => ?_⟩
  have hS01 : Same H2 (upd (upd H2 dx (.own x)) x (.ins C dx [])) := fun b o e => by
    rw [upd_ne (ne_of_none e nx), upd_ne (ne_of_none e ndx)]
    exact e
  refine ⟨x, dx, N, l, ts, by rw [← eN]; rfl, ho, hT2.same hS01, upd_same, fun H3 hk3 hw3 => ⟨rfl, ?_⟩⟩
  have hax : a ≠ x := by
    obtain ⟨u, v, e, _⟩ := hp2
    exact ne_of_none e nx
  have hp2' := hp2.same hS01
  have hp3 : PotAt H3 a := by
    obtain ⟨u, v, e, r⟩ := hp2'
    exact ⟨u, v, hk3 _ _ e hax, r⟩
  have hTS3 : Same H2 H3 := fun b o e => hk3 _ _ (hS01 _ _ e) (ne_of_none e nx)
  have hT3 := hT2.same hTS3
  obtain ⟨S, hwS, hSS3, hSa⟩ : ∃ S, WebAt C x N ts S ∧ Same S H3 ∧ S a = none := by
    obtain ⟨u, v, e, _⟩ := hp2'
    exact ⟨_, hw3, Sub.same, Sub.none e hax (hk3 _ _ e hax)⟩
  clear hw3
  refine ⟨_, rfl, _, rfl, _, rfl, a, 6, rfl, hp3, by decide, by decide, fun d2 H4 hd2 hk4 hp4 => ⟨_, _, rfl, rfl, ?_⟩⟩
  have hT4 := hT3.kept hk4 hp3 hla
  have hSS4 := stay hSS3 hk4 hSa
  refine ⟨a, l, N, ts, 1 + d2, rfl, hp4, hla, hT4, ho, hgo, by omega, by omega, fun H5 => ⟨(by show 2 ≤ sizeLine; decide), fun tp ntp => ?_⟩, fun f R H5 hR hRl hk5 hp5 nf hf5 => ⟨(by show 2 ≤ sizeLine; decide), fun tp ntp => ?_⟩⟩
  · exact ⟨tp, _, rfl, SqT.of upd_same, rfl, _, _, rfl, _, _, rfl, rfl, _, rfl, rfl, _, rfl, iteT (q _)⟩
  refine ⟨tp, _, rfl, SqT.of upd_same, rfl, _, _, rfl, _, _, rfl, rfl, _, rfl, rfl, _, rfl, iteNo (by intro z; cases z) ?_⟩
  have hfa : f ≠ a := hp4.ne nf
  have hT6 := (hT4.kept hk5 hp4 hla).new (o := .tup [.ref x, .ref f]) ntp
  have hSS6 : Same S _ := (stay hSS4 hk5 hSa).trans (same_new ntp (.tup [.ref x, .ref f]))
  have hp6 := hp5.new (o := .tup [.ref x, .ref f]) ntp
  have hf6 := same_new ntp (.tup [.ref x, .ref f]) _ _ hf5
  generalize upd H5 tp (.tup [.ref x, .ref f]) = H6 at hT6 hSS6 hp6 hf6
  clear hk1 hk2 hk3 hk4 hk5
  refine ⟨Nat.zero_le _, fun Ml nMl => ?_⟩
  have hMa : Ml ≠ a := hp6.ne nMl
  have hM7 : MlAt (upd H6 Ml (.lst [])) Ml [] := ⟨[], upd_same, .nil⟩
  have hT7 := hT6.new (o := .lst []) nMl
  have hSS7 : Same S _ := hSS6.trans (same_new nMl (.lst []))
  have hp7 := hp6.new (o := .lst []) nMl
  have hf7 := same_new nMl (.lst []) _ _ hf6
  have nSM : S Ml = none := hSS6.free nMl
  have nfM : f ≠ Ml := ne_of_none hf6 nMl
  have nlM : l ≠ Ml := by
    obtain ⟨xs, e, _⟩ := hT6.get
    exact ne_of_none e nMl
  have ntM : ∀ p e, TupAt H6 p e → p ≠ Ml := fun p e hq => ne_of_none hq nMl
  generalize upd H6 Ml (.lst []) = H7 at hM7 hT7 hSS7 hp7 hf7
  refine ⟨_, rfl, a, 7, rfl, hp7, by decide, by decide, fun d3 H8 hd3 hk8 hp8 => ⟨_, rfl, by omega, by omega, ?_⟩⟩
  rw [show ((d3 : Nat) : Int).toNat = d3 by omega]
  refine for_range (lo := 0) (n := d3) (fun i σ H' => ∃ (ms : List Mate) (v6 : Option V), σ = [some (.ref a), some (.int ((1 : Int) + (d1 : Int))), some (.ref l), some (.ref x), some (.ref f), some (.ref Ml), v6, none, none, none, none, none, none] ∧ ms.length = i ∧ (∀ m ∈ ms, OkMate ts.length m) ∧ PotAt H' a ∧ Same S H' ∧ TiesAt H' l ts ∧ H' f = some (.lst (iv R)) ∧ MlAt H' Ml ms) ⟨[], none, rfl, rfl, by simp, hp8, stay hSS7 hk8 hSa, hT7.kept hk8 hp7 hla, hk8 _ _ hf7 hfa, hM7.kept hk8 hp7 hMa⟩ ?_ ?_
  · rintro i σ H9 hi ⟨ms, v6, rfl, hml, hok, hp9, hS9, hT9, hf9, hM9⟩
    obtain ⟨xs, hxs, hxl⟩ := hT9.get
    obtain ⟨as, hM9a, _⟩ := id hM9
    have hgm : 0 < ts.length := by
      obtain ⟨e, he, _⟩ := hgo 0 ho.n0
      exact List.length_pos_of_mem he
    refine ⟨_, rfl, .inl ⟨rfl, _, SqL.of hM9a⟩, _, rfl, _, rfl, l, _, rfl, .inl (SqL.of hxs), a, xs.length, rfl, hp9, by omega, by omega, fun t m H10 hk10 hp10 ht hom => ?_⟩
    obtain ⟨ys, hys, hyl, hpush⟩ := (hM9.kept hk10 hp9 hMa).push ht
    refine ⟨Ml, _, _, rfl, rfl, hys, by rw [hyl, hml]; exact Nat.lt_of_lt_of_le (by omega : i < 1000) (by decide), ?_⟩
    refine ⟨ms ++ [m], _, rfl, by rw [List.length_append, hml]; rfl, fun m' hm' => ?_, hp10.put hMa, fun b o e => ?_, ?_, ?_, hpush⟩
    · rcases List.mem_append.mp hm' with z | z
      · exact hok _ z
      · rw [List.mem_singleton.mp z, ← hxl]; exact hom
    · rw [upd_ne (ne_of_none e nSM)]
      exact stay hS9 hk10 hSa _ _ e
    · have hT10 := hT9.kept hk10 hp9 hla
      obtain ⟨tas, g1, g2⟩ := hT10
      obtain ⟨_, gM, _⟩ := id (hM9.kept hk10 hp9 hMa)
      exact ⟨tas, by rw [upd_ne nlM]; exact g1, paired_mono (fun p e hq => by show upd _ _ _ p = _; rw [upd_ne (ne_of hq gM (by intro z; cases z))]; exact hq) g2⟩
    · rw [upd_ne nfM]
      exact hk10 _ _ hf9 hfa
  rintro σ H9 ⟨ms, v6, rfl, hml, hok, hp9, hS9, hT9, hf9, hM9⟩
  have hR0 := hR.ch.n0
  have hms : ms.length ≤ 6 := by omega
  obtain ⟨as, hMa9, hMp9⟩ := id hM9
  -- due
  refine ⟨_, rfl, Ml, _, rfl, SqL.of hMa9, fun D nD => ?_⟩
  refine lc_it (walk_enum (K := K) (a := Ml) (xs := as.map V.ref)) (fun i H' => Same H9 H' ∧ H' D = some (.lst (iv (brkN R ms i)))) ⟨same_new nD _, upd_same⟩ (fun i H' _ ⟨hS', _⟩ => SqL.of (hS' _ _ hMa9)) ?_ ?_
  · rintro i y H10 H11 hi ⟨hS10, hD10⟩ ⟨T0, x1, x2, rfl, nT0, rfl, e1, e2⟩
    cases e1
    replace e2 : (as.map V.ref)[i]? = some x2 := e2
    obtain ⟨p, m, rfl, m1, m2⟩ := mt_at hMp9 e2
    have om := hok m (List.mem_of_getElem? m1)
    have hS11 : Same H10 (upd H10 T0 (.tup [.int (i : Int), .ref p])) := same_new nT0 _
    have hT : upd H10 T0 (.tup [.int (i : Int), .ref p]) T0 = some (.tup [.int (i : Int), .ref p]) := upd_same
    generalize upd H10 T0 (.tup [.int (i : Int), .ref p]) = H11 at hS11 hT
    have hS9b := hS10.trans hS11
    refine ⟨T0, _, rfl, SqT.of hT, rfl, _, _, rfl, _, _, rfl, rfl, rfl, _, rfl, _, rfl, f, R, p, m, rfl, hS9b _ _ hf9, hR0, hR.n1, hS9b _ _ m2, om.l, om.lm, om.m60, fun H12 hS12 => ⟨_, rfl, ?_⟩⟩
    have hD12 := hS12 _ _ (hS11 _ _ hD10)
    have hS13 := hS9b.trans hS12
    have hbl := brkN_len R ms i
    have hil := (List.getElem?_eq_some_iff.mp m1).1
    by_cases k : keepsB R m = true
    · rw [k]
      refine iteF ⟨hS13, ?_⟩
      rw [brkN_yes m1 k]
      exact hD12
    · rw [show keepsB R m = false by simpa using k]
      refine iteT ⟨_, rfl, _, hD12, ?_, same_upd hS13 nD, ?_⟩
      · rw [List.length_map]
        exact Nat.lt_of_lt_of_le (by omega : (brkN R ms i).length < 1000) (by decide)
      · rw [brkN_no m1 k, iv_app]
        exact upd_same
  rintro H10 ⟨hS10, hD10⟩
  rw [List.length_map, paired_len hMp9] at hD10
  have hDa : D ≠ a := hp9.ne nD
  have hp10 := hp9.same hS10
  have hf10 := hS10 _ _ hf9
  have hM10 := hM9.same hS10
  have hSS10 := hS9.trans hS10
  -- at
  refine ⟨_, rfl, _, rfl, f, _, rfl, .inl (SqL.of hf10), a, (iv R).length, rfl, hp10, by rw [List.length_map]; omega, by rw [List.length_map]; omega, fun k H11 hk hk11 hp11 => ?_⟩
  rw [List.length_map] at hk
  have hf11 := hk11 _ _ hf10 hfa
  have hD11 := hk11 _ _ hD10 hDa
  have hM11 := hM10.kept hk11 hp10 hMa
  have hSS11 := stay hSS10 hk11 hSa
  clear hk11 hp11 hk8
  -- the three rounds
  refine ⟨_, rfl, _, rfl, _, rfl, _, rfl, f, _, rfl, SqL.of hf11, fun p1 n1 => ?_⟩
  rw [cutV_from, ← List.map_drop] at *
  have hS12 := same_new n1 (.lst (iv (R.drop k)))
  have h1 : upd H11 p1 (.lst (iv (R.drop k))) p1 = some (.lst (iv (R.drop k))) := upd_same
  generalize upd H11 p1 (.lst (iv (R.drop k))) = H12 at hS12 h1
  refine ⟨_, rfl, _, rfl, _, rfl, f, _, rfl, SqL.of (hS12 _ _ hf11), fun p2 n2 => ?_⟩
  rw [cutV_to, ← List.map_take] at *
  have hS13 := hS12.trans (same_new n2 (.lst (iv (R.take k))))
  have h1' := same_new n2 (.lst (iv (R.take k))) _ _ h1
  have h2 : upd H12 p2 (.lst (iv (R.take k))) p2 = some (.lst (iv (R.take k))) := upd_same
  generalize upd H12 p2 (.lst (iv (R.take k))) = H13 at hS13 h1' h2
  refine ⟨p1, p2, _, _, rfl, rfl, h1', h2, ?_, fun p3 n3 => ?_⟩
  · rw [List.length_map, List.length_map, List.length_drop, List.length_take]
    exact Nat.le_trans (by omega : _ ≤ 1000) (by decide)
  rw [← List.map_append] at *
  have hS14 := hS13.trans (same_new n3 (.lst (iv (R.drop k ++ R.take k))))
  have h3 : upd H13 p3 (.lst (iv (R.drop k ++ R.take k))) p3 = some (.lst (iv (R.drop k ++ R.take k))) := upd_same
  generalize upd H13 p3 (.lst (iv (R.drop k ++ R.take k))) = H14 at hS14 h3
  refine ⟨_, rfl, _, rfl, f, f, _, _, rfl, rfl, hS14 _ _ hf11, hS14 _ _ hf11, ?_, fun p4 n4 => ?_⟩
  · rw [List.length_map]
    exact Nat.le_trans (by omega : _ ≤ 1000) (by decide)
  rw [← List.map_append] at *
  have hS15 := hS14.trans (same_new n4 (.lst (iv (R ++ R))))
  have h3' := same_new n4 (.lst (iv (R ++ R))) _ _ h3
  have h4 : upd H14 p4 (.lst (iv (R ++ R))) p4 = some (.lst (iv (R ++ R))) := upd_same
  generalize upd H14 p4 (.lst (iv (R ++ R))) = H15 at hS15 h3' h4
  refine ⟨(by show 3 ≤ sizeLine; decide), fun E5 n5 => ?_⟩
  have hS16 := hS15.trans (same_new n5 (.lst [.ref f, .ref p3, .ref p4]))
  have hE : upd H15 E5 (.lst [.ref f, .ref p3, .ref p4]) E5 = some (.lst [.ref f, .ref p3, .ref p4]) := upd_same
  have h3'' := same_new n5 (.lst [.ref f, .ref p3, .ref p4]) _ _ h3'
  have h4' := same_new n5 (.lst [.ref f, .ref p3, .ref p4]) _ _ h4
  generalize upd H15 E5 (.lst [.ref f, .ref p3, .ref p4]) = H16 at hS16 hE h3'' h4'
  have hf16 := hS16 _ _ hf11
  have hD16 := hS16 _ _ hD11
  have hM16 := hM11.same hS16
  have hw16 := hwS.same (hSS11.trans hS16)
  refine ⟨E5, rfl, ⟨_, SqL.of hE⟩, for_list (K := K) (a := E5) (xs := [.ref f, .ref p3, .ref p4]) (fun i σ H' => Same H16 H' ∧ ∃ v9, σ = [some (.ref a), some (.int ((1 : Int) + (d1 : Int))), some (.ref l), some (.ref x), some (.ref f), some (.ref Ml), v6, some (.ref D), some (.int (k : Int)), v9, none, none, none]) ⟨fun _ _ e => e, none, rfl⟩ (fun i σ H' _ ⟨hS', _⟩ => SqL.of (hS' _ _ hE)) ?_ ?_⟩
  · rintro i y σ H17 hy ⟨hS17, v9, rfl⟩
    obtain ⟨r, R', rfl, hr, hR', hb⟩ : ∃ r R', y = V.ref r ∧ H16 r = some (.lst (iv R')) ∧ Tour ts R' ∧ brk R' ms = brk R ms := by
      have hm := List.mem_of_getElem? hy
      simp only [List.mem_cons, List.not_mem_nil, or_false] at hm
      rcases hm with rfl | rfl | rfl
      · exact ⟨_, R, rfl, hf16, hR, rfl⟩
      · exact ⟨_, _, rfl, h3'', hR.turn hk, brk_congr (keeps_turn hk) ms⟩
      · exact ⟨_, _, rfl, h4', hR.two (by omega), brk_congr (keeps_two R) ms⟩
    refine ⟨_, rfl, _, rfl, _, rfl, x, N, ts, r, R', Ml, ms, rfl, hw16.same hS17, .inl (hS17 _ _ hr), hR', (hM16.same hS17).ms, by omega, hok, fun H18 D2 nD2 hS18 hD2 => ?_⟩
    rw [hb] at hD2
    exact ⟨_, rfl, _, _, dp_iv hD2, dp_iv (hS18 _ _ (hS17 _ _ hD16)), shaped_iz _, shaped_iz _, _, rfl, iteNb (eqv_same _) ⟨hS17.trans hS18, _, rfl⟩⟩
  rintro σ H17 ⟨hS17, v9, rfl⟩
  have hM17 := hM16.same hS17
  obtain ⟨as17, hMa17, hMp17⟩ := id hM17
  have hf17 := hS17 _ _ hf16
  have hD17 := hS17 _ _ hD16
  have hw17 := hw16.same hS17
  -- tuples, by names
  refine ⟨_, rfl, Ml, _, rfl, .inl ⟨SqL.of hMa17, fun u1 nu1 => ?_⟩⟩
  refine ⟨_, rfl, f, _, rfl, .inl ⟨SqL.of (same_new nu1 _ _ _ hf17), fun u2 nu2 => ?_⟩⟩
  have hS18 := (same_new nu1 (.tup (as17.map V.ref))).trans (same_new nu2 (.tup (iv R)))
  have hu1 := same_new nu2 (.tup (iv R)) _ _ (upd_same (H := H17) (a := u1) (o := .tup (as17.map V.ref)))
  have hu2 : upd (upd H17 u1 (.tup (as17.map V.ref))) u2 (.tup (iv R)) u2 = some (.tup (iv R)) := upd_same
  generalize upd (upd H17 u1 (.tup (as17.map V.ref))) u2 (.tup (iv R)) = H18 at hS18 hu1 hu2
  refine ⟨_, rfl, x, N, ts, u2, R, u1, ms, rfl, hw17.same hS18, .inr hu2, hR, ⟨as17, .inr hu1, paired_mono (fun p e hq => hS18 _ _ hq) hMp17⟩, by omega, hok, fun H19 D2 nD2 hS19 hD2 => ?_⟩
  have hS1719 := hS18.trans hS19
  refine ⟨_, rfl, _, _, dp_iv hD2, dp_iv (hS1719 _ _ hD17), shaped_iz _, shaped_iz _, _, rfl, iteNb (eqv_same _) ?_⟩
  have hMa19 := hS1719 _ _ hMa17
  -- one by one
  refine ⟨_, rfl, Ml, _, rfl, SqL.of hMa19, for_it (walk_enum (K := K) (a := Ml) (xs := as17.map V.ref)) (fun i σ H' => Same H19 H' ∧ ∃ v10 v11 v12, σ = [some (.ref a), some (.int ((1 : Int) + (d1 : Int))), some (.ref l), some (.ref x), some (.ref f), some (.ref Ml), v6, some (.ref D), some (.int (k : Int)), v9, v10, v11, v12]) ⟨fun _ _ e => e, none, none, none, rfl⟩ (fun i σ H' _ ⟨hS', _⟩ => SqL.of (hS' _ _ hMa19)) ?_ ?_⟩
  · rintro i y σ H20 H21 hi ⟨hS20, v10, v11, v12, rfl⟩ ⟨T0, x1, x2, rfl, nT0, rfl, e1, e2⟩
    cases e1
    replace e2 : (as17.map V.ref)[i]? = some x2 := e2
    obtain ⟨p, m, rfl, m1, m2⟩ := mt_at hMp17 e2
    have om := hok m (List.mem_of_getElem? m1)
    have hS21 : Same H20 (upd H20 T0 (.tup [.int (i : Int), .ref p])) := same_new nT0 _
    have hT : upd H20 T0 (.tup [.int (i : Int), .ref p]) T0 = some (.tup [.int (i : Int), .ref p]) := upd_same
    generalize upd H20 T0 (.tup [.int (i : Int), .ref p]) = H21 at hS21 hT
    have hS := hS1719.trans (hS20.trans hS21)
    refine ⟨T0, _, rfl, SqT.of hT, rfl, _, _, rfl, _, _, rfl, rfl, ?_⟩
    refine ⟨_, rfl, _, rfl, _, rfl, x, N, ts, f, R, p, m, rfl, hw17.same hS, .inl (hS _ _ hf17), hR, hS _ _ m2, om, fun H22 hS22 => ?_⟩
    have hS2 := hS.trans hS22
    have ein : (!decide (i ∈ brk R ms)) = keepsB R m := by
      rw [Bool.eq_iff_iff, Bool.not_eq_true', decide_eq_false_iff_not, brkN_mem]
      constructor
      · intro z
        cases ek : keepsB R m with
        | true => rfl
        | false => exact absurd ⟨(List.getElem?_eq_some_iff.mp m1).1, m, m1, ek⟩ z
      · rintro ek ⟨_, m', h1, h2⟩
        rw [m1] at h1
        cases h1
        rw [ek] at h2
        cases h2
    refine ⟨_, rfl, _, rfl, _, rfl, _, rfl, D, _, rfl, .inl (SqL.of (hS2 _ _ hD17)), rfl, flat_iv _, ?_⟩
    rw [inV_iv]
    refine ⟨_, rfl, rfl, _, rfl, iteNot' (by show V.str (if keepsB R m = true then _ else _) = V.str (if (!decide (i ∈ brk R ms)) = true then _ else _); rw [ein]) ?_⟩
    refine ⟨_, rfl, _, rfl, _, rfl, x, N, ts, f, R, p, m, rfl, hw17.same hS2, .inl (hS2 _ _ hf17), hR, hS2 _ _ m2, om, fun H23 hS23 => ?_⟩
    exact ⟨_, rfl, _, rfl, _, rfl, rfl, _, rfl, iteNot' rfl ⟨((hS20.trans hS21).trans hS22).trans hS23, _, _, _, rfl⟩⟩
  rintro σ H20 ⟨hS20, v10, v11, v12, rfl⟩
  have hS := hS1719.trans hS20
  have hMa20 := hS20 _ _ hMa19
  have hM20 := hM17.same hS
  refine ⟨_, rfl, _, rfl, _, rfl, _, rfl, Ml, Ml, _, _, rfl, rfl, hMa20, hMa20, ?_, fun g ng => ?_⟩
  · rw [List.length_map, paired_len hMp17]
    exact Nat.le_trans (by omega : _ ≤ 1000) (by decide)
  have hM21 := hM20.cat hMa20 ng
  have hS21 := hS.trans (same_new ng (.lst (as17.map V.ref ++ as17.map V.ref)))
  have hMa21 := same_new ng (.lst (as17.map V.ref ++ as17.map V.ref)) _ _ hMa20
  generalize upd H20 g (.lst (as17.map V.ref ++ as17.map V.ref)) = H21 at hM21 hS21 hMa21
  refine ⟨x, N, ts, f, R, g, ms ++ ms, rfl, hw17.same hS21, .inl (hS21 _ _ hf17), hR, hM21.ms, by rw [List.length_append]; omega, fun m hm => hok m ((List.mem_append.mp hm).elim id id), fun H22 D2 nD2 hS22 hD2 => ?_⟩
  have hS2 := hS21.trans hS22
  have hD22 := hS2 _ _ hD17
  have hbl : (brk R ms).length ≤ 6 := Nat.le_trans (brkN_len R ms ms.length) hms
  refine ⟨_, rfl, _, rfl, D, rfl, ⟨_, SqL.of hD22⟩, fun D3 nD3 => ?_⟩
  refine lc_list (K := K) (a := D) (xs := iv (brk R ms)) (fun i H' => Same H22 H' ∧ H' D3 = some (.lst (iv (((brk R ms).take i).map fun z => ms.length + z)))) ⟨same_new nD3 _, upd_same⟩ (fun i H' _ ⟨hS', _⟩ => SqL.of (hS' _ _ hD22)) ?_ ?_
  · rintro i y H23 hy ⟨hS23, hD3⟩
    obtain ⟨b, hb, rfl⟩ : ∃ b, (brk R ms)[i]? = some b ∧ y = .int ((b : Nat) : Int) := by
      rw [List.getElem?_map] at hy
      cases e : (brk R ms)[i]? with
      | none => rw [e] at hy; cases hy
      | some b => rw [e] at hy; exact ⟨b, rfl, (Option.some.inj hy).symm⟩
    have hi := (List.getElem?_eq_some_iff.mp hb).1
    refine ⟨rfl, _, rfl, Ml, _, rfl, .inl (SqL.of (hS23 _ _ (hS22 _ _ hMa21))), _, rfl, _, _, rfl, rfl, _, hD3, ?_, same_upd hS23 nD3, ?_⟩
    · rw [List.length_map, List.length_map, List.length_take]
      exact Nat.lt_of_lt_of_le (by omega : _ < 1000) (by decide)
    · rw [upd_same, List.length_map, paired_len hMp17, List.take_succ, hb]
      show _ = some (HO.lst (iv (List.map (fun z => ms.length + z) (List.take i (brk R ms) ++ [b]))))
      rw [List.map_append]
      show _ = some (HO.lst (iv (List.map (fun z => ms.length + z) (List.take i (brk R ms)) ++ [ms.length + b])))
      rw [iv_app]
      rfl
  rintro H23 ⟨hS23, hD3⟩
  rw [List.length_map, List.take_length] at hD3
  refine ⟨D, D3, _, _, rfl, rfl, hS23 _ _ hD22, hD3, ?_, fun D4 nD4 => ?_⟩
  · simp only [List.length_map]
    show (brk R ms).length + (brk R ms).length ≤ sizeLine
    exact Nat.le_trans (by omega : _ ≤ 1000) (by decide)
  rw [← List.map_append, ← brk_app] at *
  refine ⟨_, _, dp_iv (same_new nD4 _ _ _ (hS23 _ _ hD2)), dp_iv upd_same, shaped_iz _, shaped_iz _, bl_is (eqv_same _) (q _)⟩
def splaw (K : PySem.W.Frag) (_ : Addr) : Sp := fun vs H Q _ => ∃ a, ∃ ns : List Int, vs = [.ref a] ∧ SqL K H a (ns.map V.int) ∧ ns.length ≤ 63 ∧ ∀ H', Q (.bl true) H'
theorem oklaw (D : Def K mg "law" slaw ["_law_script"]) (B : Bs mg) (Glb : Glo mg) (WK : WebK K mg C)
    (h_law_right : Good P w K mg base "_law_right" s_law_right ["_law_pot_here"] 9 (sp_law_right K C))
    (h_law_pot : Good P w K mg base "_law_pot" s_law_pot ["_law_script", "_law_k"] 1 (sp_law_pot K C)) :
    Good P w K mg base "law" slaw ["_law_script"] 10 (splaw K C) := by
  refine D.good fun f fd F => ?_
  obtain ⟨f_law_right, d_law_right, O_law_right, m_law_right, k_law_right, b_law_right, F_law_right⟩ := h_law_right
  obtain ⟨f_law_pot, d_law_pot, O_law_pot, m_law_pot, k_law_pot, b_law_pot, F_law_pot⟩ := h_law_pot
  refine F.ok sclaw (fun vs H Q E h => ?_) (fun cdv A outer s H vs Q E hr h => ?_)
  · obtain ⟨sa, ns, rfl, hs, h63, q⟩ := h
    first | rfl | (rcases h with ⟨_, _, rfl, _⟩ | ⟨_, rfl, _⟩ <;> rfl)
  obtain ⟨sa, ns, rfl, hs, h63, q⟩ := h
  refine ⟨_, (pss_one (ps_ret (pe_call O_law_right hr rfl m_law_right k_law_right b_law_right .nil pass0 (pa_cons (pe_call O_law_pot (hr.mono (by decide)) rfl m_law_pot k_law_pot b_law_pot .nil pass0 (pa_cons (pv 0) (pa_cons pe_int pa_nil))) pa_nil)))), ?_⟩
  exact ⟨_, rfl, sa, ns, rfl, hs, fun p H1 hp hS np => ⟨p, rfl, hp, q⟩⟩
end
end My
namespace My
open PySem L2 PyProof.Rows
/-! ### the end -/
theorem kit_no {K : PySem.W.Frag} {C : Addr} (h1 : PySem.W.isClsIn K C = true) (h2 : PySem.W.typeIn K (.ref C) = some (.type "type")) (h3 : PySem.W.subIn K (.type "dict") (.ref C) = some false) : PySem.W.kitOne K (.type "dict") (.ref C) = some false := by
  unfold PySem.W.kitOne
  rw [if_neg (by simp)]
  show (if ((PySem.W.clsIn K C).isSome && PySem.W.typeIn K (.ref C) == some (.type "type")) = true then PySem.W.subIn K (.type "dict") (.ref C) else none) = some false
  have h1' : (PySem.W.clsIn K C).isSome = true := h1
  rw [h1', h2, if_pos (by simp)]
  exact h3
theorem fd_is {K : PySem.W.Frag} {x : Str} {st : Stmt} {f : Addr} {fd fe : FuncData} {oc : Value} {od : Option Addr} {sl : Array (Option Value)} (F : Fun K x x st f fd) (l : K.lookup f = some ⟨oc, od, .func fe, sl⟩) : fd = fe := by
  obtain ⟨oc2, od2, kV, doc, pm, an, cdv, ct, osl, e, lk, c⟩ := F.ex
  rw [lk] at l
  have := Option.some.inj l
  injection this with _ _ h3 _
  injection h3
set_option maxHeartbeats 4000000 in
theorem all_mk {l : PySem.W.OpenLaw} {w : World} {K : PySem.W.Frag} {h : Heap} {mg : Str → Option Value} {fa C : Addr} (X : K.In h) (G : h.Ns mainGlobals mg) (hfa : mg "law" = some (.ref fa))
    {fM0 : Addr} {odM0 anM0 : Option Addr} {slM0 : Array (Option Value)} {ocM0 kVM0 dcM0 pmM0 cdM0 ctM0 : Value} {fM1 : Addr} {odM1 anM1 : Option Addr} {slM1 : Array (Option Value)} {ocM1 kVM1 dcM1 pmM1 cdM1 ctM1 : Value} {pM1 : Addr} {rsM1 : List Value} {fM2 : Addr} {odM2 anM2 : Option Addr} {slM2 : Array (Option Value)} {ocM2 kVM2 dcM2 pmM2 cdM2 ctM2 : Value} {f0 : Addr} {od0 an0 : Option Addr} {sl0 : Array (Option Value)} {oc0 kV0 dc0 pm0 cd0 ct0 : Value} {f1 : Addr} {od1 an1 : Option Addr} {sl1 : Array (Option Value)} {oc1 kV1 dc1 pm1 cd1 ct1 : Value} {f2 : Addr} {od2 an2 : Option Addr} {sl2 : Array (Option Value)} {oc2 kV2 dc2 pm2 cd2 ct2 : Value} {f3 : Addr} {od3 an3 : Option Addr} {sl3 : Array (Option Value)} {oc3 kV3 dc3 pm3 cd3 ct3 : Value} {f4 : Addr} {od4 an4 : Option Addr} {sl4 : Array (Option Value)} {oc4 kV4 dc4 pm4 cd4 ct4 : Value} {f5 : Addr} {od5 an5 : Option Addr} {sl5 : Array (Option Value)} {oc5 kV5 dc5 pm5 cd5 ct5 : Value} {f6 : Addr} {od6 an6 : Option Addr} {sl6 : Array (Option Value)} {oc6 kV6 dc6 pm6 cd6 ct6 : Value} {f7 : Addr} {od7 an7 : Option Addr} {sl7 : Array (Option Value)} {oc7 kV7 dc7 pm7 cd7 ct7 : Value} {f8 : Addr} {od8 an8 : Option Addr} {sl8 : Array (Option Value)} {oc8 kV8 dc8 pm8 cd8 ct8 : Value} {f9 : Addr} {od9 an9 : Option Addr} {sl9 : Array (Option Value)} {oc9 kV9 dc9 pm9 cd9 ct9 : Value} {f10 : Addr} {od10 an10 : Option Addr} {sl10 : Array (Option Value)} {oc10 kV10 dc10 pm10 cd10 ct10 : Value} {f11 : Addr} {od11 an11 : Option Addr} {sl11 : Array (Option Value)} {oc11 kV11 dc11 pm11 cd11 ct11 : Value} {f12 : Addr} {od12 an12 : Option Addr} {sl12 : Array (Option Value)} {oc12 kV12 dc12 pm12 cd12 ct12 : Value} {f13 : Addr} {od13 an13 : Option Addr} {sl13 : Array (Option Value)} {oc13 kV13 dc13 pm13 cd13 ct13 : Value} {f14 : Addr} {od14 an14 : Option Addr} {sl14 : Array (Option Value)} {oc14 kV14 dc14 pm14 cd14 ct14 : Value} {f15 : Addr} {od15 an15 : Option Addr} {sl15 : Array (Option Value)} {oc15 kV15 dc15 pm15 cd15 ct15 : Value} {f16 : Addr} {od16 an16 : Option Addr} {sl16 : Array (Option Value)} {oc16 kV16 dc16 pm16 cd16 ct16 : Value} {f17 : Addr} {od17 an17 : Option Addr} {sl17 : Array (Option Value)} {oc17 kV17 dc17 pm17 cd17 ct17 : Value} {f18 : Addr} {od18 an18 : Option Addr} {sl18 : Array (Option Value)} {oc18 kV18 dc18 pm18 cd18 ct18 : Value} {f19 : Addr} {od19 an19 : Option Addr} {sl19 : Array (Option Value)} {oc19 kV19 dc19 pm19 cd19 ct19 : Value} {f20 : Addr} {od20 an20 : Option Addr} {sl20 : Array (Option Value)} {oc20 kV20 dc20 pm20 cd20 ct20 : Value} {f21 : Addr} {od21 an21 : Option Addr} {sl21 : Array (Option Value)} {oc21 kV21 dc21 pm21 cd21 ct21 : Value} {f22 : Addr} {od22 an22 : Option Addr} {sl22 : Array (Option Value)} {oc22 kV22 dc22 pm22 cd22 ct22 : Value} {f23 : Addr} {od23 an23 : Option Addr} {sl23 : Array (Option Value)} {oc23 kV23 dc23 pm23 cd23 ct23 : Value} {f24 : Addr} {od24 an24 : Option Addr} {sl24 : Array (Option Value)} {oc24 kV24 dc24 pm24 cd24 ct24 : Value} {f25 : Addr} {od25 an25 : Option Addr} {sl25 : Array (Option Value)} {oc25 kV25 dc25 pm25 cd25 ct25 : Value} {f26 : Addr} {od26 an26 : Option Addr} {sl26 : Array (Option Value)} {oc26 kV26 dc26 pm26 cd26 ct26 : Value} {f27 : Addr} {od27 an27 : Option Addr} {sl27 : Array (Option Value)} {oc27 kV27 dc27 pm27 cd27 ct27 : Value} {t0 : Tok} {t1 : Tok} {t2 : Tok} {t3 : Tok} {t4 : Tok}
    (aC : PySem.W.nsIn K mainGlobals "Web" = some (some (.ref C)))
    (aM0 : PySem.W.findIn K (.ref C) "__init__" = some (some (.ref fM0))) (iM0 : PySem.W.isFn K (.ref fM0) = true) (lM0 : K.lookup fM0 = some ⟨ocM0, odM0, .func (PySem.W.fnOf "__init__" "Web.__init__" (defArgs sWeb___init__) (defBody sWeb___init__) (defScope sWeb___init__) .none kVM0 dcM0 pmM0 anM0 cdM0 ctM0), slM0⟩) (cM0 : PySem.W.codeIn K cdM0 "Web.__init__" = true) (kM0 : PySem.W.keepIn K (.ref fM0) = true)
    (aM1 : PySem.W.findIn K (.ref C) "many" = some (some (.ref pM1))) (gM1 : PySem.W.specialIn K (.ref pM1) "__get__" = some (some (.builtin "property.__get__"))) (tM1 : PySem.W.takesIn K (.ref pM1) = some true) (rM1 : PySem.W.recIn K pM1 "property" = some (.ref fM1 :: rsM1)) (lM1 : K.lookup fM1 = some ⟨ocM1, odM1, .func (PySem.W.fnOf "many" "Web.many" (defArgs sWeb_many) (defBody sWeb_many) (defScope sWeb_many) .none kVM1 dcM1 pmM1 anM1 cdM1 ctM1), slM1⟩) (cM1 : PySem.W.codeIn K cdM1 "Web.many" = true) (kM1 : PySem.W.keepIn K (.ref fM1) = true)
    (aM2 : PySem.W.findIn K (.ref C) "ties" = some (some (.ref fM2))) (iM2 : PySem.W.isFn K (.ref fM2) = true) (lM2 : K.lookup fM2 = some ⟨ocM2, odM2, .func (PySem.W.fnOf "ties" "Web.ties" (defArgs sWeb_ties) (defBody sWeb_ties) (defScope sWeb_ties) .none kVM2 dcM2 pmM2 anM2 cdM2 ctM2), slM2⟩) (cM2 : PySem.W.codeIn K cdM2 "Web.ties" = true) (kM2 : PySem.W.keepIn K (.ref fM2) = true)
    (a0 : PySem.W.nsIn K mainGlobals "is_integer" = some (some (.ref f0))) (l0 : K.lookup f0 = some ⟨oc0, od0, .func (PySem.W.fnOf "is_integer" "is_integer" (defArgs sis_integer) (defBody sis_integer) (defScope sis_integer) .none kV0 dc0 pm0 an0 cd0 ct0), sl0⟩) (c0 : PySem.W.codeIn K cd0 "is_integer" = true) (k0 : PySem.W.keepIn K (.ref f0) = true)
    (a1 : PySem.W.nsIn K mainGlobals "is_count" = some (some (.ref f1))) (l1 : K.lookup f1 = some ⟨oc1, od1, .func (PySem.W.fnOf "is_count" "is_count" (defArgs sis_count) (defBody sis_count) (defScope sis_count) .none kV1 dc1 pm1 an1 cd1 ct1), sl1⟩) (c1 : PySem.W.codeIn K cd1 "is_count" = true) (k1 : PySem.W.keepIn K (.ref f1) = true)
    (a2 : PySem.W.nsIn K mainGlobals "is_between" = some (some (.ref f2))) (l2 : K.lookup f2 = some ⟨oc2, od2, .func (PySem.W.fnOf "is_between" "is_between" (defArgs sis_between) (defBody sis_between) (defScope sis_between) .none kV2 dc2 pm2 an2 cd2 ct2), sl2⟩) (c2 : PySem.W.codeIn K cd2 "is_between" = true) (k2 : PySem.W.keepIn K (.ref f2) = true)
    (a3 : PySem.W.nsIn K mainGlobals "is_below" = some (some (.ref f3))) (l3 : K.lookup f3 = some ⟨oc3, od3, .func (PySem.W.fnOf "is_below" "is_below" (defArgs sis_below) (defBody sis_below) (defScope sis_below) .none kV3 dc3 pm3 an3 cd3 ct3), sl3⟩) (c3 : PySem.W.codeIn K cd3 "is_below" = true) (k3 : PySem.W.keepIn K (.ref f3) = true)
    (a4 : PySem.W.nsIn K mainGlobals "is_listed" = some (some (.ref f4))) (l4 : K.lookup f4 = some ⟨oc4, od4, .func (PySem.W.fnOf "is_listed" "is_listed" (defArgs sis_listed) (defBody sis_listed) (defScope sis_listed) .none kV4 dc4 pm4 an4 cd4 ct4), sl4⟩) (c4 : PySem.W.codeIn K cd4 "is_listed" = true) (k4 : PySem.W.keepIn K (.ref f4) = true)
    (a5 : PySem.W.nsIn K mainGlobals "are_ties" = some (some (.ref f5))) (l5 : K.lookup f5 = some ⟨oc5, od5, .func (PySem.W.fnOf "are_ties" "are_ties" (defArgs sare_ties) (defBody sare_ties) (defScope sare_ties) .none kV5 dc5 pm5 an5 cd5 ct5), sl5⟩) (c5 : PySem.W.codeIn K cd5 "are_ties" = true) (k5 : PySem.W.keepIn K (.ref f5) = true)
    (a6 : PySem.W.nsIn K mainGlobals "need_web" = some (some (.ref f6))) (l6 : K.lookup f6 = some ⟨oc6, od6, .func (PySem.W.fnOf "need_web" "need_web" (defArgs sneed_web) (defBody sneed_web) (defScope sneed_web) .none kV6 dc6 pm6 an6 cd6 ct6), sl6⟩) (c6 : PySem.W.codeIn K cd6 "need_web" = true) (k6 : PySem.W.keepIn K (.ref f6) = true)
    (a7 : PySem.W.nsIn K mainGlobals "are_numbers" = some (some (.ref f7))) (l7 : K.lookup f7 = some ⟨oc7, od7, .func (PySem.W.fnOf "are_numbers" "are_numbers" (defArgs sare_numbers) (defBody sare_numbers) (defScope sare_numbers) .none kV7 dc7 pm7 an7 cd7 ct7), sl7⟩) (c7 : PySem.W.codeIn K cd7 "are_numbers" = true) (k7 : PySem.W.keepIn K (.ref f7) = true)
    (a8 : PySem.W.nsIn K mainGlobals "_go_on" = some (some (.ref f8))) (l8 : K.lookup f8 = some ⟨oc8, od8, .func (PySem.W.fnOf "_go_on" "_go_on" (defArgs s_go_on) (defBody s_go_on) (defScope s_go_on) .none kV8 dc8 pm8 an8 cd8 ct8), sl8⟩) (c8 : PySem.W.codeIn K cd8 "_go_on" = true) (k8 : PySem.W.keepIn K (.ref f8) = true)
    (a9 : PySem.W.nsIn K mainGlobals "is_round" = some (some (.ref f9))) (l9 : K.lookup f9 = some ⟨oc9, od9, .func (PySem.W.fnOf "is_round" "is_round" (defArgs sis_round) (defBody sis_round) (defScope sis_round) .none kV9 dc9 pm9 an9 cd9 ct9), sl9⟩) (c9 : PySem.W.codeIn K cd9 "is_round" = true) (k9 : PySem.W.keepIn K (.ref f9) = true)
    (a10 : PySem.W.nsIn K mainGlobals "need_tour" = some (some (.ref f10))) (l10 : K.lookup f10 = some ⟨oc10, od10, .func (PySem.W.fnOf "need_tour" "need_tour" (defArgs sneed_tour) (defBody sneed_tour) (defScope sneed_tour) .none kV10 dc10 pm10 an10 cd10 ct10), sl10⟩) (c10 : PySem.W.codeIn K cd10 "need_tour" = true) (k10 : PySem.W.keepIn K (.ref f10) = true)
    (a11 : PySem.W.nsIn K mainGlobals "_is_mate" = some (some (.ref f11))) (l11 : K.lookup f11 = some ⟨oc11, od11, .func (PySem.W.fnOf "_is_mate" "_is_mate" (defArgs s_is_mate) (defBody s_is_mate) (defScope s_is_mate) .none kV11 dc11 pm11 an11 cd11 ct11), sl11⟩) (c11 : PySem.W.codeIn K cd11 "_is_mate" = true) (k11 : PySem.W.keepIn K (.ref f11) = true)
    (a12 : PySem.W.nsIn K mainGlobals "_need_mates" = some (some (.ref f12))) (l12 : K.lookup f12 = some ⟨oc12, od12, .func (PySem.W.fnOf "_need_mates" "_need_mates" (defArgs s_need_mates) (defBody s_need_mates) (defScope s_need_mates) .none kV12 dc12 pm12 an12 cd12 ct12), sl12⟩) (c12 : PySem.W.codeIn K cd12 "_need_mates" = true) (k12 : PySem.W.keepIn K (.ref f12) = true)
    (a13 : PySem.W.nsIn K mainGlobals "_keeps" = some (some (.ref f13))) (l13 : K.lookup f13 = some ⟨oc13, od13, .func (PySem.W.fnOf "_keeps" "_keeps" (defArgs s_keeps) (defBody s_keeps) (defScope s_keeps) .none kV13 dc13 pm13 an13 cd13 ct13), sl13⟩) (c13 : PySem.W.codeIn K cd13 "_keeps" = true) (k13 : PySem.W.keepIn K (.ref f13) = true)
    (a14 : PySem.W.nsIn K mainGlobals "_broken" = some (some (.ref f14))) (l14 : K.lookup f14 = some ⟨oc14, od14, .func (PySem.W.fnOf "_broken" "_broken" (defArgs s_broken) (defBody s_broken) (defScope s_broken) .none kV14 dc14 pm14 an14 cd14 ct14), sl14⟩) (c14 : PySem.W.codeIn K cd14 "_broken" = true) (k14 : PySem.W.keepIn K (.ref f14) = true)
    (a15 : PySem.W.nsIn K mainGlobals "keeps_mate" = some (some (.ref f15))) (l15 : K.lookup f15 = some ⟨oc15, od15, .func (PySem.W.fnOf "keeps_mate" "keeps_mate" (defArgs skeeps_mate) (defBody skeeps_mate) (defScope skeeps_mate) .none kV15 dc15 pm15 an15 cd15 ct15), sl15⟩) (c15 : PySem.W.codeIn K cd15 "keeps_mate" = true) (k15 : PySem.W.keepIn K (.ref f15) = true)
    (a16 : PySem.W.nsIn K mainGlobals "broken_mates" = some (some (.ref f16))) (l16 : K.lookup f16 = some ⟨oc16, od16, .func (PySem.W.fnOf "broken_mates" "broken_mates" (defArgs sbroken_mates) (defBody sbroken_mates) (defScope sbroken_mates) .none kV16 dc16 pm16 an16 cd16 ct16), sl16⟩) (c16 : PySem.W.codeIn K cd16 "broken_mates" = true) (k16 : PySem.W.keepIn K (.ref f16) = true)
    (a17 : PySem.W.nsIn K mainGlobals "_law_pot" = some (some (.ref f17))) (l17 : K.lookup f17 = some ⟨oc17, od17, .func (PySem.W.fnOf "_law_pot" "_law_pot" (defArgs s_law_pot) (defBody s_law_pot) (defScope s_law_pot) .none kV17 dc17 pm17 an17 cd17 ct17), sl17⟩) (c17 : PySem.W.codeIn K cd17 "_law_pot" = true) (k17 : PySem.W.keepIn K (.ref f17) = true)
    (a18 : PySem.W.nsIn K mainGlobals "_law_draw" = some (some (.ref f18))) (l18 : K.lookup f18 = some ⟨oc18, od18, .func (PySem.W.fnOf "_law_draw" "_law_draw" (defArgs s_law_draw) (defBody s_law_draw) (defScope s_law_draw) .none kV18 dc18 pm18 an18 cd18 ct18), sl18⟩) (c18 : PySem.W.codeIn K cd18 "_law_draw" = true) (k18 : PySem.W.keepIn K (.ref f18) = true)
    (a19 : PySem.W.nsIn K mainGlobals "_law_pick" = some (some (.ref f19))) (l19 : K.lookup f19 = some ⟨oc19, od19, .func (PySem.W.fnOf "_law_pick" "_law_pick" (defArgs s_law_pick) (defBody s_law_pick) (defScope s_law_pick) .none kV19 dc19 pm19 an19 cd19 ct19), sl19⟩) (c19 : PySem.W.codeIn K cd19 "_law_pick" = true) (k19 : PySem.W.keepIn K (.ref f19) = true)
    (a20 : PySem.W.nsIn K mainGlobals "_law_close_web" = some (some (.ref f20))) (l20 : K.lookup f20 = some ⟨oc20, od20, .func (PySem.W.fnOf "_law_close_web" "_law_close_web" (defArgs s_law_close_web) (defBody s_law_close_web) (defScope s_law_close_web) .none kV20 dc20 pm20 an20 cd20 ct20), sl20⟩) (c20 : PySem.W.codeIn K cd20 "_law_close_web" = true) (k20 : PySem.W.keepIn K (.ref f20) = true)
    (a21 : PySem.W.nsIn K mainGlobals "_law_walk" = some (some (.ref f21))) (l21 : K.lookup f21 = some ⟨oc21, od21, .func (PySem.W.fnOf "_law_walk" "_law_walk" (defArgs s_law_walk) (defBody s_law_walk) (defScope s_law_walk) .none kV21 dc21 pm21 an21 cd21 ct21), sl21⟩) (c21 : PySem.W.codeIn K cd21 "_law_walk" = true) (k21 : PySem.W.keepIn K (.ref f21) = true)
    (a22 : PySem.W.nsIn K mainGlobals "_law_behind" = some (some (.ref f22))) (l22 : K.lookup f22 = some ⟨oc22, od22, .func (PySem.W.fnOf "_law_behind" "_law_behind" (defArgs s_law_behind) (defBody s_law_behind) (defScope s_law_behind) .none kV22 dc22 pm22 an22 cd22 ct22), sl22⟩) (c22 : PySem.W.codeIn K cd22 "_law_behind" = true) (k22 : PySem.W.keepIn K (.ref f22) = true)
    (a23 : PySem.W.nsIn K mainGlobals "_law_is_kept" = some (some (.ref f23))) (l23 : K.lookup f23 = some ⟨oc23, od23, .func (PySem.W.fnOf "_law_is_kept" "_law_is_kept" (defArgs s_law_is_kept) (defBody s_law_is_kept) (defScope s_law_is_kept) .none kV23 dc23 pm23 an23 cd23 ct23), sl23⟩) (c23 : PySem.W.codeIn K cd23 "_law_is_kept" = true) (k23 : PySem.W.keepIn K (.ref f23) = true)
    (a24 : PySem.W.nsIn K mainGlobals "_law_tour" = some (some (.ref f24))) (l24 : K.lookup f24 = some ⟨oc24, od24, .func (PySem.W.fnOf "_law_tour" "_law_tour" (defArgs s_law_tour) (defBody s_law_tour) (defScope s_law_tour) .none kV24 dc24 pm24 an24 cd24 ct24), sl24⟩) (c24 : PySem.W.codeIn K cd24 "_law_tour" = true) (k24 : PySem.W.keepIn K (.ref f24) = true)
    (a25 : PySem.W.nsIn K mainGlobals "_law_mate" = some (some (.ref f25))) (l25 : K.lookup f25 = some ⟨oc25, od25, .func (PySem.W.fnOf "_law_mate" "_law_mate" (defArgs s_law_mate) (defBody s_law_mate) (defScope s_law_mate) .none kV25 dc25 pm25 an25 cd25 ct25), sl25⟩) (c25 : PySem.W.codeIn K cd25 "_law_mate" = true) (k25 : PySem.W.keepIn K (.ref f25) = true)
    (a26 : PySem.W.nsIn K mainGlobals "_law_right" = some (some (.ref f26))) (l26 : K.lookup f26 = some ⟨oc26, od26, .func (PySem.W.fnOf "_law_right" "_law_right" (defArgs s_law_right) (defBody s_law_right) (defScope s_law_right) .none kV26 dc26 pm26 an26 cd26 ct26), sl26⟩) (c26 : PySem.W.codeIn K cd26 "_law_right" = true) (k26 : PySem.W.keepIn K (.ref f26) = true)
    (a27 : PySem.W.nsIn K mainGlobals "law" = some (some (.ref f27))) (l27 : K.lookup f27 = some ⟨oc27, od27, .func (PySem.W.fnOf "law" "law" (defArgs slaw) (defBody slaw) (defScope slaw) .none kV27 dc27 pm27 an27 cd27 ct27), sl27⟩) (c27 : PySem.W.codeIn K cd27 "law" = true) (k27 : PySem.W.keepIn K (.ref f27) = true)
    (pg : PySem.W.plainGet K C Str.empty = true) (hd : PySem.W.hasDictIn K C = true) (po : PySem.W.plainOver K C = true) (sa : PySem.W.findIn K (.ref C) "__setattr__" = some (some (.builtin "object.__setattr__"))) (mk : PySem.W.makesIn K C = true) (kc : PySem.W.keepIn K (.ref C) = true)
    (n0 : PySem.W.findIn K (.ref C) "_places" = some none)
    (n1 : PySem.W.findIn K (.ref C) "_ties" = some none)
    (n2 : PySem.W.findIn K (.ref C) "_ties_from" = some none)
    (n3 : PySem.W.findIn K (.ref C) "_ties_to" = some none)
    (q1 : PySem.W.findIn K (.ref C) "__class__" = some (some (.builtin "object.__class__"))) (q2 : PySem.W.specialIn K (.builtin "object.__class__") "__get__" = some (some (.builtin "getset_descriptor.__get__"))) (q3 : PySem.W.takesIn K (.builtin "object.__class__") = some true) (q4 : PySem.W.mroIn K C (.type "object") = some true)
    (w1 : PySem.W.findIn K (.ref C) "__ne__" = some (some (.builtin "object.__ne__")))
    (z0 : PySem.W.nsIn K mainGlobals "isinstance" = some none)
    (z1 : PySem.W.nsIn K mainGlobals "int" = some none)
    (z2 : PySem.W.nsIn K mainGlobals "bool" = some none)
    (z3 : PySem.W.nsIn K mainGlobals "list" = some none)
    (z4 : PySem.W.nsIn K mainGlobals "tuple" = some none)
    (z5 : PySem.W.nsIn K mainGlobals "len" = some none)
    (z6 : PySem.W.nsIn K mainGlobals "range" = some none)
    (z7 : PySem.W.nsIn K mainGlobals "abs" = some none)
    (z8 : PySem.W.nsIn K mainGlobals "max" = some none)
    (z9 : PySem.W.nsIn K mainGlobals "min" = some none)
    (z10 : PySem.W.nsIn K mainGlobals "divmod" = some none)
    (z11 : PySem.W.nsIn K mainGlobals "enumerate" = some none)
    (z12 : PySem.W.nsIn K mainGlobals "all" = some none)
    (z13 : PySem.W.nsIn K mainGlobals "any" = some none)
    (z14 : PySem.W.nsIn K mainGlobals "repr" = some none)
    (y0 : PySem.W.nsIn K mainGlobals "MOST_PLACES" = some (some (.int 60 t0)))
    (y1 : PySem.W.nsIn K mainGlobals "MOST_TIES" = some (some (.int 80 t1)))
    (y2 : PySem.W.nsIn K mainGlobals "LONGEST_ROUND" = some (some (.int 200000 t2)))
    (y3 : PySem.W.nsIn K mainGlobals "MOST_MATES" = some (some (.int 20 t3)))
    (y4 : PySem.W.nsIn K mainGlobals "MOST_APART" = some (some (.int 60 t4)))
    : ∃ fd : FuncData, (∀ (s : Shared) (v : Value), BindsTo s fd ⟨[v], []⟩ [("_law_script", v)]) ∧ ∀ base : Heap, K.In base → base.Ns mainGlobals mg → FnOk l.prog w K mg base CX0 10 fa fd ["_law_script"] (splaw K 0) := by
  have e := hfa.symm.trans (PySem.W.mg_of X G a27)
  cases e
  have B : Bs mg := ⟨PySem.W.mg_none_of X G z0, PySem.W.mg_none_of X G z1, PySem.W.mg_none_of X G z2, PySem.W.mg_none_of X G z3, PySem.W.mg_none_of X G z4, PySem.W.mg_none_of X G z5, PySem.W.mg_none_of X G z6, PySem.W.mg_none_of X G z7, PySem.W.mg_none_of X G z8, PySem.W.mg_none_of X G z9, PySem.W.mg_none_of X G z10, PySem.W.mg_none_of X G z11, PySem.W.mg_none_of X G z12, PySem.W.mg_none_of X G z13, PySem.W.mg_none_of X G z14⟩
  have Glb : Glo mg := ⟨⟨t0, PySem.W.mg_of X G y0⟩, ⟨t1, PySem.W.mg_of X G y1⟩, ⟨t2, PySem.W.mg_of X G y2⟩, ⟨t3, PySem.W.mg_of X G y3⟩, ⟨t4, PySem.W.mg_of X G y4⟩⟩
  have WK : WebK K mg C := ⟨⟨pg, hd, po, sa⟩, n0, n1, n2, n3, PySem.W.mg_of X G aC, q1, q2, q3, q4, (by unfold PySem.W.kitOne; exact if_pos (beq_self_eq_true _)), w1⟩
  have DWeb___init__ : DefI K C "__init__" "Web.__init__" sWeb___init__ ["self", "places", "ties"] := ⟨fM0, _, fun_mk (st := sWeb___init__) lM0 cM0 kM0, ⟨mk, aM0, iM0, kc⟩, (fun_mk (st := sWeb___init__) lM0 cM0 kM0).binds (ps := ["self", "places", "ties"]) fun _ _ _ _ _ _ us hl => match us, hl with | [_, _, _], _ => rfl⟩
  have DWeb_many : DefP K C "many" "Web.many" sWeb_many ["self"] := ⟨pM1, fM1, _, fun_mk (st := sWeb_many) lM1 cM1 kM1, ⟨aM1, gM1, tM1, _, rM1⟩, (fun_mk (st := sWeb_many) lM1 cM1 kM1).binds (ps := ["self"]) fun _ _ _ _ _ _ us hl => match us, hl with | [_], _ => rfl⟩
  have DWeb_ties : DefM K C "ties" "Web.ties" sWeb_ties ["self"] := ⟨fM2, _, fun_mk (st := sWeb_ties) lM2 cM2 kM2, ⟨aM2, iM2, kM2⟩, (fun_mk (st := sWeb_ties) lM2 cM2 kM2).binds (ps := ["self"]) fun _ _ _ _ _ _ us hl => match us, hl with | [_], _ => rfl⟩
  have Dis_integer : Def K mg "is_integer" sis_integer ["value"] := def_mk X G a0 l0 c0 k0 fun _ _ _ _ _ _ us hl => match us, hl with | [_], _ => rfl
  have Dis_count : Def K mg "is_count" sis_count ["value"] := def_mk X G a1 l1 c1 k1 fun _ _ _ _ _ _ us hl => match us, hl with | [_], _ => rfl
  have Dis_between : Def K mg "is_between" sis_between ["value", "least", "most"] := def_mk X G a2 l2 c2 k2 fun _ _ _ _ _ _ us hl => match us, hl with | [_, _, _], _ => rfl
  have Dis_below : Def K mg "is_below" sis_below ["value", "limit"] := def_mk X G a3 l3 c3 k3 fun _ _ _ _ _ _ us hl => match us, hl with | [_, _], _ => rfl
  have Dis_listed : Def K mg "is_listed" sis_listed ["value"] := def_mk X G a4 l4 c4 k4 fun _ _ _ _ _ _ us hl => match us, hl with | [_], _ => rfl
  have Dare_ties : Def K mg "are_ties" sare_ties ["places", "value"] := def_mk X G a5 l5 c5 k5 fun _ _ _ _ _ _ us hl => match us, hl with | [_, _], _ => rfl
  have Dneed_web : Def K mg "need_web" sneed_web ["web"] := def_mk X G a6 l6 c6 k6 fun _ _ _ _ _ _ us hl => match us, hl with | [_], _ => rfl
  have Dare_numbers : Def K mg "are_numbers" sare_numbers ["web", "value"] := def_mk X G a7 l7 c7 k7 fun _ _ _ _ _ _ us hl => match us, hl with | [_, _], _ => rfl
  have D_go_on : Def K mg "_go_on" s_go_on ["web", "value", "longest"] := def_mk X G a8 l8 c8 k8 fun _ _ _ _ _ _ us hl => match us, hl with | [_, _, _], _ => rfl
  have Dis_round : Def K mg "is_round" sis_round ["web", "value"] := def_mk X G a9 l9 c9 k9 fun _ _ _ _ _ _ us hl => match us, hl with | [_, _], _ => rfl
  have Dneed_tour : Def K mg "need_tour" sneed_tour ["web", "tour"] := def_mk X G a10 l10 c10 k10 fun _ _ _ _ _ _ us hl => match us, hl with | [_, _], _ => rfl
  have D_is_mate : Def K mg "_is_mate" s_is_mate ["web", "value"] := def_mk X G a11 l11 c11 k11 fun _ _ _ _ _ _ us hl => match us, hl with | [_, _], _ => rfl
  have D_need_mates : Def K mg "_need_mates" s_need_mates ["web", "mates"] := def_mk X G a12 l12 c12 k12 fun _ _ _ _ _ _ us hl => match us, hl with | [_, _], _ => rfl
  have D_keeps : Def K mg "_keeps" s_keeps ["tour", "mate"] := def_mk X G a13 l13 c13 k13 fun _ _ _ _ _ _ us hl => match us, hl with | [_, _], _ => rfl
  have D_broken : Def K mg "_broken" s_broken ["tour", "mates"] := def_mk X G a14 l14 c14 k14 fun _ _ _ _ _ _ us hl => match us, hl with | [_, _], _ => rfl
  have Dkeeps_mate : Def K mg "keeps_mate" skeeps_mate ["web", "tour", "mate"] := def_mk X G a15 l15 c15 k15 fun _ _ _ _ _ _ us hl => match us, hl with | [_, _, _], _ => rfl
  have Dbroken_mates : Def K mg "broken_mates" sbroken_mates ["web", "tour", "mates"] := def_mk X G a16 l16 c16 k16 fun _ _ _ _ _ _ us hl => match us, hl with | [_, _, _], _ => rfl
  have D_law_pot : Def K mg "_law_pot" s_law_pot ["_law_script", "_law_k"] := def_mk X G a17 l17 c17 k17 fun _ _ _ _ _ _ us hl => match us, hl with | [_, _], _ => rfl
  have D_law_draw : Def K mg "_law_draw" s_law_draw ["_law_pot_here", "_law_size"] := def_mk X G a18 l18 c18 k18 fun _ _ _ _ _ _ us hl => match us, hl with | [_, _], _ => rfl
  have D_law_pick : Def K mg "_law_pick" s_law_pick ["_law_pot_here", "_law_some"] := def_mk X G a19 l19 c19 k19 fun _ _ _ _ _ _ us hl => match us, hl with | [_, _], _ => rfl
  have D_law_close_web : Def K mg "_law_close_web" s_law_close_web ["_law_pot_here", "_law_places", "_law_more"] := def_mk X G a20 l20 c20 k20 fun _ _ _ _ _ _ us hl => match us, hl with | [_, _, _], _ => rfl
  have D_law_walk : Def K mg "_law_walk" s_law_walk ["_law_pot_here", "_law_ties", "_law_many"] := def_mk X G a21 l21 c21 k21 fun _ _ _ _ _ _ us hl => match us, hl with | [_, _, _], _ => rfl
  have D_law_behind : Def K mg "_law_behind" s_law_behind ["_law_tour_here", "_law_near", "_law_far"] := def_mk X G a22 l22 c22 k22 fun _ _ _ _ _ _ us hl => match us, hl with | [_, _, _], _ => rfl
  have D_law_is_kept : Def K mg "_law_is_kept" s_law_is_kept ["_law_tour_here", "_law_mate_here"] := def_mk X G a23 l23 c23 k23 fun _ _ _ _ _ _ us hl => match us, hl with | [_, _], _ => rfl
  have D_law_tour : Def K mg "_law_tour" s_law_tour ["_law_pot_here", "_law_ties", "_law_many"] := def_mk X G a24 l24 c24 k24 fun _ _ _ _ _ _ us hl => match us, hl with | [_, _, _], _ => rfl
  have D_law_mate : Def K mg "_law_mate" s_law_mate ["_law_pot_here", "_law_many"] := def_mk X G a25 l25 c25 k25 fun _ _ _ _ _ _ us hl => match us, hl with | [_, _], _ => rfl
  have D_law_right : Def K mg "_law_right" s_law_right ["_law_pot_here"] := def_mk X G a26 l26 c26 k26 fun _ _ _ _ _ _ us hl => match us, hl with | [_], _ => rfl
  have Dlaw : Def K mg "law" slaw ["_law_script"] := def_mk X G a27 l27 c27 k27 fun _ _ _ _ _ _ us hl => match us, hl with | [_], _ => rfl
  refine ⟨PySem.W.fnOf "law" "law" (defArgs slaw) (defBody slaw) (defScope slaw) .none kV27 dc27 pm27 an27 cd27 ct27, fun s v => .of_eq rfl, fun base _ _ => ?_⟩
  have H_law_draw := ok_law_draw (P := l.prog) (w := w) (base := base) D_law_draw B Glb WK
  have H_law_close_web := ok_law_close_web (P := l.prog) (w := w) (base := base) D_law_close_web B Glb WK H_law_draw
  have H_law_pick := ok_law_pick (P := l.prog) (w := w) (base := base) D_law_pick B Glb WK H_law_draw
  have H_law_walk := ok_law_walk (P := l.prog) (w := w) (base := base) D_law_walk B Glb WK H_law_draw H_law_pick
  have H_law_tour := ok_law_tour (P := l.prog) (w := w) (base := base) D_law_tour B Glb WK H_law_walk H_law_pick
  have Hneed_web := okneed_web (P := l.prog) (w := w) (base := base) Dneed_web B Glb WK
  have His_listed := okis_listed (P := l.prog) (w := w) (base := base) Dis_listed B Glb WK
  have His_integer := okis_integer (P := l.prog) (w := w) (base := base) Dis_integer B Glb WK
  have His_between := okis_between (P := l.prog) (w := w) (base := base) Dis_between B Glb WK His_integer
  have His_count := okis_count (P := l.prog) (w := w) (base := base) Dis_count B Glb WK His_integer
  have His_below := okis_below (P := l.prog) (w := w) (base := base) Dis_below B Glb WK His_count
  have HWeb_many := okWeb_many (P := l.prog) (w := w) (base := base) DWeb_many B Glb WK
  have Hare_numbers := okare_numbers (P := l.prog) (w := w) (base := base) Dare_numbers B Glb WK His_listed His_below HWeb_many
  have HWeb_ties := okWeb_ties (P := l.prog) (w := w) (base := base) DWeb_ties B Glb WK
  have H_go_on := ok_go_on (P := l.prog) (w := w) (base := base) D_go_on B Glb WK His_listed His_between Hare_numbers HWeb_ties
  have His_round := okis_round (P := l.prog) (w := w) (base := base) Dis_round B Glb WK Hneed_web H_go_on HWeb_ties
  have Hneed_tour := okneed_tour (P := l.prog) (w := w) (base := base) Dneed_tour B Glb WK His_round
  have H_is_mate := ok_is_mate (P := l.prog) (w := w) (base := base) D_is_mate B Glb WK His_between His_below HWeb_many
  have H_need_mates := ok_need_mates (P := l.prog) (w := w) (base := base) D_need_mates B Glb WK His_listed H_is_mate
  have H_keeps := ok_keeps (P := l.prog) (w := w) (base := base) D_keeps B Glb WK
  have H_broken := ok_broken (P := l.prog) (w := w) (base := base) D_broken B Glb WK H_keeps
  have Hbroken_mates := okbroken_mates (P := l.prog) (w := w) (base := base) Dbroken_mates B Glb WK Hneed_web Hneed_tour H_need_mates H_broken
  have Hkeeps_mate := okkeeps_mate (P := l.prog) (w := w) (base := base) Dkeeps_mate B Glb WK Hneed_web Hneed_tour H_keeps H_is_mate
  have H_law_mate := ok_law_mate (P := l.prog) (w := w) (base := base) D_law_mate B Glb WK H_law_pick H_law_draw
  have H_law_behind := ok_law_behind (P := l.prog) (w := w) (base := base) D_law_behind B Glb WK
  have H_law_is_kept := ok_law_is_kept (P := l.prog) (w := w) (base := base) D_law_is_kept B Glb WK H_law_behind
  have Hare_ties := okare_ties (P := l.prog) (w := w) (base := base) Dare_ties B Glb WK His_listed His_below
  have HWeb___init__ := okWeb___init__ (P := l.prog) (w := w) (base := base) DWeb___init__ B Glb WK His_between Hare_ties
  have H_law_right := ok_law_right (P := l.prog) (w := w) (base := base) D_law_right B Glb WK H_law_close_web H_law_draw H_law_tour Hbroken_mates Hkeeps_mate H_law_mate H_law_is_kept HWeb___init__
  have H_law_pot := ok_law_pot (P := l.prog) (w := w) (base := base) D_law_pot B Glb WK
  have Hlaw := oklaw (P := l.prog) (w := w) (base := base) Dlaw B Glb WK H_law_right H_law_pot
  obtain ⟨f, fd, O, m, k, b, F⟩ := Hlaw
  have e2 := m.symm.trans hfa
  cases e2
  rw [fd_is F l27] at O
  exact O
theorem walk {l : PySem.W.OpenLaw} {q : Program} {loose : List Str} {XP : (Str → Option Value) → Heap → Prop} {YP : World → Heap → Prop} {d : DefRec} {K : Params → PySem.W.Frag} (hn : l.most = some 63) (hdf : d.params.defaults = [])
    (hY : ∀ (w : World) (h : Heap), YP w h → (K w.params).In h)
    (F : ∀ (w : World) (mg : Str → Option Value) (fa : Addr) (h : Heap), (K w.params).In h → h.Ns mainGlobals mg → mg d.name = some (.ref fa) →
      ∃ fd : FuncData, (∀ (s : Shared) (u : Value), BindsTo s fd ⟨[u], []⟩ [("_law_script", u)]) ∧ ∀ base : Heap, (K w.params).In base → base.Ns mainGlobals mg → FnOk l.prog w (K w.params) mg base CX0 10 fa fd ["_law_script"] (splaw (K w.params) 0)) :
    PySem.W.WalkO q loose XP YP l.row.toRowW d [] (fun f vs => PySem.call f vs) :=
  L2.walk_of (n := 63) (k := 10) (x := "_law_script") (CX := fun _ => CX0) (sp := fun w => splaw (K w.params) 0) hn (by decide) hdf ⟨rfl, by decide, by decide⟩ hY F (fun _ _ a ns hl _ hS => ⟨a, ns, rfl, hS, hl, fun _ => rfl⟩) fun _ _ _ _ _ z => z
end My
open PySem PySem.W PyProof.Rows
set_option maxRecDepth 100000 in
set_option maxHeartbeats 0 in
theorem PySem.Challenge.cw_suretexts_k66_whole_mates_kept_holds : PySem.Challenge.rw_suretexts_k66_whole_mates_kept.Holds := by
  w_on; o_law; k_head; (case hw => w_witness2)
  k_fill
  refine My.walk (l := PySem.Challenge.rw_suretexts_k66_whole_mates_kept) rfl rfl (fun w h Y => PySem.W.kIn_of Y) ?F
  case F =>
    intro w mg fa h KX G hmg
    refine' My.all_mk KX G hmg ?aC ?aM0 ?iM0 ?lM0 ?cM0 ?kM0 ?aM1 ?gM1 ?tM1 ?rM1 ?lM1 ?cM1 ?kM1 ?aM2 ?iM2 ?lM2 ?cM2 ?kM2 ?a0 ?l0 ?c0 ?k0 ?a1 ?l1 ?c1 ?k1 ?a2 ?l2 ?c2 ?k2 ?a3 ?l3 ?c3 ?k3 ?a4 ?l4 ?c4 ?k4 ?a5 ?l5 ?c5 ?k5 ?a6 ?l6 ?c6 ?k6 ?a7 ?l7 ?c7 ?k7 ?a8 ?l8 ?c8 ?k8 ?a9 ?l9 ?c9 ?k9 ?a10 ?l10 ?c10 ?k10 ?a11 ?l11 ?c11 ?k11 ?a12 ?l12 ?c12 ?k12 ?a13 ?l13 ?c13 ?k13 ?a14 ?l14 ?c14 ?k14 ?a15 ?l15 ?c15 ?k15 ?a16 ?l16 ?c16 ?k16 ?a17 ?l17 ?c17 ?k17 ?a18 ?l18 ?c18 ?k18 ?a19 ?l19 ?c19 ?k19 ?a20 ?l20 ?c20 ?k20 ?a21 ?l21 ?c21 ?k21 ?a22 ?l22 ?c22 ?k22 ?a23 ?l23 ?c23 ?k23 ?a24 ?l24 ?c24 ?k24 ?a25 ?l25 ?c25 ?k25 ?a26 ?l26 ?c26 ?k26 ?a27 ?l27 ?c27 ?k27 ?pg ?hd ?po ?sa ?mk ?kc ?n0 ?n1 ?n2 ?n3 ?q1 ?q2 ?q3 ?q4 ?w1 ?z0 ?z1 ?z2 ?z3 ?z4 ?z5 ?z6 ?z7 ?z8 ?z9 ?z10 ?z11 ?z12 ?z13 ?z14 ?y0 ?y1 ?y2 ?y3 ?y4
    (case aC => k_is)
    (case aM0 => k_is)
    (case iM0 => k_is)
    (case lM0 => k_is)
    (case cM0 => k_is)
    (case kM0 => k_is)
    (case aM1 => k_is)
    (case gM1 => k_is)
    (case tM1 => k_is)
    (case rM1 => k_is)
    (case lM1 => k_is)
    (case cM1 => k_is)
    (case kM1 => k_is)
    (case aM2 => k_is)
    (case iM2 => k_is)
    (case lM2 => k_is)
    (case cM2 => k_is)
    (case kM2 => k_is)
    (case a0 => k_is)
    (case l0 => k_is)
    (case c0 => k_is)
    (case k0 => k_is)
    (case a1 => k_is)
    (case l1 => k_is)
    (case c1 => k_is)
    (case k1 => k_is)
    (case a2 => k_is)
    (case l2 => k_is)
    (case c2 => k_is)
    (case k2 => k_is)
    (case a3 => k_is)
    (case l3 => k_is)
    (case c3 => k_is)
    (case k3 => k_is)
    (case a4 => k_is)
    (case l4 => k_is)
    (case c4 => k_is)
    (case k4 => k_is)
    (case a5 => k_is)
    (case l5 => k_is)
    (case c5 => k_is)
    (case k5 => k_is)
    (case a6 => k_is)
    (case l6 => k_is)
    (case c6 => k_is)
    (case k6 => k_is)
    (case a7 => k_is)
    (case l7 => k_is)
    (case c7 => k_is)
    (case k7 => k_is)
    (case a8 => k_is)
    (case l8 => k_is)
    (case c8 => k_is)
    (case k8 => k_is)
    (case a9 => k_is)
    (case l9 => k_is)
    (case c9 => k_is)
    (case k9 => k_is)
    (case a10 => k_is)
    (case l10 => k_is)
    (case c10 => k_is)
    (case k10 => k_is)
    (case a11 => k_is)
    (case l11 => k_is)
    (case c11 => k_is)
    (case k11 => k_is)
    (case a12 => k_is)
    (case l12 => k_is)
    (case c12 => k_is)
    (case k12 => k_is)
    (case a13 => k_is)
    (case l13 => k_is)
    (case c13 => k_is)
    (case k13 => k_is)
    (case a14 => k_is)
    (case l14 => k_is)
    (case c14 => k_is)
    (case k14 => k_is)
    (case a15 => k_is)
    (case l15 => k_is)
    (case c15 => k_is)
    (case k15 => k_is)
    (case a16 => k_is)
    (case l16 => k_is)
    (case c16 => k_is)
    (case k16 => k_is)
    (case a17 => k_is)
    (case l17 => k_is)
    (case c17 => k_is)
    (case k17 => k_is)
    (case a18 => k_is)
    (case l18 => k_is)
    (case c18 => k_is)
    (case k18 => k_is)
    (case a19 => k_is)
    (case l19 => k_is)
    (case c19 => k_is)
    (case k19 => k_is)
    (case a20 => k_is)
    (case l20 => k_is)
    (case c20 => k_is)
    (case k20 => k_is)
    (case a21 => k_is)
    (case l21 => k_is)
    (case c21 => k_is)
    (case k21 => k_is)
    (case a22 => k_is)
    (case l22 => k_is)
    (case c22 => k_is)
    (case k22 => k_is)
    (case a23 => k_is)
    (case l23 => k_is)
    (case c23 => k_is)
    (case k23 => k_is)
    (case a24 => k_is)
    (case l24 => k_is)
    (case c24 => k_is)
    (case k24 => k_is)
    (case a25 => k_is)
    (case l25 => k_is)
    (case c25 => k_is)
    (case k25 => k_is)
    (case a26 => k_is)
    (case l26 => k_is)
    (case c26 => k_is)
    (case k26 => k_is)
    (case a27 => k_is)
    (case l27 => k_is)
    (case c27 => k_is)
    (case k27 => k_is)
    (case pg => k_is)
    (case hd => k_is)
    (case po => k_is)
    (case sa => k_is)
    (case mk => k_is)
    (case kc => k_is)
    (case n0 => k_is)
    (case n1 => k_is)
    (case n2 => k_is)
    (case n3 => k_is)
    (case q1 => k_is)
    (case q2 => k_is)
    (case q3 => k_is)
    (case q4 => k_is)
    (case w1 => k_is)
    (case z0 => k_is)
    (case z1 => k_is)
    (case z2 => k_is)
    (case z3 => k_is)
    (case z4 => k_is)
    (case z5 => k_is)
    (case z6 => k_is)
    (case z7 => k_is)
    (case z8 => k_is)
    (case z9 => k_is)
    (case z10 => k_is)
    (case z11 => k_is)
    (case z12 => k_is)
    (case z13 => k_is)
    (case z14 => k_is)
    (case y0 => k_is)
    (case y1 => k_is)
    (case y2 => k_is)
    (case y3 => k_is)
    (case y4 => k_is)
