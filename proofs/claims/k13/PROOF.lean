import PyProof.Rows.All
import Wide.All
import OpenK.AllK
import Wide.FinOn
import HandS.ForMost
import HandS.IsInst
import HandS.SortInts
import HandS.Walk
import HandS.Property
import HandS.Style
import HandS.DictTup
import KE.SortData
import KE.KDictWalk
import KE.DataMinMax
import PyProof.Rows.StrStep
import HandS.Set
import HandS.Strs
import PyProof.TupleOfSeq
import HandS.Text
import HandS.More
import PySem.Challenge.RW_suretexts_k13_whole_pieces_told
set_option Elab.async false
set_option maxRecDepth 100000
set_option linter.all false
namespace My
/-! ### reading round and round -/
def rd (l : List Nat) (p n : Nat) : List Nat := (List.range n).map fun k => l.getD ((p + k) % l.length) 0
theorem rd_len (l : List Nat) (p n : Nat) : (rd l p n).length = n := by simp [rd]
theorem rd_zero (l : List Nat) (p : Nat) : rd l p 0 = [] := rfl
theorem rd_succ (l : List Nat) (p n : Nat) : rd l p (n + 1) = rd l p n ++ [l.getD ((p + n) % l.length) 0] := by
  simp [rd, List.range_succ]
theorem rd_get (l : List Nat) (p n k : Nat) (h : k < n) : (rd l p n)[k]? = some (l.getD ((p + k) % l.length) 0) := by
  simp [rd, h]
theorem rd_drop (l : List Nat) (p n k : Nat) : (rd l p n).drop k = rd l (p + k) (n - k) := by
  apply List.ext_getElem?
  intro i
  rw [List.getElem?_drop]
  by_cases h : k + i < n
  · rw [rd_get _ _ _ _ h, rd_get _ _ _ _ (by omega), Nat.add_assoc]
  · rw [List.getElem?_eq_none (by rw [rd_len]; omega), List.getElem?_eq_none (by rw [rd_len]; omega)]
theorem rd_mod (l : List Nat) (p n : Nat) : rd l (p % l.length) n = rd l p n := by
  unfold rd
  apply List.map_congr_left
  intro k _
  rw [Nat.mod_add_mod]
theorem rd_self (l : List Nat) : rd l 0 l.length = l := by
  apply List.ext_getElem?
  intro i
  by_cases h : i < l.length
  · rw [rd_get _ _ _ _ h, Nat.zero_add, Nat.mod_eq_of_lt h, List.getElem?_eq_getElem h, List.getD_eq_getElem?_getD, List.getElem?_eq_getElem h]
    rfl
  · rw [List.getElem?_eq_none (by rw [rd_len]; omega), List.getElem?_eq_none (by omega)]
/-- turned -/
theorem rd_turn (l : List Nat) (p : Nat) (h : p < l.length) : rd l p l.length = l.drop p ++ l.take p := by
  apply List.ext_getElem?
  intro i
  by_cases hi : i < l.length
  · rw [rd_get _ _ _ _ hi]
    by_cases h2 : i < l.length - p
    · rw [List.getElem?_append_left (by rw [List.length_drop]; exact h2), List.getElem?_drop, Nat.mod_eq_of_lt (by omega), List.getElem?_eq_getElem (by omega), List.getD_eq_getElem?_getD, List.getElem?_eq_getElem (by omega)]
      rfl
    · rw [List.getElem?_append_right (by rw [List.length_drop]; omega), List.length_drop, List.getElem?_take_of_lt (by omega)]
      have e : (p + i) % l.length = i - (l.length - p) := by
        rw [Nat.mod_eq_sub_mod (by omega), Nat.mod_eq_of_lt (by omega)]
        omega
      rw [e, List.getElem?_eq_getElem (by omega), List.getD_eq_getElem?_getD, List.getElem?_eq_getElem (by omega)]
      rfl
  · rw [List.getElem?_eq_none (by rw [rd_len]; omega), List.getElem?_eq_none (by rw [List.length_append, List.length_drop, List.length_take]; omega)]
/-- reading from a turned ring -/
theorem rd_turned (l : List Nat) (b p n : Nat) (hl : 0 < l.length) : rd (rd l b l.length) p n = rd l (b + p) n := by
  unfold rd
  apply List.map_congr_left
  intro k _
  have e : ((List.range l.length).map fun k => l.getD ((b + k) % l.length) 0).length = l.length := by simp
  rw [e]
  have h2 : (p + k) % l.length < l.length := Nat.mod_lt _ hl
  rw [List.getD_eq_getElem?_getD, List.getElem?_map, List.getElem?_range h2]
  show l.getD ((b + (p + k) % l.length) % l.length) 0 = _
  rw [Nat.add_mod_mod, Nat.add_assoc]

/-! ### beginnings that are endings -/
def Pre (w t : List Nat) (k : Nat) : Prop := k ≤ w.length ∧ w.take k <:+ t
def Longest (w t : List Nat) (k : Nat) : Prop := Pre w t k ∧ ∀ k', Pre w t k' → k' ≤ k
def IsLB (p : List Nat) (b : Nat) : Prop := b < p.length ∧ p.take b <:+ p ∧ ∀ b', b' < p.length → p.take b' <:+ p → b' ≤ b
def At (w t : List Nat) (c k : Nat) : Prop := Pre w t k ∧ ∀ k', Pre w t k' → w[k']? = some c → k' ≤ k
theorem suff_one {a t : List Nat} {x c : Nat} : a ++ [x] <:+ t ++ [c] ↔ a <:+ t ∧ x = c := by
  constructor
  · rintro ⟨u, hu⟩
    rw [← List.append_assoc] at hu
    have h := List.append_inj' hu rfl
    exact ⟨⟨u, h.1⟩, by simpa using h.2⟩
  · rintro ⟨⟨u, hu⟩, rfl⟩
    exact ⟨u, by rw [← hu, List.append_assoc]⟩
theorem pre_succ {w t : List Nat} {c k : Nat} : Pre w (t ++ [c]) (k + 1) ↔ Pre w t k ∧ w[k]? = some c := by
  unfold Pre
  constructor
  · rintro ⟨h1, h2⟩
    have hk : k < w.length := by omega
    rw [List.take_succ_eq_append_getElem hk, suff_one] at h2
    exact ⟨⟨by omega, h2.1⟩, by rw [List.getElem?_eq_getElem hk, h2.2]⟩
  · rintro ⟨⟨h1, h2⟩, h3⟩
    have hk : k < w.length := by
      rw [List.getElem?_eq_some_iff] at h3
      exact h3.1
    rw [List.take_succ_eq_append_getElem hk, suff_one]
    rw [List.getElem?_eq_getElem hk] at h3
    exact ⟨by omega, h2, Option.some.inj h3⟩
theorem pre_zero (w t : List Nat) : Pre w t 0 := ⟨Nat.zero_le _, by simp⟩
theorem at_start {w t : List Nat} {c k : Nat} (h : Longest w t k) : At w t c k := ⟨h.1, fun k' h' _ => h.2 k' h'⟩
theorem at_fall {w t : List Nat} {c k b : Nat} (h : At w t c k) (hne : w[k]? ≠ some c) (hb : IsLB (w.take k) b) : At w t c b := by
  obtain ⟨h1, h2⟩ := h
  obtain ⟨b1, b2, b3⟩ := hb
  have lk : (w.take k).length = k := by rw [List.length_take]; have := h1.1; omega
  rw [lk] at b1 b3
  have tk : ∀ j, j ≤ k → (w.take k).take j = w.take j := fun j hj => by rw [List.take_take, Nat.min_eq_left hj]
  refine ⟨⟨by have := h1.1; omega, ?_⟩, fun k' p' e' => ?_⟩
  · rw [← tk b (by omega)]
    exact b2.trans h1.2
  · have l1 := h2 k' p' e'
    have l2 : k' ≠ k := by rintro rfl; exact hne e'
    have l3 : k' < k := by omega
    refine b3 k' l3 ?_
    rw [tk k' (by omega)]
    refine List.suffix_of_suffix_length_le p'.2 h1.2 ?_
    rw [List.length_take, List.length_take]
    have := h1.1
    omega
theorem at_hit {w t : List Nat} {c k : Nat} (h : At w t c k) (he : w[k]? = some c) : Longest w (t ++ [c]) (k + 1) := by
  refine ⟨pre_succ.mpr ⟨h.1, he⟩, fun k' p' => ?_⟩
  cases k' with
  | zero => omega
  | succ j =>
    have q := pre_succ.mp p'
    have := h.2 j q.1 q.2
    omega
theorem at_miss {w t : List Nat} {c : Nat} (h : At w t c 0) (he : w[0]? ≠ some c) : Longest w (t ++ [c]) 0 := by
  refine ⟨pre_zero _ _, fun k' p' => ?_⟩
  cases k' with
  | zero => omega
  | succ j =>
    have q := pre_succ.mp p'
    have l := h.2 j q.1 q.2
    have e : j = 0 := by omega
    subst e
    exact absurd q.2 he
theorem longest_nil (w : List Nat) : Longest w [] 0 := by
  refine ⟨pre_zero _ _, fun k' p' => ?_⟩
  have h := List.suffix_nil.mp p'.2
  have h2 : (w.take k').length = 0 := by rw [h]; rfl
  rw [List.length_take] at h2
  have := p'.1
  omega
theorem longest_le {w t : List Nat} {k : Nat} (h : Longest w t k) : k ≤ t.length := by
  have h1 := h.1.2.length_le
  rw [List.length_take] at h1
  have := h.1.1
  omega
/-- the longest beginning that ends the letters behind the first one is the longest border -/
theorem lb_of_longest {w : List Nat} {i k : Nat} (hi : i < w.length) (h : Longest w ((w.drop 1).take i) k) : IsLB (w.take (i + 1)) k := by
  have hk := longest_le h
  have ht : ((w.drop 1).take i).length = i := by rw [List.length_take, List.length_drop]; omega
  rw [ht] at hk
  have hl : (w.take (i + 1)).length = i + 1 := by rw [List.length_take]; omega
  have tk : ∀ j, j ≤ i + 1 → (w.take (i + 1)).take j = w.take j := fun j hj => by rw [List.take_take, Nat.min_eq_left hj]
  obtain ⟨a, r, rfl⟩ : ∃ a r, w = a :: r := by
    cases w with
    | nil => simp at hi
    | cons a r => exact ⟨a, r, rfl⟩
  have e : (a :: r).take (i + 1) = a :: ((a :: r).drop 1).take i := by simp
  refine ⟨by omega, ?_, fun b' hb' hs => ?_⟩
  · rw [tk k (by omega), e]
    exact h.1.2.trans (List.suffix_cons _ _)
  · rw [hl] at hb'
    refine h.2 b' ⟨by omega, ?_⟩
    rw [tk b' (by omega), e, List.suffix_cons_iff] at hs
    rcases hs with hs | hs
    · have hq := congrArg List.length hs
      rw [List.length_take, ← e, hl] at hq
      omega
    · exact hs
theorem lb_one {w : List Nat} (h : 0 < w.length) : IsLB (w.take 1) 0 := lb_of_longest h (by simpa using longest_nil w)
theorem lb_unique {p : List Nat} {a b : Nat} (h1 : IsLB p a) (h2 : IsLB p b) : a = b := by
  have := h1.2.2 b h2.1 h2.2.1
  have := h2.2.2 a h1.1 h1.2.1
  omega
/-- the list of the longest borders -/
def Bords (w : List Nat) (L : List Nat) : Prop := L.length = w.length ∧ ∀ j, j < w.length → ∃ b, L[j]? = some b ∧ IsLB (w.take (j + 1)) b
theorem bords_unique {w A B : List Nat} (h1 : Bords w A) (h2 : Bords w B) : A = B := by
  apply List.ext_getElem?
  intro i
  by_cases h : i < w.length
  · obtain ⟨a, ea, la⟩ := h1.2 i h
    obtain ⟨b, eb, lb⟩ := h2.2 i h
    rw [ea, eb, lb_unique la lb]
  · rw [List.getElem?_eq_none (by rw [h1.1]; omega), List.getElem?_eq_none (by rw [h2.1]; omega)]
/-- some first ones of them -/
def BordsTo (w : List Nat) (n : Nat) (L : List Nat) : Prop := L.length = n ∧ ∀ j, j < n → ∃ b, L[j]? = some b ∧ IsLB (w.take (j + 1)) b
theorem bordsTo_one {w : List Nat} (h : 0 < w.length) : BordsTo w 1 [0] := by
  refine ⟨rfl, fun j hj => ?_⟩
  have e : j = 0 := by omega
  subst e
  exact ⟨0, rfl, lb_one h⟩
theorem bordsTo_succ {w L : List Nat} {i k : Nat} (hi : i < w.length) (hB : BordsTo w i L) (h : Longest w ((w.drop 1).take i) k) : BordsTo w (i + 1) (L ++ [k]) := by
  refine ⟨by rw [List.length_append, hB.1]; rfl, fun j hj => ?_⟩
  by_cases hji : j < i
  · obtain ⟨b, e, l⟩ := hB.2 j hji
    exact ⟨b, by rw [List.getElem?_append_left (by rw [hB.1]; exact hji)]; exact e, l⟩
  · have e : j = i := by omega
    subst e
    refine ⟨k, ?_, lb_of_longest hi h⟩
    rw [List.getElem?_append_right (by rw [hB.1]; omega), hB.1, Nat.sub_self]
    rfl
theorem bordsTo_at {w L : List Nat} {n k : Nat} (hB : BordsTo w n L) (h0 : 0 < k) (hk : k ≤ n) : ∃ b, L[k - 1]? = some b ∧ IsLB (w.take k) b ∧ b < k := by
  obtain ⟨b, e, l⟩ := hB.2 (k - 1) (by omega)
  rw [show k - 1 + 1 = k by omega] at l
  refine ⟨b, e, l, ?_⟩
  have := l.1
  rw [List.length_take] at this
  omega
theorem bords_of {w L : List Nat} : BordsTo w w.length L ↔ Bords w L := Iff.rfl

/-! ### a word begins at a place -/
def due (l w : List Nat) : List Nat := (List.range l.length).filter fun p => rd l p w.length == w
theorem mem_due {l w : List Nat} {p : Nat} : p ∈ due l w ↔ p < l.length ∧ rd l p w.length = w := by
  simp [due]
/-- of the first n letters read -/
def dueTo (l w : List Nat) (n : Nat) : List Nat := (List.range n).filter fun p => rd l p w.length == w
theorem dueTo_all (l w : List Nat) : dueTo l w l.length = due l w := rfl
theorem dueTo_succ_yes {l w : List Nat} {n : Nat} (h : rd l n w.length = w) : dueTo l w (n + 1) = dueTo l w n ++ [n] := by
  simp [dueTo, List.range_succ, List.filter_append, h]
theorem dueTo_succ_no {l w : List Nat} {n : Nat} (h : ¬ rd l n w.length = w) : dueTo l w (n + 1) = dueTo l w n := by
  simp [dueTo, List.range_succ, List.filter_append, h]
/-- the whole word was just read -/
theorem longest_full {l w : List Nat} {n k : Nat} (h : Longest w (rd l 0 n) k) : k = w.length ↔ w.length ≤ n ∧ rd l (n - w.length) w.length = w := by
  have key : w <:+ rd l 0 n ↔ w.length ≤ n ∧ rd l (n - w.length) w.length = w := by
    constructor
    · intro hs
      have hl := hs.length_le
      rw [rd_len] at hl
      refine ⟨hl, ?_⟩
      have e := List.suffix_iff_eq_drop.mp hs
      rw [rd_len, rd_drop, Nat.zero_add, show n - (n - w.length) = w.length by omega] at e
      exact e.symm
    · rintro ⟨hl, e⟩
      rw [List.suffix_iff_eq_drop, rd_len, rd_drop, Nat.zero_add, show n - (n - w.length) = w.length by omega]
      exact e.symm
  rw [← key]
  constructor
  · rintro rfl
    have := h.1.2
    rw [List.take_length] at this
    exact this
  · intro hs
    have h1 := h.1.1
    have h2 := h.2 w.length ⟨Nat.le_refl _, by rw [List.take_length]; exact hs⟩
    omega

/-! ### the period -/
theorem getD_lt {l : List Nat} {i : Nat} (h : i < l.length) : l[i]? = some (l.getD i 0) := by
  rw [List.getD_eq_getElem?_getD, List.getElem?_eq_getElem h]
  rfl
theorem line_period {l : List Nat} {b : Nat} (h : IsLB l b) (i : Nat) (hi : i + (l.length - b) < l.length) : l.getD (i + (l.length - b)) 0 = l.getD i 0 := by
  have hb := h.1
  have e := List.suffix_iff_eq_drop.mp h.2.1
  have hl : (l.take b).length = b := by rw [List.length_take]; omega
  rw [hl] at e
  have e2 := congrArg (fun z : List Nat => z[i]?) e
  simp only [List.getElem?_take, List.getElem?_drop] at e2
  rw [if_pos (by omega)] at e2
  rw [List.getD_eq_getElem?_getD, List.getD_eq_getElem?_getD, e2, Nat.add_comm]
theorem line_mult {l : List Nat} {s : Nat} (h : ∀ i, i + s < l.length → l.getD (i + s) 0 = l.getD i 0) : ∀ (m i : Nat), i + m * s < l.length → l.getD (i + m * s) 0 = l.getD i 0
  | 0, i, _ => by simp
  | m + 1, i, hi => by
    have e : i + (m + 1) * s = (i + m * s) + s := by rw [Nat.succ_mul]; omega
    rw [e] at hi ⊢
    rw [h _ hi]
    exact line_mult h m i (by omega)
theorem round_period {l : List Nat} {s : Nat} (_hs : 0 < s) (hsl : s ≤ l.length) (hd : l.length % s = 0) (h : ∀ i, i + s < l.length → l.getD (i + s) 0 = l.getD i 0) (i : Nat) (hi : i < l.length) : l.getD ((i + s) % l.length) 0 = l.getD i 0 := by
  by_cases hlt : i + s < l.length
  · rw [Nat.mod_eq_of_lt hlt]
    exact h i hlt
  · have e1 : (i + s) % l.length = i + s - l.length := by
      rw [Nat.mod_eq_sub_mod (by omega), Nat.mod_eq_of_lt (by omega)]
    rw [e1]
    obtain ⟨q, hq⟩ : ∃ q, l.length = s * q := ⟨l.length / s, by rw [Nat.mul_div_cancel' (Nat.dvd_of_mod_eq_zero hd)]⟩
    have hq0 : 0 < q := by
      rcases Nat.eq_zero_or_pos q with z | z
      · subst z; omega
      · exact z
    obtain ⟨r, rfl⟩ : ∃ r, q = r + 1 := ⟨q - 1, by omega⟩
    have e2 : l.length = r * s + s := by rw [hq, Nat.mul_succ, Nat.mul_comm]
    have e3 : i = (i + s - l.length) + r * s := by omega
    have := line_mult h r (i + s - l.length) (by omega)
    rw [← e3] at this
    exact this.symm
/-- the told period -/
def per (l : List Nat) (b : Nat) : Nat := if l.length % (l.length - b) = 0 then l.length - b else l.length
theorem per_turns {l : List Nat} {b : Nat} (h : IsLB l b) (i : Nat) (hi : i < l.length) : l.getD ((i + per l b) % l.length) 0 = l.getD i 0 := by
  have hb := h.1
  unfold per
  split
  · exact round_period (by omega) (by omega) (by assumption) (fun j hj => line_period h j hj) i hi
  · rw [Nat.add_mod_right, Nat.mod_eq_of_lt hi]
theorem rd_per {l : List Nat} {b : Nat} (h : IsLB l b) (p n : Nat) : rd l (p + per l b) n = rd l p n := by
  have hb := h.1
  unfold rd
  apply List.map_congr_left
  intro k _
  rw [show p + per l b + k = (p + k) + per l b by omega, ← Nat.mod_add_mod]
  rw [per_turns h ((p + k) % l.length) (Nat.mod_lt _ (by omega))]
theorem per_pos {l : List Nat} {b : Nat} (h : IsLB l b) : 0 < per l b ∧ per l b ≤ l.length := by
  have hb := h.1
  unfold per
  split <;> omega

/-! ### rising lists of the same numbers are one list -/
theorem rising_ext : ∀ {a b : List Int}, a.Pairwise (· < ·) → b.Pairwise (· < ·) → (∀ x, x ∈ a ↔ x ∈ b) → a = b
  | [], [], _, _, _ => rfl
  | [], y :: ys, _, _, h => by have := (h y).mpr (by simp); simp at this
  | x :: xs, [], _, _, h => by have := (h x).mp (by simp); simp at this
  | x :: xs, y :: ys, ha, hb, h => by
    rw [List.pairwise_cons] at ha hb
    have e : x = y := by
      have h1 := (h x).mp (by simp)
      have h2 := (h y).mpr (by simp)
      rw [List.mem_cons] at h1 h2
      rcases h1 with h1 | h1
      · exact h1
      · rcases h2 with h2 | h2
        · exact h2.symm
        · have := ha.1 y h2
          have := hb.1 x h1
          omega
    subst e
    congr 1
    refine rising_ext ha.2 hb.2 fun z => ?_
    constructor
    · intro hz
      have := (h z).mp (List.mem_cons_of_mem _ hz)
      rw [List.mem_cons] at this
      rcases this with rfl | this
      · have := ha.1 _ hz; omega
      · exact this
    · intro hz
      have := (h z).mpr (List.mem_cons_of_mem _ hz)
      rw [List.mem_cons] at this
      rcases this with rfl | this
      · have := hb.1 _ hz; omega
      · exact this
theorem rising_of {s : List Int} (h : s.Pairwise (· ≤ ·)) (n : s.Nodup) : s.Pairwise (· < ·) := by
  have := h.and n
  exact this.imp fun ⟨h1, h2⟩ => by omega
/-- sorted, and the same numbers, none twice: that is it -/
theorem sorted_is {s m d : List Int} (hp : List.Perm s m) (hs : s.Pairwise (· ≤ ·)) (hn : m.Nodup) (hd : d.Pairwise (· < ·)) (h : ∀ x, x ∈ m ↔ x ∈ d) : s = d := by
  refine rising_ext (rising_of hs (hp.nodup_iff.mpr hn)) hd fun x => ?_
  rw [hp.mem_iff]
  exact h x
theorem due_rising (l w : List Nat) : ((due l w).map fun n : Nat => (n : Int)).Pairwise (· < ·) := by
  rw [List.pairwise_map]
  refine List.Pairwise.imp (fun {a b} (h : a < b) => by omega) ?_
  exact List.Pairwise.filter _ List.pairwise_lt_range
end My
namespace My
open PySem L2 PyProof.Rows
/-- a text by its letters -/
abbrev T (l : List Nat) : V := .str ⟨l.toArray⟩
section
variable {X : Cx}
theorem mul_flat (l : List Nat) (n : Nat) : ((List.replicate n l.toArray).foldl (· ++ ·) (#[] : Array Nat)) = (List.replicate n l).flatten.toArray := by
  have h : ∀ (m : Nat) (acc : List Nat), (List.replicate m l.toArray).foldl (· ++ ·) acc.toArray = (acc ++ (List.replicate m l).flatten).toArray := by
    intro m
    induction m with
    | zero => intro acc; simp
    | succ m ih =>
      intro acc
      rw [List.replicate_succ, List.foldl_cons]
      have e : acc.toArray ++ l.toArray = (acc ++ l).toArray := by simp
      rw [e, ih, List.replicate_succ, List.flatten_cons, List.append_assoc]
  have := h n []
  simpa using this
theorem op_mul_str : OpR X (binaryOp .Mult) (fun x y H Q => ∃ l n, x = T l ∧ y = .int (n : Nat) ∧ 1 ≤ n ∧ n ≤ 1000 ∧ l.length ≤ 1000 ∧ Q (T (List.replicate n l).flatten) H) := by
  intro pins s σ H x y v u Q I rx ry h
  obtain ⟨l, n, rfl, rfl, h1, h2, h3, q⟩ := h
  obtain ⟨t, rfl⟩ := rx
  obtain ⟨t', rfl⟩ := ry
  have hlen : (⟨l.toArray⟩ : Str).length = l.length := by simp [Str.length]
  have ok : MulOk ⟨l.toArray⟩ (n : Int) := by
    refine ⟨?_, fun _ _ => ?_, fun _ _ => ?_⟩
    · have a1 : decide ((n : Int) < -(2 ^ 63 : Int)) = false := decide_eq_false (by omega)
      have a2 : decide ((n : Int) ≥ 2 ^ 63) = false := decide_eq_false (by omega)
      rw [a1, a2]
      rfl
    · rw [hlen]
      have : (1000000 : Int) ≤ (2 ^ 63 - 1) / (n : Int) := by
        rw [Int.le_ediv_iff_mul_le (by omega)]
        omega
      omega
    · rw [hlen]
      have e : (n : Int).toNat = n := by omega
      rw [e]
      have : l.length * n ≤ 1000 * 1000 := Nat.mul_le_mul h3 h2
      have z : (1000000 : Nat) ≤ sizeLine := by decide
      simp [Builtin.Str.tooLong]
      omega
  refine SB.mul ok fun t'' k => ?_
  have em : Txt.mul ⟨l.toArray⟩ (n : Int) = ⟨(List.replicate n l).flatten.toArray⟩ := by
    unfold Txt.mul
    rw [if_neg (by omega)]
    split
    · rename_i c
      rw [hlen] at c
      simp at c
      rcases c with c | c
      · have : n = 1 := by omega
        subst this
        simp
      · subst c
        simp
    · have e : (n : Int).toNat = n := by omega
      rw [e]
      exact congrArg Str.mk (mul_flat l n)
  rw [em]
  exact ⟨.str _, H, I.tok _, ⟨_, rfl⟩, q⟩
theorem call_repr_bl : CallR X (.builtin "repr") (fun xs H Q => ∃ b, xs = [.bl b] ∧ Q (.str (if b then "True" else "False")) H) := by
  intro pins s σ H xs us Q I r h
  obtain ⟨b, rfl, q⟩ := h
  obtain ⟨u, rfl, e⟩ := vals1 r
  cases e
  exact PySem.P.repr_of_bool ⟨.str _, H, I.tok _, ⟨_, rfl⟩, q⟩
/-- a module's constant that is an int -/
theorem pe_globI {x : Str} {n : Int} {pos : Pos} (h : ∃ t, X.mg x = some (.int n t)) (hg : Gl X x := by rfl) (hd : (x == ("__debug__" : Str)) = false := by decide) : PE X (.Name x pos) (tC (.int n)) := by
  obtain ⟨t, e⟩ := h
  exact pe_glob (v := .int n) hg e ⟨t, rfl⟩ hd
variable {CX : CXT} {k : Nat} {f : Addr} {fd : FuncData} {ps ks : List Str} {sp : Sp} {E : XK} {x : Str} {p pos : Pos} {kws : List Keyword} {tk : TA} {g : List Value → List Value → List Value} {gV : List V → List V → List V}
/-- f(a=.., b=..) -/
theorem pe_callKK (F : FnOk X.prog X.w X.K X.mg X.base CX k f fd ps sp) (hr : Room k X.A) (hg : Gl X x) (hm : X.mg x = some (.ref f)) (hk : PySem.W.keepIn X.K (.ref f) = true) (hb : KBinds X.K fd ps ks g gV) (hx : Passes CX X E)
    (hkw : PK X kws tk) (hall : (backToKw pos (keywordEach kws X.env)).all (·.1.isSome) = true := by rfl) (hks : (backToKw pos (keywordEach kws X.env)).filterMap (·.1) = ks := by rfl)
    (hdb : (x == ("__debug__" : Str)) = false := by decide)
    (hpl : ((backTo pos (starEach [] X.env)).any (·.1) || (backToKw pos (keywordEach kws X.env)).any (·.1.isNone)) = false := by rfl) :
    PE X (.Call (.Name x p) [] kws pos) (tCallK sp gV E tNil tk) := by
  refine ⟨fun pins s σ H Q I h => ?_⟩
  refine wpAny_Call_Name_kw (ld_glob I hg hm ?_ hdb)
  refine PySem.W.callWith_KW0 (h₀ := X.base) I.ok.mod.kin hk hall (thn (hkw.run pos pins s σ H _ I h) fun ws s2 ⟨zs, H2, I2, rz, q2⟩ => ⟨I2.kIn, ?_⟩) hpl
  rw [hks]
  exact run_fnk F hr hb hx I2 .nil rz q2
end
/-! ### a def that stands, and one that keeps a promise -/
def Def (K : PySem.W.Frag) (mg : Str → Option Value) (x : Str) (st : Stmt) (ps : List Str) : Prop := ∃ (f : Addr) (fd : FuncData), Fun K x x st f fd ∧ mg x = some (.ref f) ∧ Binds K fd ps []
section
variable {P : Program} {w : World} {K : PySem.W.Frag} {mg : Str → Option Value} {base : Heap}
def Good (P : Program) (w : World) (K : PySem.W.Frag) (mg : Str → Option Value) (base : Heap) (x : Str) (st : Stmt) (ps : List Str) (k : Nat) (sp : Sp) : Prop := ∃ (f : Addr) (fd : FuncData), FnOk P w K mg base CX0 k f fd ps sp ∧ mg x = some (.ref f) ∧ PySem.W.keepIn K (.ref f) = true ∧ Binds K fd ps [] ∧ Fun K x x st f fd
theorem Def.good {x : Str} {st : Stmt} {ps : List Str} {k : Nat} {sp : Sp} (D : Def K mg x st ps) (h : ∀ f fd, Fun K x x st f fd → FnOk P w K mg base CX0 k f fd ps sp) : Good P w K mg base x st ps k sp := by
  obtain ⟨f, fd, F, m, b⟩ := D
  exact ⟨f, fd, h f fd F, m, F.kp, b, F⟩
theorem def_mk {h : Heap} (X : K.In h) (G : h.Ns mainGlobals mg) {x : Str} {st : Stmt} {ps : List Str} {f : Addr} {oc : Value} {od an : Option Addr} {osl : Array (Option Value)} {kV doc pm cdv ct : Value} (a : PySem.W.nsIn K mainGlobals x = some (some (.ref f)))
    (l : K.lookup f = some ⟨oc, od, .func (PySem.W.fnOf x x (defArgs st) (defBody st) (defScope st) .none kV doc pm an cdv ct), osl⟩) (c : PySem.W.codeIn K cdv x = true) (k : PySem.W.keepIn K (.ref f) = true)
    (hb : ∀ (kV doc pm : Value) (an : Option Addr) (cdv ct : Value) (us : List Value), us.length = ps.length → bindArgs (PySem.W.fnOf x x (defArgs st) (defBody st) (defScope st) .none kV doc pm an cdv ct) ⟨us, []⟩ = pure (ps.zip us)) : Def K mg x st ps :=
  ⟨f, _, fun_mk l c k, PySem.W.mg_of X G a, (fun_mk l c k).binds hb⟩
theorem fun_kbinds {x qual : Str} {st : Stmt} {f : Addr} {fd : FuncData} {ps ks : List Str} (F : Fun K x qual st f fd) (g : List Value → List Value → List Value) (gV : List V → List V → List V)
    (hrel : ∀ {vs : List V} {us : List Value} {zs : List V} {ws : List Value}, Vals vs us → Vals zs ws → Vals (gV vs zs) (g us ws))
    (h : ∀ (kV doc pm : Value) (an : Option Addr) (cdv ct : Value) (us ws : List Value), (g us ws).length = ps.length → bindArgs (PySem.W.fnOf x qual (defArgs st) (defBody st) (defScope st) .none kV doc pm an cdv ct) ⟨us, ks.zip ws⟩ = pure (ps.zip (g us ws))) : KBinds K fd ps ks g gV := by
  obtain ⟨oc, od, kV, doc, pm, an, cdv, ct, osl, rfl, lk, hcd⟩ := F.ex
  exact ⟨fun s us ws X hl => .of_eq (h kV doc pm an cdv ct us ws hl), hrel⟩
/-- two keywords, in the parameters' order, or turned; one -/
def g12 {α : Type} : List α → List α → List α | [], [a, b] => [a, b] | _, _ => []
def g21 {α : Type} : List α → List α → List α | [], [a, b] => [b, a] | _, _ => []
def g1 {α : Type} : List α → List α → List α | [], [a] => [a] | _, _ => []
theorem g12_inv {α : Type} {us ws : List α} (h : (g12 us ws).length = 2) : us = [] ∧ ∃ a b, ws = [a, b] := by
  match us, ws, h with
  | [], [a, b], _ => exact ⟨rfl, a, b, rfl⟩
  | [], [], h => exact absurd h (by simp [g12, g21, g1])
  | [], [_], h => exact absurd h (by simp [g12])
  | [], _ :: _ :: _ :: _, h => exact absurd h (by simp [g12])
  | _ :: _, _, h => exact absurd h (by simp [g12])
theorem g21_inv {α : Type} {us ws : List α} (h : (g21 us ws).length = 2) : us = [] ∧ ∃ a b, ws = [a, b] := by
  match us, ws, h with
  | [], [a, b], _ => exact ⟨rfl, a, b, rfl⟩
  | [], [], h => exact absurd h (by simp [g12, g21, g1])
  | [], [_], h => exact absurd h (by simp [g21])
  | [], _ :: _ :: _ :: _, h => exact absurd h (by simp [g21])
  | _ :: _, _, h => exact absurd h (by simp [g21])
theorem g1_inv {α : Type} {us ws : List α} (h : (g1 us ws).length = 1) : us = [] ∧ ∃ a, ws = [a] := by
  match us, ws, h with
  | [], [a], _ => exact ⟨rfl, a, rfl⟩
  | [], [], h => exact absurd h (by simp [g12, g21, g1])
  | [], _ :: _ :: _, h => exact absurd h (by simp [g1])
  | _ :: _, _, h => exact absurd h (by simp [g1])
theorem rel12 {vs : List V} {us : List Value} {zs : List V} {ws : List Value} (a : Vals vs us) (b : Vals zs ws) : Vals (g12 vs zs) (g12 us ws) := by
  cases a with
  | nil =>
    cases b with
    | nil => exact .nil
    | cons r b =>
      cases b with
      | nil => exact .nil
      | cons r2 b =>
        cases b with
        | nil => exact .cons r (.cons r2 .nil)
        | cons r3 b => exact .nil
  | cons r a => exact .nil
theorem rel21 {vs : List V} {us : List Value} {zs : List V} {ws : List Value} (a : Vals vs us) (b : Vals zs ws) : Vals (g21 vs zs) (g21 us ws) := by
  cases a with
  | nil =>
    cases b with
    | nil => exact .nil
    | cons r b =>
      cases b with
      | nil => exact .nil
      | cons r2 b =>
        cases b with
        | nil => exact .cons r2 (.cons r .nil)
        | cons r3 b => exact .nil
  | cons r a => exact .nil
theorem rel1 {vs : List V} {us : List Value} {zs : List V} {ws : List Value} (a : Vals vs us) (b : Vals zs ws) : Vals (g1 vs zs) (g1 us ws) := by
  cases a with
  | nil =>
    cases b with
    | nil => exact .nil
    | cons r b =>
      cases b with
      | nil => exact .cons r .nil
      | cons r3 b => exact .nil
  | cons r a => exact .nil
end
end My
namespace My
open PySem L2 PyProof.Rows
/-! ### methods, properties, __init__ of a class at C -/
section
variable {P : Program} {w : World} {K : PySem.W.Frag} {mg : Str → Option Value} {base : Heap} {C : Addr}
def DefM (K : PySem.W.Frag) (C : Addr) (x qual : Str) (st : Stmt) (ps : List Str) : Prop := ∃ (f : Addr) (fd : FuncData), Fun K x qual st f fd ∧ Meth K C x f ∧ Binds K fd ps []
def DefP (K : PySem.W.Frag) (C : Addr) (x qual : Str) (st : Stmt) (ps : List Str) : Prop := ∃ (p f : Addr) (fd : FuncData), Fun K x qual st f fd ∧ PropOf K C x p f ∧ Binds K fd ps []
def DefI (K : PySem.W.Frag) (C : Addr) (x qual : Str) (st : Stmt) (ps : List Str) : Prop := ∃ (f : Addr) (fd : FuncData), Fun K x qual st f fd ∧ Mk K C f ∧ Binds K fd ps []
def GoodM (P : Program) (w : World) (K : PySem.W.Frag) (mg : Str → Option Value) (base : Heap) (C : Addr) (x qual : Str) (st : Stmt) (ps : List Str) (k : Nat) (sp : Sp) : Prop := ∃ (f : Addr) (fd : FuncData), FnOk P w K mg base CX0 k f fd ps sp ∧ Meth K C x f ∧ Binds K fd ps [] ∧ Fun K x qual st f fd
def GoodP (P : Program) (w : World) (K : PySem.W.Frag) (mg : Str → Option Value) (base : Heap) (C : Addr) (x _qual : Str) (_st : Stmt) (ps : List Str) (k : Nat) (sp : Sp) : Prop := ∃ (p f : Addr) (fd : FuncData), FnOk P w K mg base CX0 k f fd ps sp ∧ PropOf K C x p f ∧ Binds K fd ps []
def GoodI (P : Program) (w : World) (K : PySem.W.Frag) (mg : Str → Option Value) (base : Heap) (C : Addr) (x _qual : Str) (_st : Stmt) (ps : List Str) (k : Nat) (sp : Sp) : Prop := ∃ (f : Addr) (fd : FuncData), FnOk P w K mg base CX0 k f fd ps sp ∧ Mk K C f ∧ Binds K fd ps []
theorem DefM.good {x qual : Str} {st : Stmt} {ps : List Str} {k : Nat} {sp : Sp} (D : DefM K C x qual st ps) (h : ∀ f fd, Fun K x qual st f fd → FnOk P w K mg base CX0 k f fd ps sp) : GoodM P w K mg base C x qual st ps k sp := by
  obtain ⟨f, fd, F, m, b⟩ := D
  exact ⟨f, fd, h f fd F, m, b, F⟩
theorem DefP.good {x qual : Str} {st : Stmt} {ps : List Str} {k : Nat} {sp : Sp} (D : DefP K C x qual st ps) (h : ∀ f fd, Fun K x qual st f fd → FnOk P w K mg base CX0 k f fd ps sp) : GoodP P w K mg base C x qual st ps k sp := by
  obtain ⟨p, f, fd, F, m, b⟩ := D
  exact ⟨p, f, fd, h f fd F, m, b⟩
theorem DefI.good {x qual : Str} {st : Stmt} {ps : List Str} {k : Nat} {sp : Sp} (D : DefI K C x qual st ps) (h : ∀ f fd, Fun K x qual st f fd → FnOk P w K mg base CX0 k f fd ps sp) : GoodI P w K mg base C x qual st ps k sp := by
  obtain ⟨f, fd, F, m, b⟩ := D
  exact ⟨f, fd, h f fd F, m, b⟩
end
def g123 {α : Type} : List α → List α → List α | [], [a, b, c] => [a, b, c] | _, _ => []
theorem g123_inv {α : Type} {us ws : List α} (h : (g123 us ws).length = 3) : us = [] ∧ ∃ a b c, ws = [a, b, c] := by
  unfold g123 at h
  split at h
  · exact ⟨rfl, _, _, _, rfl⟩
  · simp at h
theorem rel123 {vs : List V} {us : List Value} {zs : List V} {ws : List Value} (a : Vals vs us) (b : Vals zs ws) : Vals (g123 vs zs) (g123 us ws) := by
  cases a with
  | cons h t => exact .nil
  | nil => cases b with
    | nil => exact .nil
    | cons h1 t => cases t with
      | nil => exact .nil
      | cons h2 t => cases t with
        | nil => exact .nil
        | cons h3 t => cases t with
          | nil => exact .cons h1 (.cons h2 (.cons h3 .nil))
          | cons h4 t => exact .nil
/-- self, then one keyword -/
def gm1 {α : Type} : List α → List α → List α | [a], [b] => [a, b] | _, _ => []
theorem gm1_inv {α : Type} {us ws : List α} (h : (gm1 us ws).length = 2) : ∃ a b, us = [a] ∧ ws = [b] := by
  unfold gm1 at h
  split at h
  · exact ⟨_, _, rfl, rfl⟩
  · simp at h
theorem relm1 {vs : List V} {us : List Value} {zs : List V} {ws : List Value} (a : Vals vs us) (b : Vals zs ws) : Vals (gm1 vs zs) (gm1 us ws) := by
  cases a with
  | nil => exact .nil
  | cons h t => cases t with
    | cons h2 t => exact .nil
    | nil => cases b with
      | nil => exact .nil
      | cons h1 t => cases t with
        | nil => exact .cons h (.cons h1 .nil)
        | cons h2 t => exact .nil
/-! ### a list or a tuple, gone through -/
section
variable {X : Cx}
theorem pi_or {tg e : Expr} {w1 w2 : TI} (h1 : PI X tg e w1) (h2 : PI X tg e w2) : PI X tg e (fun σ H R => w1 σ H R ∨ w2 σ H R) := by
  constructor
  intro pins s σ H R I h
  rcases h with h | h
  · exact h1.run pins s σ H R I h
  · exact h2.run pins s σ H R I h
end
end My
namespace My
open PySem PySem.W L2 L2.DX PyProof.Rows
/-! ### d.items() of a dict by texts, sorted -/
section
variable {X : Cx}
def rItemsK : V → List V → Hp → VK → Prop := fun x xs H Q => ∃ (a : Addr) (kvs : List (Key × V)), x = .ref a ∧ xs = [] ∧ H a = some (.dK kvs) ∧ ∀ p, H p = none → Q (.ref p) (upd H p (itemsO p a))
theorem mt_itemsK : MtR X "dict.items" rItemsK := by
  intro pins s σ H x xs v us Q I rx rxs h
  obtain ⟨d, kvs, rfl, rfl, hd0, q⟩ := h
  cases rx
  cases rxs
  obtain ⟨_, hd, vs, rel, dof⟩ := dk_of I.hok hd0
  obtain ⟨es, ep, raw, _, _⟩ := PySem.Heap.DictOf.raw dof
  exact DT.callItems (es := es) (ep := ep) hd raw ⟨.ref s.heap.objs.size, upd H s.heap.objs.size (itemsO s.heap.objs.size d), I.laid (t' := s.toks) (fun b u e => Heap.get?_push_of_some _ e) (Nat.le_refl _) (itemsO_ok (Heap.get?_push_size _ rfl)), rfl, q _ (I.hok.fresh (Nat.le_refl _))⟩
/-- an entry: a text and a number -/
abbrev entSI (e : Str × Int) : Key × V := (Sum.inr e.1, .int e.2)
abbrev encSI (e : Str × Int) : PyData := .tuple [.str e.1, .int e.2]
theorem kv_at : ∀ {kvs : List (Key × V)} {vs : List (Key × Value)}, KV kvs vs → ∀ {j : Nat} {p : Key × V}, kvs[j]? = some p → ∃ q, vs[j]? = some q ∧ p.1 = q.1 ∧ RelV p.2 q.2
  | _, _, .nil, _, _, h => by simp at h
  | _, _, .cons r _, 0, _, h => by
    cases h
    exact ⟨_, rfl, r⟩
  | _, _, .cons _ t, j + 1, p, h => by
    obtain ⟨q, h1, h2⟩ := kv_at t (j := j) (by simpa using h)
    exact ⟨q, by simpa using h1, h2⟩
theorem eachIs_of {α β : Type} {R : α → β → Prop} : ∀ {as : List α} {bs : List β}, as.length = bs.length → (∀ (j : Nat) (a : α) (b : β), as[j]? = some a → bs[j]? = some b → R a b) → PySem.W.EachIs R as bs
  | [], [], _, _ => .nil
  | [], _ :: _, h, _ => by simp at h
  | _ :: _, [], h, _ => by simp at h
  | a :: as, b :: bs, h, k => .cons (k 0 a b rfl rfl) (eachIs_of (by simpa using h) fun j x y hx hy => k (j + 1) x y (by simpa using hx) (by simpa using hy))
theorem encSI_alike (kvs : List (Str × Int)) : AllAlike (kvs.map encSI) := by
  intro d hd d' hd'
  obtain ⟨e, _, rfl⟩ := List.mem_map.mp hd
  obtain ⟨e', _, rfl⟩ := List.mem_map.mp hd'
  rfl
theorem encSI_sortable (kvs : List (Str × Int)) : Sortable (kvs.map encSI) := .tuples fun b => ⟨_, _, rfl⟩
theorem eachIs_refs {β : Type} {as : List Addr} {bs : List β} : ∀ {out : List Value} {cs : List β}, PySem.W.EachIs (fun v b => ∃ (j : Nat) (x : Addr), v = Value.ref x ∧ as[j]? = some x ∧ bs[j]? = some b) out cs →
    ∃ ts : List Addr, out = ts.map Value.ref ∧ Paired (fun (x : Addr) (b : β) => ∃ j : Nat, as[j]? = some x ∧ bs[j]? = some b) ts cs
  | _, _, .nil => ⟨[], rfl, .nil⟩
  | _, _, .cons h t => by
    obtain ⟨j, x, rfl, h1, h2⟩ := h
    obtain ⟨ts, rfl, hp⟩ := eachIs_refs t
    exact ⟨x :: ts, rfl, .cons ⟨j, h1, h2⟩ hp⟩
theorem paired_imp {α β : Type} {F G : α → β → Prop} (h : ∀ a b, F a b → G a b) : ∀ {l1 : List α} {l2 : List β}, Paired F l1 l2 → Paired G l1 l2
  | _, _, .nil => .nil
  | _, _, .cons a r => .cons (h _ _ a) (paired_imp h r)
theorem vals_refs : ∀ ts : List Addr, Vals (ts.map V.ref) (ts.map Value.ref)
  | [] => .nil
  | _ :: r => .cons rfl (vals_refs r)
/-- the told list is new, its pairs too -/
def rSortItK : List V → Hp → VK → Prop := fun vs H Q => ∃ (p a : Addr) (kvs : List (Str × Int)), vs = [.ref p] ∧ H p = some (itemsO p a) ∧ H a = some (.dK (kvs.map entSI)) ∧ kvs.length ≤ 100000 ∧
  ∀ (H' : Hp) (l : Addr) (ts : List Addr), (∀ b o, H b = some o → H' b = some o) → H l = none → H' l = some (.lst (ts.map V.ref)) → Paired (fun t (e : Str × Int) => H' t = some (.tup [.str e.1, .int e.2])) ts (kvs.mergeSort (dataLe false encSI)) → Q (.ref l) H'
theorem cr_sortItK (hc : X.calm = true) (hu : X.A.units + 64 < cLine) : CallR X (.builtin "sorted") rSortItK := by
  intro pins s σ H xs us Q I r h
  obtain ⟨p, a, kvs, rfl, hp, ha, hlen, q⟩ := h
  obtain rfl := Vals.ref1 r
  have vw : s.heap.IsItemsView p a := by
    have z : ObjOk X.prog X.w H s.heap p (itemsO p a) := I.hok p _ hp
    exact z.1
  obtain ⟨_, hd, vs, rel, dof⟩ := dk_of I.hok ha
  obtain ⟨es, ep, raw, hsz, hent⟩ := PySem.Heap.DictOf.raw dof
  have l1 : vs.length = kvs.length := by
    have := Paired.length rel
    rw [List.length_map] at this
    exact this.symm
  have small : kvs.length ≤ sizeLine := Nat.le_trans hlen (by decide)
  refine DT.sortedI (es := es) (ep := ep) (I.ok.hd hc) vw raw (by rw [hsz, l1]; exact small) fun h' tk as kpt hlt hl mde => ?_
  have lak : as.length = kvs.length := by rw [hl, hsz, l1]
  have nod : as.Nodup := List.Pairwise.imp (fun h => Nat.ne_of_lt h) mde.rise
  have pr : ∀ (j : Nat) (b : Addr), as[j]? = some b → ∃ (e : Str × Int) (t t' : Tok), kvs[j]? = some e ∧ h'.get? b = some { cls := .type "tuple", data := .seq #[Value.str e.1 t, Value.int e.2 t'] } := fun j b ej => by
    obtain ⟨en, ee, gh⟩ := mde.pairs j b ej
    have hj2 : j < es.size := (Array.getElem?_eq_some_iff.mp ee).1
    have hj3 : j < kvs.length := by rw [← l1, ← hsz]; exact hj2
    obtain ⟨⟨k, v⟩, g1, g2, g3⟩ := kv_at rel (j := j) (p := entSI kvs[j]) (by rw [List.getElem?_map, List.getElem?_eq_getElem hj3]; rfl)
    obtain ⟨m1, m2⟩ := hent j hj2 k v g1
    have e1 : es[j] = en := (Array.getElem?_eq_some_iff.mp ee).2
    rw [e1] at m1 m2
    have g2' : k = Sum.inr kvs[j].1 := g2.symm
    subst g2'
    obtain ⟨t', ev⟩ : ∃ t', v = Value.int kvs[j].2 t' := g3
    rcases keyIs_shape (show keyIs (Sum.inr kvs[j].1) en.key = true from m1) with ⟨i, t, z, _⟩ | ⟨x, t, z, ek⟩
    · cases z
    · have ex : kvs[j].1 = x := Sum.inr.inj z
      refine ⟨kvs[j], t, t', List.getElem?_eq_getElem hj3, ?_⟩
      rw [gh, ek, m2, ev, ex]
  have gl : (h'.push { cls := .type "list", data := .seq (as.map Value.ref).toArray }).get? h'.objs.size = some (seqObj "list" (as.map Value.ref).toArray 0) := Heap.get?_push_size _ rfl
  have far : ∀ b o, h'.get? b = some o → b ≠ h'.objs.size := fun b o e => Nat.ne_of_lt (Heap.lt_size e)
  have kp : ∀ b o, h'.get? b = some o → (h'.push { cls := .type "list", data := .seq (as.map Value.ref).toArray }).get? b = some o := fun b o e => Heap.get?_push_of_some _ e
  generalize h'.push { cls := .type "list", data := .seq (as.map Value.ref).toArray } = h2 at gl kp ⊢
  have at_ : ∀ (j : Nat) (v : Value) (e : Str × Int), (as.map Value.ref)[j]? = some v → kvs[j]? = some e → ∃ b, v = .ref b ∧ as[j]? = some b := fun j v e hv _ => by
    rw [List.getElem?_map] at hv
    cases z : as[j]? with
    | none => rw [z] at hv; cases hv
    | some b => rw [z] at hv; exact ⟨b, (Option.some.inj hv).symm, rfl⟩
  refine list_sort_data (s := { s with heap := h2, toks := tk }) (R := fun v e => ∃ (j : Nat) (x : Addr), v = Value.ref x ∧ as[j]? = some x ∧ kvs[j]? = some e) (enc := encSI) (bs := kvs) gl (eachIs_of (by rw [List.length_map]; exact lak) fun j v e hv ee => ?_) (eachIs_of (by rw [List.length_map]; exact lak) fun j v e hv ee => ?_) (encSI_alike kvs) (encSI_sortable kvs) small (fun b _ => ?_) fun out ho1 ho2 => ?_
  · obtain ⟨b, e1, e2⟩ := at_ j v e hv ee
    exact ⟨j, b, e1, e2, ee⟩
  · obtain ⟨b, rfl, e2⟩ := at_ j v e hv ee
    obtain ⟨e', t, t', g1, g2⟩ := pr j b e2
    rw [ee] at g1
    cases g1
    exact ⟨[] ++ ([] ++ []), .tuple (kp _ _ g2) rfl rfl (.cons (.str _ _) (.cons (.int _ _) .nil)), by simp⟩
  · show X.A.units + 1 + 1 + 1 < cLine
    omega
  obtain ⟨ts, rfl, hts⟩ := eachIs_refs ho2
  show EP X pins σ Q (.ref h'.objs.size) { s with heap := sortedHeap h2 h'.objs.size (as.map Value.ref) (ts.map Value.ref).toArray, toks := tk }
  have kF : ∀ b o, b ≠ h'.objs.size → h2.get? b = some o → (sortedHeap h2 h'.objs.size (as.map Value.ref) (ts.map Value.ref).toArray).get? b = some o := fun b o hb e => (PyProof.Rows.sortedHeap_old hb (Heap.lt_size e)).trans e
  have kS : ∀ b o, s.heap.get? b = some o → (sortedHeap h2 h'.objs.size (as.map Value.ref) (ts.map Value.ref).toArray).get? b = some o := fun b o e => kF b o (far _ _ (kpt b o e)) (kp b o (kpt b o e))
  obtain ⟨eF, heF⟩ := PyProof.Rows.sortedHeap_at (vs := as.map Value.ref) (out := (ts.map Value.ref).toArray) gl
  generalize sortedHeap h2 h'.objs.size (as.map Value.ref) (ts.map Value.ref).toArray = hz at kF kS heF ⊢
  have free0 : H h'.objs.size = none := I.hok.fresh (Nat.le_of_lt hlt)
  have htl : (ts.map V.ref).length ≤ sizeLine := by
    rw [List.length_map] at ho1 ⊢
    rw [ho1]
    exact small
  have I2 : Inv X pins σ (upd H h'.objs.size (.lst (ts.map V.ref))) { s with heap := hz, toks := tk } :=
    (I.kept (t' := tk) kS).take (h' := hz) (t' := tk) (fun b ob _ e => e) (I.fpOk (Nat.le_of_lt hlt) free0) ⟨htl, ts.map Value.ref, eF, vals_refs ts, heF⟩
  obtain ⟨H2, I3, g, qt⟩ := takeT (P := fun b vs => ∃ (j : Nat) (e : Str × Int), as[j]? = some b ∧ kvs[j]? = some e ∧ vs = [.str e.1, .int e.2]) I as _ I2 nod fun b hb => by
    obtain ⟨j, ej⟩ := List.mem_iff_getElem?.mp hb
    obtain ⟨e, t, t', ee, gh⟩ := pr j b ej
    have big : s.heap.objs.size ≤ b := Nat.le_of_lt (mde.above b hb)
    refine ⟨big, by rw [upd_ne (far _ _ gh)]; exact I.hok.fresh big, [.str e.1, .int e.2], ⟨j, e, ej, ee, rfl⟩, fun H3 => ⟨(by show 2 ≤ sizeLine; decide), [Value.str e.1 t, Value.int e.2 t'], .cons ⟨t, rfl⟩ (.cons ⟨t', rfl⟩ .nil), ⟨_, kF _ _ (far _ _ gh) (kp _ _ gh), rfl, 0, rfl⟩⟩⟩
  refine ⟨.ref h'.objs.size, H2, I3, rfl, q H2 h'.objs.size ts (fun b o e => g b o (by rw [upd_ne (ne_of_none e free0)]; exact e)) free0 (g _ _ upd_same) (paired_imp (fun x e hx => ?_) hts)⟩
  obtain ⟨i, i1, i2⟩ := hx
  obtain ⟨vs', ⟨j, e', j1, j2, ev⟩, hH⟩ := qt x (List.mem_of_getElem? i1)
  have eqi : i = j := (List.getElem?_inj (List.getElem?_eq_some_iff.mp i1).1 nod).mp (i1.trans j1.symm)
  subst eqi
  rw [i2] at j2
  cases j2
  rw [ev] at hH
  exact hH
end
end My
namespace My
open PySem PySem.W L2 L2.DX PyProof.Rows
section
variable {X : Cx}
theorem dp_at {K : PySem.W.Frag} {H : Hp} : ∀ {ys : List V} {ds : List PyData}, DpAll K H ys ds → ∀ {j : Nat} {y : V} {d : PyData}, ys[j]? = some y → ds[j]? = some d → Dp K H y d
  | _, _, .nil, _, _, _, h, _ => by simp at h
  | _, _, .cons p _, 0, _, _, h, k => by
    cases h
    cases k
    exact p
  | _, _, .cons _ t, j + 1, _, _, h, k => dp_at t (j := j) (by simpa using h) (by simpa using k)
theorem dp_len {K : PySem.W.Frag} {H : Hp} : ∀ {ys : List V} {ds : List PyData}, DpAll K H ys ds → ys.length = ds.length
  | _, _, .nil => rfl
  | _, _, .cons _ t => congrArg Nat.succ (dp_len t)
theorem vals_at : ∀ {ys : List V} {us : List Value}, Vals ys us → ∀ {j : Nat} {u : Value}, us[j]? = some u → ∃ y, ys[j]? = some y ∧ RelV y u
  | _, _, .nil, _, _, h => by simp at h
  | _, _, .cons r _, 0, _, h => by
    cases h
    exact ⟨_, rfl, r⟩
  | _, _, .cons _ t, j + 1, _, h => by
    obtain ⟨y, h1, h2⟩ := vals_at t (j := j) (by simpa using h)
    exact ⟨y, by simpa using h1, h2⟩
theorem out_vals {ys : List V} {ds : List PyData} : ∀ {out : List Value} {cs : List PyData}, PySem.W.EachIs (fun v d => ∃ (j : Nat) (y : V), ys[j]? = some y ∧ ds[j]? = some d ∧ RelV y v) out cs →
    ∃ zs : List V, Vals zs out ∧ Paired (fun (z : V) (d : PyData) => ∃ j : Nat, ys[j]? = some z ∧ ds[j]? = some d) zs cs
  | _, _, .nil => ⟨[], .nil, .nil⟩
  | _, _, .cons h t => by
    obtain ⟨j, y, h1, h2, h3⟩ := h
    obtain ⟨zs, g1, g2⟩ := out_vals t
    exact ⟨y :: zs, .cons h3 g1, .cons ⟨j, h1, h2⟩ g2⟩
theorem vals_len : ∀ {ys : List V} {us : List Value}, Vals ys us → ys.length = us.length
  | _, _, .nil => rfl
  | _, _, .cons _ t => congrArg Nat.succ (vals_len t)
/-- sorted(xs), data of one shape: the items are set in sequence by what they are -/
def rSortD (K : PySem.W.Frag) : List V → Hp → VK → Prop := fun vs H Q => ∃ (a : Addr) (ys : List V) (ds : List PyData), vs = [.ref a] ∧ SqL K H a ys ∧ DpAll K H ys ds ∧ AllAlike ds ∧ Sortable ds ∧ (∀ d ∈ ds, d.depth ≤ 8) ∧ ys.length ≤ 100000 ∧
  ∀ (zs : List V) (p : Addr), Paired (fun (z : V) (d : PyData) => ∃ j : Nat, ys[j]? = some z ∧ ds[j]? = some d) zs (ds.mergeSort (dataLe false id)) → H p = none → Q (.ref p) (upd H p (.lst zs))
theorem cr_sortD (hu : X.A.units + 64 < cLine) : CallR X (.builtin "sorted") (rSortD X.K) := by
  intro pins s σ H xs us Q I r h
  obtain ⟨a, ys, ds, rfl, hs, hd, hal, hk, hdp, hlen, q⟩ := h
  obtain rfl := Vals.ref1 r
  obtain ⟨its, rv, pl, _⟩ := I.list hs
  have li : its.length = ds.length := by rw [← vals_len rv]; exact dp_len hd
  have small : ds.length ≤ sizeLine := by rw [← dp_len hd]; exact Nat.le_trans hlen (by decide)
  refine sorted_data (R := fun v d => ∃ (j : Nat) (y : V), ys[j]? = some y ∧ ds[j]? = some d ∧ RelV y v) (enc := id) (bs := ds) pl.isList (eachIs_of li fun j v d hv he => ?_) (eachIs_of li fun j v d hv he => ?_) (by rw [List.map_id]; exact hal) (by rw [List.map_id]; exact hk) small (fun d hdm => ?_) fun out ho1 ho2 => ?_
  · obtain ⟨y, g1, g2⟩ := vals_at rv hv
    exact ⟨j, y, g1, he, g2⟩
  · obtain ⟨y, g1, g2⟩ := vals_at rv hv
    exact Dp.reads I d y v (dp_at hd g1 he) g2
  · have := hdp d hdm
    show X.A.units + 2 + d.depth < cLine
    omega
  obtain ⟨zs, hz, hp⟩ := out_vals ho2
  obtain ⟨eF, heF⟩ := PyProof.Rows.sortedAll_at s.heap its out.toArray
  have hzl : zs.length ≤ sizeLine := by rw [vals_len hz, ho1]; exact small
  exact ⟨.ref (s.heap.objs.size + 1), upd H (s.heap.objs.size + 1) (.lst zs), I.laid (t' := s.toks) (fun _ _ => PyProof.Rows.sortedAll_old) (Nat.le_succ _) ⟨hzl, out, eF, hz, heF⟩, rfl, q zs _ hp (I.hok.fresh (Nat.le_succ _))⟩
end
end My
namespace My
open PySem PySem.W L2 PyProof.Rows
/-! ### told lists: texts with numbers, rising by the texts -/
theorem strict_ext {α : Type} {r : α → α → Prop} (irr : ∀ a, ¬ r a a) (tr : ∀ a b c, r a b → r b c → r a c) : ∀ {a b : List α}, a.Pairwise r → b.Pairwise r → (∀ x, x ∈ a ↔ x ∈ b) → a = b
  | [], [], _, _, _ => rfl
  | [], y :: ys, _, _, h => absurd ((h y).mpr List.mem_cons_self) (by simp)
  | x :: xs, [], _, _, h => absurd ((h x).mp List.mem_cons_self) (by simp)
  | x :: xs, y :: ys, hx, hy, h => by
    have hx' := List.pairwise_cons.mp hx
    have hy' := List.pairwise_cons.mp hy
    have e : x = y := by
      rcases List.mem_cons.mp ((h x).mp List.mem_cons_self) with z | z
      · exact z
      · rcases List.mem_cons.mp ((h y).mpr List.mem_cons_self) with z2 | z2
        · exact z2.symm
        · exact absurd (tr _ _ _ (hx'.1 y z2) (hy'.1 x z)) (irr x)
    subst e
    refine congrArg (x :: ·) (strict_ext irr tr hx'.2 hy'.2 fun z => ?_)
    constructor
    · intro hz
      rcases List.mem_cons.mp ((h z).mp (List.mem_cons_of_mem _ hz)) with q | q
      · exact absurd (by rw [q] at hz; exact hx'.1 x hz) (irr x)
      · exact q
    · intro hz
      rcases List.mem_cons.mp ((h z).mpr (List.mem_cons_of_mem _ hz)) with q | q
      · exact absurd (by rw [q] at hz; exact hy'.1 x hz) (irr x)
      · exact q
def sLt (x y : Str) : Prop := x.cps.toList < y.cps.toList
instance (x y : Str) : Decidable (sLt x y) := by unfold sLt; exact inferInstance
theorem sLt_irr (x : Str) : ¬ sLt x x := List.lt_irrefl _
theorem sLt_trans {x y z : Str} (h : sLt x y) (k : sLt y z) : sLt x z := List.lt_trans h k
theorem sLt_total (x y : Str) : sLt x y ∨ x = y ∨ sLt y x := by
  by_cases h : sLt x y
  · exact .inl h
  · by_cases k : sLt y x
    · exact .inr (.inr k)
    · exact .inr (.inl (str_of_cps (List.le_antisymm (List.not_lt.mp k) (List.not_lt.mp h))))
theorem dataLt_si (x x' : Str) (y y' : Int) : dataLt (.tuple [.str x, .int y]) (.tuple [.str x', .int y']) = decide (sLt x x' ∨ (x = x' ∧ y < y')) := by
  rw [dataLt_pair (by simp [alike]) (by simp [alike]), dataLt_str, dataLt_int]
  have e1 : PyData.eqv (.str x) (.str x') = decide (x = x') := by
    by_cases h : x = x'
    · subst h; simp [PyData.eqv]
    · simp [PyData.eqv, h]
  have e2 : PyData.eqv (.int y) (.int y') = decide (y = y') := by
    by_cases h : y = y'
    · subst h; simp [PyData.eqv]
    · simp [PyData.eqv, h]
  rw [e1, e2]
  by_cases h : x = x'
  · subst h
    have n := sLt_irr x
    by_cases h2 : y = y'
    · subst h2
      simp [n]
    · simp [h2, n]
  · by_cases h3 : sLt x x'
    · have h4 := h3
      unfold sLt at h4
      simp [h, h3, h4]
    · have h4 := h3
      unfold sLt at h4
      simp [h, h3, h4]
abbrev leSI (e f : Str × Int) : Bool := decide (sLt e.1 f.1 ∨ (e.1 = f.1 ∧ e.2 ≤ f.2))
theorem dataLe_si : dataLe false encSI = leSI := by
  funext e f
  show (!dataLt (.tuple [.str f.1, .int f.2]) (.tuple [.str e.1, .int e.2])) = _
  rw [dataLt_si]
  by_cases h : sLt f.1 e.1 ∨ (f.1 = e.1 ∧ f.2 < e.2)
  · have h' : ¬ (sLt e.1 f.1 ∨ (e.1 = f.1 ∧ e.2 ≤ f.2)) := by
      rintro (z | ⟨z, z2⟩)
      · rcases h with k | ⟨k, k2⟩
        · exact sLt_irr _ (sLt_trans z k)
        · rw [k] at z; exact sLt_irr _ z
      · rcases h with k | ⟨k, k2⟩
        · rw [z] at k; exact sLt_irr _ k
        · omega
    simp [h, leSI, h']
  · have h' : sLt e.1 f.1 ∨ (e.1 = f.1 ∧ e.2 ≤ f.2) := by
      rcases sLt_total e.1 f.1 with z | z | z
      · exact .inl z
      · refine .inr ⟨z, ?_⟩
        rcases Int.lt_or_le f.2 e.2 with k | k
        · exact absurd (.inr ⟨z.symm, k⟩) h
        · exact k
      · exact absurd (.inl z) h
    simp only [decide_eq_true h', leSI, decide_eq_false h, Bool.not_false]
theorem leSI_trans (a b c : Str × Int) (h : leSI a b = true) (k : leSI b c = true) : leSI a c = true := by
  have h1 := of_decide_eq_true h
  have k1 := of_decide_eq_true k
  refine decide_eq_true ?_
  rcases h1 with z | ⟨z, z2⟩
  · rcases k1 with w | ⟨w, w2⟩
    · exact .inl (sLt_trans z w)
    · rw [w] at z; exact .inl z
  · rcases k1 with w | ⟨w, w2⟩
    · rw [← z] at w; exact .inl w
    · exact .inr ⟨z.trans w, by omega⟩
theorem leSI_total (a b : Str × Int) : (leSI a b || leSI b a) = true := by
  rw [Bool.or_eq_true]
  rcases sLt_total a.1 b.1 with z | z | z
  · exact .inl (decide_eq_true (.inl z))
  · rcases Int.le_total a.2 b.2 with k | k
    · exact .inl (decide_eq_true (.inr ⟨z, k⟩))
    · exact .inr (decide_eq_true (.inr ⟨z.symm, k⟩))
  · exact .inr (decide_eq_true (.inl z))
/-- rising by the texts -/
def Told (M : List (Str × Int)) : Prop := M.Pairwise fun e f => sLt e.1 f.1
theorem told_of {L : List (Str × Int)} (hn : (L.map Prod.fst).Nodup) : Told (L.mergeSort (dataLe false encSI)) := by
  rw [dataLe_si]
  have hp : (L.mergeSort leSI).Perm L := List.mergeSort_perm _ _
  have hs := List.pairwise_mergeSort (le := leSI) leSI_trans leSI_total L
  have hn2 : ((L.mergeSort leSI).map Prod.fst).Nodup := ((hp.map Prod.fst).nodup_iff).mpr hn
  rw [List.Nodup, List.pairwise_map] at hn2
  refine (hs.and hn2).imp fun {e f} h => ?_
  rcases of_decide_eq_true h.1 with z | z
  · exact z
  · exact absurd z.1 h.2
theorem Told.unique {M N : List (Str × Int)} (h : Told M) (k : Told N) (e : ∀ x, x ∈ M ↔ x ∈ N) : M = N :=
  strict_ext (r := fun e f : Str × Int => sLt e.1 f.1) (fun a => sLt_irr _) (fun _ _ _ => sLt_trans) h k e
/-- texts alone -/
abbrev leS (x y : Str) : Bool := decide (x.cps.toList ≤ y.cps.toList)
theorem dataLe_s : dataLe false (fun x : Str => PyData.str x) = leS := dataLe_str fun x => x
theorem leS_trans (a b c : Str) (h : leS a b = true) (k : leS b c = true) : leS a c = true := decide_eq_true (List.le_trans (of_decide_eq_true h) (of_decide_eq_true k))
theorem leS_total (a b : Str) : (leS a b || leS b a) = true := by
  rw [Bool.or_eq_true]
  rcases List.le_total a.cps.toList b.cps.toList with z | z
  · exact .inl (decide_eq_true z)
  · exact .inr (decide_eq_true z)
theorem texts_of {L : List Str} (hn : L.Nodup) : (L.mergeSort leS).Pairwise sLt := by
  have hp : (L.mergeSort leS).Perm L := List.mergeSort_perm _ _
  have hs := List.pairwise_mergeSort (le := leS) leS_trans leS_total L
  refine (hs.and ((hp.nodup_iff).mpr hn)).imp fun {x y} h => ?_
  rcases sLt_total x y with z | z | z
  · exact z
  · exact absurd z h.2
  · exact absurd z (List.not_lt.mpr (of_decide_eq_true h.1))
end My
namespace My
open PySem L2 PyProof.Rows
theorem bl_is1 {x : Bool} {Q : VK} {H : Hp} (h : x = true) (q : Q (.bl true) H) : Q (.bl x) H := by
  rw [h]
  exact q
/-! ### a list that nobody asks for any more is forgotten -/
section
variable {X : Cx} {pins : List (Addr × Obj)} {σ : L2.St} {H1 H2 : Hp} {s : Shared} {D : Addr} {xs : List V}
theorem inv_drop (I : Inv X pins σ H1 s) (e : H1 = upd H2 D (.lst xs)) (n : H2 D = none) : Inv X pins σ H2 s := by
  subst e
  have off : ∀ b, upd H2 D (.lst xs) b = none → H2 b = none := fun b h => by
    by_cases hb : b = D
    · rw [hb]; exact n
    · rw [upd_ne hb] at h; exact h
  have back : ∀ b o, o ≠ HO.lst xs → upd H2 D (.lst xs) b = some o → H2 b = some o := fun b o ho h => by
    by_cases hb : b = D
    · subst hb
      rw [upd_same] at h
      exact absurd (Option.some.inj h).symm ho
    · rw [upd_ne hb] at h; exact h
  refine ⟨I.ok, I.os, I.bare, ?_, I.loc, I.cell, off _ I.free, fun x c h => off _ (I.freeC x c h), fun p hp => ?_, ?_, I.len⟩
  · have u := I.base
    refine ⟨u.keep, u.slot, fun b o h1 h2 h3 => off _ (u.free b o h1 h2 h3), u.there, fun b ys h => back _ _ (by intro z; cases z) (u.tups b ys h), fun b o v h => back _ _ (by intro z; cases z) (u.frzs b o v h), fun b ps h => ?_⟩
    obtain ⟨more, h⟩ := u.tbls b ps h
    exact ⟨more, back _ _ (by intro z; cases z) h⟩
  · obtain ⟨a, b, c⟩ := I.pin p hp
    exact ⟨a, off _ b, c⟩
  · intro a o h
    have ha : a ≠ D := fun z => by rw [z, n] at h; cases h
    refine (I.hok a o (by rw [upd_ne ha]; exact h)).stay (fun _ _ _ z => z) (fun b h => back _ _ (by intro z; cases z) h) (fun b ys h => back _ _ (by intro z; cases z) h)
theorem pe_drop {e : Expr} {te : TE} (he : PE X e te) : PE X e (fun σ H Q => te σ H fun v H1 => ∃ D xs H2, H1 = upd H2 D (.lst xs) ∧ H2 D = none ∧ Q v H2) := by
  refine ⟨fun pins s σ H Q I h => ?_⟩
  exact wpAny_mono (he.run pins s σ H _ I h) (fun u s1 ⟨v, H1, I1, r, D, xs, H2, e, n, q⟩ => ⟨v, H2, inv_drop I1 e n, r, q⟩) fun _ _ h => h
end
end My
namespace My
open PySem L2 PyProof.Rows
/-! ### contracts of defs that are called where nothing is being shown -/
structure FnG (P : Program) (w : World) (K : PySem.W.Frag) (mg : Str → Option Value) (base : Heap) (k : Nat) (f : Addr) (fd : FuncData) (ps : List Str) (sp : Sp) : Prop where
  len : ∀ vs H Q E, sp vs H Q E → vs.length = ps.length
  run : ∀ (A : Around) (outer : List Env) (s : Shared) (H : Hp) (args : Args) (us : List Value) (vs : List V) (Q : VK) (E : XK), Room k A → A.guards = some [] → Env0 P w K mg base A outer s H → BindsTo s fd args (ps.zip us) → Vals vs us → sp vs H Q E →
    codeAny (model P w) A (.call (.ref f) args) (CR CX0 outer P w H s Q E) s
section
variable {P : Program} {w : World} {K : PySem.W.Frag} {mg : Str → Option Value} {base : Heap}
theorem FnG.ofOk {k : Nat} {f : Addr} {fd : FuncData} {ps : List Str} {sp : Sp} (F : FnOk P w K mg base CX0 k f fd ps sp) : FnG P w K mg base k f fd ps sp :=
  ⟨F.len, fun A outer s H args us vs Q E hr _ he hb hv hs => F.run A outer s H args us vs Q E hr he hb hv hs⟩
theorem FnG.ofBody {x qual : Str} {st : Stmt} {f : Addr} {fd : FuncData} {N ps : List Str} {k : Nat} {sp : Sp} (F : Fun K x qual st f fd) (S : FnScope N ps (defScope st)) (len : ∀ vs H Q E, sp vs H Q E → vs.length = ps.length)
    (body : ∀ (cdv : Value) (A : Around) (outer : List Env) (s : Shared) (H : Hp) (vs : List V) (Q : VK) (E : XK), Room k (A.deeper (envOfC qual (defScope st) s.heap.objs.size f cdv)) → A.guards = some [] → sp vs H Q E →
      ∃ t, PSs (cxOf CX0 P w K mg base N qual (defScope st) f cdv A outer s H E).nox (defBody st) t ∧ t { nx := fun _ H' => Q .non H', rt := Q } (start N vs) H) : FnG P w K mg base (k + 1) f fd ps sp := by
  obtain ⟨oc, od, kV, doc, pm, an, cdv, ct, osl, rfl, lk, hcd⟩ := F.ex
  constructor
  · exact len
  intro A outer s H args us vs Q E room quiet env bound rel want
  have many := len _ _ _ _ want
  have inK : K.In s.heap := env.mod.kin.keeps (fun b o e => (env.bs b o e).1)
  have unlimited : s.heap.NoLimit := env.mod.nolimit.keeps (fun b o e => (env.bs b o e).1)
  have kinds : ∀ y ∈ ps.zip us, (defScope st).names.lookup y.1 = some .local ∨ ((defScope st).names.lookup y.1 = some .cell ∧ ((cellsFrom (s.heap.objs.size + 1) (defScope st).names []).lookup y.1).isSome = true) := by
    rintro ⟨n, v⟩ hy
    exact (S.par n (List.of_mem_zip hy).1).imp id (fun q => ⟨q, PySem.W.cellsFrom_some _ _ _ (.inl q)⟩)
  refine codeAny_call_function room.depth (inK _ _ lk) rfl S.co S.gen rfl (PySem.W.codeRec_of inK hcd) (bound _ _ _ _ (wpAny_newFunctionEnv_cells S.kind kinds ?_))
  rintro env' rfl s1 x
  obtain ⟨t, ht, hq⟩ := body cdv A outer s H vs Q E (room.deeper _) quiet want
  have I := inv_start (CX := CX0) (E := E) S room.hd env many rel x
  refine ⟨unlimited.keeps x.toInCall.keep, codeAny_func (wpAny_mono (ht.nox.run [] s1 (start N vs) H _ I hq) ?_ (fun _ _ h => h))⟩
  intro fl s' hs
  cases fl with
  | ret u =>
    obtain ⟨v, σ', H', J, rv, q⟩ := hs
    exact ⟨v, H', J.os, J.bare, J.base, J.hok, rv, q⟩
  | next =>
    obtain ⟨σ', H', J, q⟩ := hs
    exact ⟨V.non, H', J.os, J.bare, J.base, J.hok, (rfl : RelV V.non Value.none), q⟩
  | brk => exact hs.elim fun _ h => h.elim fun _ h => h.2.elim
  | cont => exact hs.elim fun _ h => h.elim fun _ h => h.2.elim
end
section
variable {X : Cx} {k : Nat} {f : Addr} {fd : FuncData} {ps ks : List Str} {sp : Sp} {ds : List Value} {x : Str} {p pos : Pos} {e : Expr} {es : List Expr} {kws : List Keyword} {t tk : TA} {g : List Value → List Value → List Value} {gV : List V → List V → List V}
theorem run_fnG {pins : List (Addr × Obj)} {σ : L2.St} {H : Hp} {s : Shared} {Q : VK} {us ws : List Value} {vs zs : List V} (F : FnG X.prog X.w X.K X.mg X.base k f fd ps sp) (hr : Room k X.A) (quiet : X.A.guards = some []) (hb : KBinds X.K fd ps ks g gV)
    (I : Inv X pins σ H s) (r : Vals vs us) (rz : Vals zs ws) (h : sp (gV vs zs) H Q E0) : wpAny (model X.prog X.w) X.A (call (.ref f) us (ks.zip ws)) (EP X pins σ Q) X.xe s := by
  have r2 := hb.rel r rz
  have many : (g us ws).length = ps.length := r2.length.symm.trans (F.len _ _ _ _ h)
  refine wpAny_call (codeAny_mono (F.run X.A X.stack s H _ _ _ Q E0 hr quiet I.env0 (hb.to s us ws I.kIn many) r2 h) ?_)
  rintro (e | fl) s' hq
  · exact False.elim hq
  cases fl with
  | ret u => exact I.after hq
  | next | brk | cont => exact hq.elim
/-- arguments by place alone -/
theorem KBinds.none {K : PySem.W.Frag} {fd : FuncData} {ps : List Str} (b : Binds K fd ps []) : KBinds K fd ps [] (fun us _ => us) (fun vs _ => vs) := by
  refine ⟨fun s us ws X hl => ?_, fun r _ => r⟩
  have := b s us X (by rw [List.append_nil]; exact hl)
  rw [List.append_nil] at this
  exact this
theorem pe_callG (F : FnG X.prog X.w X.K X.mg X.base k f fd ps sp) (hr : Room k X.A) (quiet : X.A.guards = some []) (hg : Gl X x) (hm : X.mg x = some (.ref f)) (hk : PySem.W.keepIn X.K (.ref f) = true) (hb : Binds X.K fd ps [])
    (ha : PA X (e :: es) t) (hdb : (x == ("__debug__" : Str)) = false := by decide) (he : starEach (e :: es) X.env = (false, eval e X.env) :: starEach es X.env := by rfl) (hpl : (backTo pos (starEach es X.env)).any (·.1) = false := by rfl) :
    PE X (.Call (.Name x p) (e :: es) [] pos) (tCall sp [] E0 t) := by
  constructor
  intro pins s σ H Q I h
  refine wpAny_Call_Name_kw (ld_glob I hg hm (PySem.W.callWith_K (h₀ := X.base) I.ok.mod.kin hk (thn (ha.run pos pins s σ H _ I h) ?_) he hpl) hdb)
  rintro us s1 ⟨vs, H1, I1, r, q⟩
  refine ⟨I1.kIn, ?_⟩
  have q' : sp vs H1 Q E0 := by
    have q2 : sp (vs ++ []) H1 Q E0 := q
    rwa [List.append_nil] at q2
  exact run_fnG (ws := []) (zs := []) F hr quiet (KBinds.none hb) I1 r .nil q'
end
/-! ### a law whose promise is kept where nothing is being shown -/
theorem quiet_caller : callerA.guards = some [] := rfl
/-- from an abstract heap in which at most the script is told -/
theorem law_from {P : Program} {w : World} {K : PySem.W.Frag} {mg mb : Str → Option Value} {k : Nat} {fa a : Addr} {fd : FuncData} {x : Str} {sp : Sp} {s₁ : Shared} {vs : List Value} {H : Hp}
    (inK : K.In s₁.heap) (main : s₁.heap.Ns mainGlobals mg) (bui : s₁.heap.Ns builtinsNs mb) (same : ∀ x : Str, x ≠ "__name__" → mb x = bootBuiltins x) (lim : s₁.heap.NoLimit) (gens : s₁.gens = #[])
    (at_a : s₁.heap.get? a = some { cls := .type "list", data := .seq vs.toArray }) (room : Room k callerA)
    (F : ∀ base : Heap, K.In base → base.Ns mainGlobals mg → FnG P w K mg base k fa fd [x] sp) (bound : ∀ (s : Shared) (u : Value), BindsTo s fd ⟨[u], []⟩ [(x, u)])
    (only : Only H) (hok : HOk P w H s₁.heap) (isA : ∀ b, H b ≠ none → b = a) (notK : H a ≠ none → K.lookup a = none) (want : sp [.ref a] H (fun v _ => v = .bl true) fun _ _ _ => False) :
    codeAny (model P w) callerA (.call (.ref fa) ⟨[.ref a], []⟩) (fun r s' => r = .ok (.ret (.bool true)) ∧ OldK s₁.heap s'.heap ∧ s'.os = s₁.os ∧ AllBare s'.gens) s₁ := by
  have free : ∀ b, b ≠ a → H b = none := by
    intro b hb
    cases q : H b with
    | none => rfl
    | some u => exact absurd (isA b (fun z => by rw [z] at q; cases q)) hb
  have shown : ∀ {b : Addr} {o : Obj}, s₁.heap.get? b = some o → H b = none → (hidT s₁.heap H).get? b = some o := fun e n => hidT_get e n
  have names : ∀ {b : Addr} {m : Str → Option Value}, s₁.heap.Ns b m → (hidT s₁.heap H).Ns b m := by
    rintro b m ⟨o, es, ep, e, d, r⟩
    refine ⟨o, es, ep, shown e (free b ?_), d, r⟩
    rintro rfl
    rw [at_a] at e
    cases e
    exact nomatch d
  have inHid : K.In (hidT s₁.heap H) := by
    intro b o e
    refine shown (inK b o e) ?_
    cases q : H b with
    | none => rfl
    | some u =>
      have ne : H b ≠ none := fun z => by rw [z] at q; cases q
      have eb := isA b ne
      subst eb
      rw [notK ne] at e
      cases e
  obtain ⟨mc, l1, l2⟩ := lim
  have env : Env0 P w K mg (hidT s₁.heap H) callerA [] s₁ H := {
    frames := rfl
    mod := ⟨inHid, names main, ⟨mb, names bui, same⟩, ⟨mc, names l1, l2⟩⟩
    bs := fun _ _ e => of_hidT e
    bsz := Nat.le_of_eq (hidT_size _ _)
    funs := trivial
    frf := fun b hb => nomatch (show b ∈ ([] : List Addr) from hb)
    hok := hok
    bare := .of_eq gens }
  refine codeAny_mono ((F _ inHid (names main)).run callerA [] s₁ H ⟨[.ref a], []⟩ [.ref a] [.ref a] _ _ room quiet_caller env (bound s₁ (.ref a)) (.cons rfl .nil) want) ?_
  rintro (e | fl) s' h
  · exact False.elim h
  cases fl with
  | next | brk | cont => exact False.elim h
  | ret u =>
    obtain ⟨v, H', os, bare, un, hok', rel, q⟩ := h
    cases (show v = .bl true from q)
    cases (show u = Value.bool true from rel)
    refine ⟨rfl, .of_keep ?_, os, bare⟩
    intro b o e
    rcases only b with z | ⟨ob, xs, z⟩
    · exact un.keep b o e z (fun m => nomatch (show b ∈ ([] : List Addr) from m)) (fun m => nomatch m)
    · have z2 := un.frzs b ob _ z
      have e1 := (hok b _ z).1
      rw [e] at e1
      cases e1
      exact (hok' b _ z2).1
theorem law_callG {P : Program} {w : World} {K : PySem.W.Frag} {mg mb : Str → Option Value} {k : Nat} {fa a : Addr} {fd : FuncData} {x : Str} {sp : Sp} {s₁ : Shared} {vs : List Value} {ns : List Int}
    (inK : K.In s₁.heap) (main : s₁.heap.Ns mainGlobals mg) (bui : s₁.heap.Ns builtinsNs mb) (same : ∀ x : Str, x ≠ "__name__" → mb x = bootBuiltins x) (lim : s₁.heap.NoLimit) (gens : s₁.gens = #[])
    (at_a : s₁.heap.get? a = some { cls := .type "list", data := .seq vs.toArray }) (hints : IntsAre vs ns) (short : ns.length ≤ sizeLine) (room : Room k callerA)
    (F : ∀ base : Heap, K.In base → base.Ns mainGlobals mg → FnG P w K mg base k fa fd [x] sp) (bound : ∀ (s : Shared) (u : Value), BindsTo s fd ⟨[u], []⟩ [(x, u)])
    (want : ∀ H : Hp, Only H → SqL K H a (ns.map V.int) → sp [.ref a] H (fun v _ => v = .bl true) fun _ _ _ => False) :
    codeAny (model P w) callerA (.call (.ref fa) ⟨[.ref a], []⟩) (fun r s' => r = .ok (.ret (.bool true)) ∧ OldK s₁.heap s'.heap ∧ s'.os = s₁.os ∧ AllBare s'.gens) s₁ := by
  have rel := vals_ints hints
  have many := hints.length
  have go := fun (H : Hp) (o : Only H) hok isA notK w => law_from (mb := mb) inK main bui same lim gens at_a room F bound (H := H) o hok isA notK w
  cases hk : K.lookup a with
  | some o =>
    have e := inK a o hk
    rw [at_a] at e
    cases e
    have nobody : Only (fun _ => none) := fun _ => .inl rfl
    refine go _ nobody (fun b u z => nomatch (show (none : Option HO) = some u from z)) (fun b z => absurd rfl z) (fun z => absurd rfl z) (want _ nobody (.inr ⟨_, vs.toArray, _, hk, rfl, rfl, rfl, ?_, ?_⟩))
    · rw [List.size_toArray, many]
      exact short
    · simpa using rel
  | none =>
    have key : ∃ H : Hp, H = fun b => if b = a then some (.frz { cls := .type "list", data := .seq vs.toArray } (.lst (ns.map V.int))) else none := ⟨_, rfl⟩
    obtain ⟨H, eH⟩ := key
    have there : H a = some (.frz { cls := .type "list", data := .seq vs.toArray } (.lst (ns.map V.int))) := by rw [eH]; exact if_pos rfl
    have else_ : ∀ b, b ≠ a → H b = none := fun b hb => by rw [eH]; exact if_neg hb
    have only : Only H := fun b => by
      by_cases hb : b = a
      · rw [hb]; exact .inr ⟨_, _, there⟩
      · exact .inl (else_ b hb)
    refine go H only (fun b u z => ?_) (fun b z => ?_) (fun _ => hk) (want H only (.inl (.inr ⟨_, there⟩)))
    · by_cases hb : b = a
      · subst hb
        rw [there] at z
        cases z
        exact ⟨at_a, by rw [List.length_map]; exact short, vs, _, rel, at_a⟩
      · rw [else_ b hb] at z
        cases z
    · by_cases hb : b = a
      · exact hb
      · exact absurd (else_ b hb) z
theorem walk_ofG {l : PySem.W.OpenLaw} {n k : Nat} {q : Program} {loose : List Str} {XP : (Str → Option Value) → Heap → Prop} {YP : World → Heap → Prop} {d : DefRec} {K : Params → PySem.W.Frag} {sp : World → Sp} {x : Str}
    (hn : l.most = some n) (hn2 : n ≤ sizeLine) (hdf : d.params.defaults = []) (room : Room k callerA) (hY : ∀ (w : World) (h : Heap), YP w h → (K w.params).In h)
    (F : ∀ (w : World) (mg : Str → Option Value) (fa : Addr) (h : Heap), (K w.params).In h → h.Ns mainGlobals mg → mg d.name = some (.ref fa) →
      ∃ fd : FuncData, (∀ (s : Shared) (u : Value), BindsTo s fd ⟨[u], []⟩ [(x, u)]) ∧ ∀ base : Heap, (K w.params).In base → base.Ns mainGlobals mg → FnG l.prog w (K w.params) mg base k fa fd [x] (sp w))
    (want : ∀ (w : World) (H : Hp) (a : Addr) (ns : List Int), ns.length ≤ n → Only H → SqL (K w.params) H a (ns.map V.int) → sp w [.ref a] H (fun v _ => v = .bl true) fun _ _ _ => False) :
    PySem.W.WalkO q loose XP YP l.row.toRowW d [] (fun f vs => PySem.call f vs) := by
  apply Att.attach_call hn hdf
  intro w s₀ s₁ mg mb fa o pm cd doc a vs ns G Y ho hd hcd hmg hobj hints hlen hg
  have inK := hY w _ Y
  obtain ⟨fd, bound, hF⟩ := F w mg fa _ inK G.T.g hmg
  exact law_callG inK G.T.g G.T.b G.T.builtins G.T.nolimit hg hobj hints (Nat.le_trans hlen hn2) room hF bound (fun H hO hS => want w H a ns hlen hO hS)
/-! ### repr of a list -/
section
variable {X : Cx}
theorem call_repr_data (quiet : X.A.guards = some []) (hu : X.A.units + 70 < cLine) : CallR X (.builtin "repr") (fun xs H Q => ∃ a d, xs = [.ref a] ∧ Dp X.K H (.ref a) d ∧ d.showable = true ∧ d.hasDict = false ∧ d.depth ≤ 60 ∧ d.shown.length ≤ sizeLine ∧ Q (.str d.shown) H) := by
  intro pins s σ H xs us Q I r h
  obtain ⟨a, d, rfl, hd, hs, hnd, hdp, hz, q⟩ := h
  obtain ⟨u, rfl, e⟩ := vals1 r
  cases e
  obtain ⟨as, rd⟩ := Dp.reads I d _ _ hd (rfl : RelV (.ref a) (.ref a))
  exact repr_of_reads' rd hs (PyData.noDict_hsm hnd) quiet (by omega) (fun _ _ e => e) (fun h' u tk hk => ⟨.str _, H, I.kept hk, ⟨_, rfl⟩, q⟩) hz
end
end My
set_option maxHeartbeats 4000000
/-! set(texts), sorted(set(texts)), len(set(texts)) -/
namespace My
open PySem PySem.Spec PyProof.Rows L2
/-- the text of an entry -/
def txtOf (e : Int × Value) : Str := match e.2 with | .str k _ => k | _ => Str.empty
def GoodT (w : World) (e : Int × Value) : Prop := ∃ k tk, e.2 = Value.str k tk ∧ e.1 = hashStr w k
/-- a set of texts: S its members, n their number -/
def SetTx (w : World) (h : Heap) (a : Addr) (S : Str → Bool) (n : Nat) : Prop :=
  ∃ o es ep t, h.get? a = some o ∧ o.ExactSet ∧ o.data = .set es ep t ∧ (∀ e ∈ es.toList, GoodT w e) ∧ (es.toList.map txtOf).Nodup ∧ (∀ k, S k = true ↔ k ∈ es.toList.map txtOf) ∧
    (es.size < scanBound ∧ t.fits es.size = true ∧ es.size = n) ∧ Ris t.place.toList ∧ (w.params.followText "set-order" = true ∨ t.led = true)
section
variable {P : Program} {w : World} {h h' : Heap} {a : Addr} {S : Str → Bool} {n : Nat}
theorem SetTx.at (R : SetTx w h a S n) (k : ∀ o, h.get? a = some o → h'.get? a = some o) : SetTx w h' a S n := by
  obtain ⟨o, es, ep, t, ho, r⟩ := R
  exact ⟨o, es, ep, t, k o ho, r⟩
theorem SetTx.congr {S' : Str → Bool} {m : Nat} (R : SetTx w h a S n) (e : ∀ k, S' k = S k) (em : n = m) : SetTx w h a S' m := by
  rw [show S' = S from funext e, ← em]
  exact R
theorem goodT_elems {l : List (Int × Value)} (g : ∀ e ∈ l, GoodT w e) : ElemsOf (PySem.strKind P w) l := fun e he => by
  obtain ⟨k, tk, g1, g2⟩ := g e he
  exact ⟨⟨k, by rw [g1]; exact strKind_is P w k tk, g2⟩, by rw [g1]; rfl⟩
theorem goodT_is {e : Int × Value} (g : GoodT w e) (k : Str) : (PySem.strKind P w).is k e.2 = true ↔ txtOf e = k := by
  obtain ⟨k0, tk, g1, _⟩ := g
  unfold txtOf
  rw [g1]
  constructor
  · intro q
    exact (PySem.strKind P w).inj _ _ _ (strKind_is P w k0 tk) q
  · intro q
    show (PySem.strKind P w).is k (.str k0 tk) = true
    rw [show k0 = k from q]
    exact strKind_is P w k tk
theorem goodT_mem {l : List (Int × Value)} (g : ∀ e ∈ l, GoodT w e) (k : Str) : k ∈ l.map txtOf ↔ ∃ e ∈ l, (PySem.strKind P w).is k e.2 = true := by
  rw [List.mem_map]
  exact ⟨fun ⟨e, he, q⟩ => ⟨e, he, (goodT_is (g e he) k).2 q⟩, fun ⟨e, he, q⟩ => ⟨e, he, (goodT_is (P := P) (g e he) k).1 q⟩⟩
theorem SetTx.setOf (R : SetTx w h a S n) : h.SetOf (PySem.strKind P w) a S n := by
  obtain ⟨o, es, ep, t, ho, hx, hd, g, nd, hm, ⟨hb, hf, hn⟩, _⟩ := R
  exact ⟨o, es, ep, t, ho, hx, hd, goodT_elems g, fun k => (hm k).trans (goodT_mem g k), hb, hf, hn⟩
end
section
variable {P : Program} {w : World} {A : Around} {E : Value → Shared → Prop} {s : Shared} {a : Addr} {S : Str → Bool} {n : Nat}
theorem tx_tail {g : Bool → Sem Unit} (hg : ∀ (b : Bool) (s₁ : Shared) (Q' : Unit → Shared → Prop), Q' () s₁ → wpAny (model P w) A (g b) Q' E s₁)
    {o : Obj} {es : Array (Int × Value)} {ep : Nat} {t : SetTable} (ho : s.heap.get? a = some o) (hex : o.ExactSet) (hd : o.data = .set es ep t)
    {es1 : Array (Int × Value)} {t2 : SetTable} {S' : Str → Bool} (g1 : ∀ e ∈ es1.toList, GoodT w e) (nd1 : (es1.toList.map txtOf).Nodup) (m1 : ∀ k, S' k = true ↔ k ∈ es1.toList.map txtOf)
    (room : es1.size < scanBound) (fit : t2.fits es1.size = true) (ris : Ris t2.place.toList) (led : w.params.followText "set-order" = true ∨ t2.led = true) {wasDummy : Bool} {R : Option Bool → Shared → Prop}
    (hR : ∀ h', Heap.SameBut a s.heap h' → SetTx w h' a S' es1.size → R (some true) { s with heap := h' }) :
    wpAny (model P w) A (do
        storeSet a es1 t2
        if (!wasDummy && t2.tooFull) = true then do
            g (relayAll t2 es1 (SetTable.grown es1.size)).2.2
            storeSet a (relayAll t2 es1 (SetTable.grown es1.size)).1 (relayAll t2 es1 (SetTable.grown es1.size)).2.1
            pure (some true)
          else pure (some true)) R E s := by
  refine wpAny_bind (wpAny_storeSet_of ho hd ?_ (fits_of_scanBound room))
  have st1 := store_at (es' := es1) (t' := t2) ho hd
  have same1 := Heap.SameBut.update s.heap a (Obj.putSet es1 t2)
  split
  · have p3 := relayAll_perm t2 es1 (SetTable.grown es1.size)
    have f3 := relayAll_fits t2 es1 (SetTable.grown es1.size)
    have r3 := relayAll_ris t2 es1 (SetTable.grown es1.size)
    have l3 := relayAll_led t2 es1 (SetTable.grown es1.size)
    generalize relayAll t2 es1 (SetTable.grown es1.size) = Z at p3 f3 r3 l3 ⊢
    obtain ⟨es2, t3, gave⟩ := Z
    dsimp only at p3 f3 r3 l3 ⊢
    have z2 : es2.size = es1.size := by rw [← Array.length_toList, p3.length_eq, Array.length_toList]
    have b2 : es2.size < scanBound := by rw [z2]; exact room
    refine wpAny_bind (hg _ _ _ (wpAny_bind (wpAny_storeSet_of st1 rfl ?_ (fits_of_scanBound b2))))
    have st2 := store_at (es' := es2) (t' := t3) st1 rfl
    exact wpAny_pure (hR _ (same1.trans (Heap.SameBut.update _ a _)) ⟨_, es2, _, t3, st2, hex, rfl, fun e he => g1 e (p3.mem_iff.mp he), (p3.map txtOf).nodup_iff.mpr nd1, fun k => (m1 k).trans (p3.map txtOf).mem_iff.symm, ⟨b2, f3, z2⟩, r3, led.imp id fun z => by rw [l3]; exact z⟩)
  · exact wpAny_pure (hR _ same1 ⟨_, es1, _, t2, st1, hex, rfl, g1, nd1, m1, ⟨room, fit, rfl⟩, ris, led⟩)
theorem tx_add {k : Str} {tk : Tok} {Q : Bool → Shared → Prop} (R : SetTx w s.heap a S n) (room : n + 1 < scanBound)
    (hQ : ∀ h', Heap.SameBut a s.heap h' → SetTx w h' a (fun j => S j || decide (j = k)) (if S k = true then n else n + 1) → Q (!S k) { s with heap := h' }) :
    wpAny (model P w) A (setAddHashed a (.str k tk) ((PySem.strKind P w).hash k)) Q E s := by
  obtain ⟨o, es, ep, t, ho, hex, hd, g, nd, hm, ⟨hb, hf, hn⟩, hr, hl⟩ := R
  have is_k : (PySem.strKind P w).is k (.str k tk) = true := strKind_is P w k tk
  have scan : (Value.str k tk).scannable = true := rfl
  have elems : ElemsOf (PySem.strKind P w) es.toList := goodT_elems g
  unfold setAddHashed setAddHashedIn
  refine wpAny_holding (wpAny_bind (wpAny_setState_of ho hd hf ?_))
  dsimp only
  rw [byScan_of scan hb elems]
  simp only [↓reduceIte]
  unfold setAddByScan
  refine wpAny_bind (wpAny_bind (wpAny_rule ?_))
  refine wpAny_bind (wpAny_setScan_of is_k ho hd hf elems ?_)
  cases at_ : List.findIdx? (fun e => (PySem.strKind P w).is k e.2) es.toList with
  | some j =>
    dsimp only
    obtain ⟨hj, pj, _⟩ := List.findIdx?_eq_some_iff_getElem.mp at_
    have inS : S k = true := (hm k).2 ((goodT_mem (P := P) g k).2 ⟨es.toList[j], List.getElem_mem hj, pj⟩)
    refine wpAny_pure (wpAny_pure ?_)
    have q := hQ s.heap (Heap.SameBut.refl a s.heap) ⟨o, es, ep, t, ho, hex, hd, g, nd, fun i => by
      rw [Bool.or_eq_true, decide_eq_true_eq, ← hm i]
      exact ⟨fun z => z.elim id (fun e => e ▸ inS), .inl⟩, ⟨hb, hf, by rw [if_pos inS]; exact hn⟩, hr, hl⟩
    rw [inS] at q
    exact q
  | none =>
    dsimp only
    have out : k ∉ es.toList.map txtOf := fun z => by
      obtain ⟨e, he, q⟩ := (goodT_mem (P := P) g k).1 z
      have c := List.findIdx?_eq_none_iff.mp at_ e he
      rw [q] at c
      cases c
    have noS : S k = false := by
      cases q : S k with
      | false => rfl
      | true => exact absurd ((hm k).1 q) out
    have gave_ : ∀ (b : Bool) {s₁ : Shared} {Q' : Unit → Shared → Prop}, Q' () s₁ → wpAny (model P w) A (match b with | true => rule "set.scan.the-table-gave-way" | false => pure ()) Q' E s₁ :=
      fun b s₁ Q' q => by cases b <;> first | exact wpAny_pure q | exact wpAny_rule q
    have p1 := layNew_perm t es ((PySem.strKind P w).hash k) (.str k tk)
    have f1 := layNew_fits t es ((PySem.strKind P w).hash k) (.str k tk)
    have r1 := layNew_ris t es ((PySem.strKind P w).hash k) (.str k tk) hr
    have l1 := layNew_led t es ((PySem.strKind P w).hash k) (.str k tk)
    generalize layNew t es ((PySem.strKind P w).hash k) (.str k tk) = Z at p1 f1 r1 l1 ⊢
    obtain ⟨es1, t1, wasDummy, gave⟩ := Z
    dsimp only at p1 f1 r1 l1 ⊢
    rw [Array.toList_push] at p1
    have pc : es1.toList.Perm (((PySem.strKind P w).hash k, Value.str k tk) :: es.toList) := p1.trans (List.perm_append_singleton _ _)
    have pk : (es1.toList.map txtOf).Perm (k :: es.toList.map txtOf) := pc.map txtOf
    have g1 : ∀ e ∈ es1.toList, GoodT w e := fun e he => by
      rcases List.mem_cons.mp (pc.mem_iff.mp he) with z | z
      · rw [z]; exact ⟨k, tk, rfl, rfl⟩
      · exact g e z
    have nd1 : (es1.toList.map txtOf).Nodup := pk.nodup_iff.mpr (List.nodup_cons.mpr ⟨out, nd⟩)
    have m1 : ∀ i, (S i || decide (i = k)) = true ↔ i ∈ es1.toList.map txtOf := fun i => by
      rw [Bool.or_eq_true, decide_eq_true_eq, hm i, pk.mem_iff, List.mem_cons]
      exact Or.comm
    have z1 : es1.size = n + 1 := by rw [← Array.length_toList, pc.length_eq, List.length_cons, Array.length_toList, hn]
    have b1 : es1.size < scanBound := by rw [z1]; exact room
    have led1 : w.params.followText "set-order" = true ∨ t1.led = true := hl.imp id fun z => by rw [l1]; exact z
    have fin : ∀ h', Heap.SameBut a s.heap h' → SetTx w h' a (fun j => S j || decide (j = k)) es1.size → Q true { s with heap := h' } := fun h' sb r => by
      have q := hQ h' sb
      rw [noS] at q
      rw [z1] at r
      exact q r
    refine wpAny_bind (gave_ _ ?_)
    split
    · refine wpAny_bind ?_
      rw [hashByValue_scannable 8 scan]
      refine wpAny_pure ?_
      refine tx_tail ?_ ho hex hd g1 nd1 m1 b1 ?_ ?_ ?_ ?_
      · intro b s₁ Q' q; cases b <;> first | exact wpAny_pure q | exact wpAny_rule q
      · first | (split <;> first | exact f1 | exact SetTable.fits_plain_off f1) | exact f1
      · first | (split <;> exact r1) | exact r1
      · first | (split <;> exact led1) | exact led1
      · intro h' sb r; dsimp only; exact wpAny_pure (fin h' sb r)
    · refine wpAny_bind (wpAny_pure ?_)
      simp only [↓reduceIte]
      refine tx_tail ?_ ho hex hd g1 nd1 m1 b1 f1 r1 led1 ?_
      · intro b s₁ Q' q; cases b <;> first | exact wpAny_pure q | exact wpAny_rule q
      · intro h' sb r; dsimp only; exact wpAny_pure (fin h' sb r)
end
end My
set_option maxHeartbeats 4000000
namespace My
open PySem PySem.Spec PyProof.Rows L2
abbrev hasT (xs : List Str) : Str → Bool := fun k => decide (k ∈ xs)
theorem hasT_snoc (xs : List Str) (x : Str) (k : Str) : hasT (xs ++ [x]) k = (hasT xs k || decide (k = x)) := by
  unfold hasT
  by_cases c : k = x
  · simp [c]
  · simp [c]
section
variable {prog : Program} {w : World} {A : Around} {R : Result → Shared → Prop} {I : Addr} {fp wr : List Addr} {G : Array GenState → Array GenState → Prop} {n : Nat} {Pw : Nat → Value → Prop} {St : Nat → Shared → Prop}
/-- the texts of an iterator put into a set -/
theorem put_texts (W : WalksS prog w A.in1 I fp wr G n Pw St) (a : Addr) (away : a ∉ fp) (xs : List Str) (size : xs.length = n) (few : n + 1 < scanBound)
    (reads : ∀ i v, Pw i v → ∃ t x, xs[i]? = some x ∧ v = .str x t) :
    ∀ (k i m : Nat) (s : Shared), n - i = k → i ≤ n → m ≤ i → St i s → SetTx w s.heap a (hasT (xs.take i)) m →
      (∀ s' m', Moved (a :: wr) G s s' → m' ≤ n → SetTx w s'.heap a (hasT xs) m' → R (.ok (.ret .none)) s') →
      codeAny (model prog w) A (.builtin "set.update.loop" ⟨[.ref a, .ref I], []⟩) R s := by
  have apart : a ∉ wr := fun z => away (W.sub _ z)
  have wider : ∀ b ∈ wr, b ∈ a :: wr := fun b hb => List.mem_cons_of_mem _ hb
  intro k
  induction k with
  | zero =>
    intro i m s hk hi hm hst hS hR
    obtain rfl : i = n := by omega
    rw [← size, List.take_length] at hS
    refine codeAny_builtin PyProof.Rows.F.entry_set_update_loop ?_
    rw [Around.under_plainId PyProof.Rows.F.plain_set_update_loop _]
    show wpAny _ A.in1 (pyNext (.ref I) >>= _) _ _ s
    refine wpAny_bind (W.done s _ _ hst fun s' hm' => ?_)
    show wpAny _ A.in1 (ret Value.none) _ _ s'
    exact wpAny_pure (hR s' m (hm'.mono wider) hm (hS.at fun o e => hm'.heap a _ apart e))
  | succ k ih =>
    intro i m s hk hi hm hst hS hR
    have hlt : i < n := by omega
    refine codeAny_builtin PyProof.Rows.F.entry_set_update_loop ?_
    rw [Around.under_plainId PyProof.Rows.F.plain_set_update_loop _]
    show wpAny _ A.in1 (pyNext (.ref I) >>= _) _ _ s
    refine wpAny_bind (W.item i s _ _ hlt hst fun v s' hPv hst' hm' => ?_)
    obtain ⟨t, x, hx, rfl⟩ := reads i v hPv
    have hS' : SetTx w s'.heap a (hasT (xs.take i)) m := hS.at fun o e => hm'.heap a _ apart e
    show wpAny _ A.in1 (holding [Value.str x t] (setAdd a (.str x t)) >>= _) _ _ s'
    refine wpAny_bind (wpAny_holding ?_)
    unfold setAdd
    refine wpAny_holding (wpAny_bind ((PySem.strKind prog w).pyHash (k := x) (strKind_is _ _ _ _) ?_))
    refine tx_add (P := prog) (s := { s' with toks := s'.toks + 1 }) hS' (by omega) fun h' sb hS2 => ?_
    have hS3 : SetTx w h' a (hasT (xs.take (i + 1))) (if hasT (xs.take i) x = true then m else m + 1) := by
      refine hS2.congr (fun k' => ?_) rfl
      rw [show xs.take (i + 1) = xs.take i ++ [x] by rw [List.take_succ, hx]; rfl, hasT_snoc]
    refine wpAny_pure ⟨plainId_quiet PyProof.Rows.F.plain_set_update_loop _, ih (i + 1) _ _ (by omega) hlt (by split <;> omega) (W.frame _ s' _ _ hst' (Nat.le_succ _) fun b hb o e => ?_) hS3 fun s'' m'' hm'' hle hS'' => ?_⟩
    · rw [sb.2 b (fun z : b = a => away (by rw [← z]; exact hb))]; exact e
    · refine hR s'' m'' (Moved.trans W.gtrans ((hm'.mono wider).then_heap (Nat.le_succ _) fun b o hb e => ?_) hm'') hle hS''
      rw [sb.2 b (fun z : b = a => hb (by rw [z]; exact List.mem_cons_self))]; exact e
end
def newSet (w : World) : Obj := { cls := .type "set", dict := none, data := .set #[] 0 (.fresh 0 0 (!w.params.followText "set-order")) }
theorem newSet_tx (w : World) {h : Heap} : SetTx w (h.push (newSet w)) h.objs.size (fun _ => false) 0 :=
  ⟨_, #[], 0, _, Heap.get?_push_size _ rfl, ⟨rfl, rfl, rfl⟩, rfl, (fun e he => by simp at he), (by simp), (fun k => by simp), ⟨(by decide), (by rfl), rfl⟩, List.Pairwise.nil, by
    show _ ∨ (!w.params.followText "set-order") = true
    cases w.params.followText "set-order"
    · exact Or.inr rfl
    · exact Or.inl rfl⟩
section
variable {prog : Program} {w : World} {A : Around} {E : Value → Shared → Prop} {s : Shared}
theorem set_made (a : Value) {Q₁ : Value → Shared → Prop} (h : Q₁ (.ref s.heap.objs.size) { s with heap := s.heap.push (newSet w) }) :
    codeAny (model prog w) A (.call (.builtin "set.__new__") ⟨[.type "set", a], []⟩) (wants Q₁ E) s := by
  refine codeAny_of_tree ?_
  show wpAny _ A.in1 (do checkBuiltinCall "set.__new__" ⟨[.type "set", a], []⟩; again (.builtin "set.__new__" ⟨[.type "set", a], []⟩)) _ _ s
  refine wpAny_bind (wpAny_of_eq (PySem.F.newCall_set_1 a) (wpAny_pure ⟨plainId_quiet PySem.F.plain_set_new _, codeAny_builtin PySem.F.entry_set_new ?_⟩))
  rw [Around.under_plainId PySem.F.plain_set_new _]
  unfold Builtin.«set.__new__» Builtin.Frozenset.newClass
  have hsub := sub_set_self
  obtain ⟨hp, g, d, tk, os⟩ := s
  dsimp only
  wp_walk
  refine wpAny_askSetting (wpAny_pure ?_)
  dsimp only
  simp only [newObj]
  exact wpAny_bind (wpAny_alloc (wpAny_pure (wpAny_pure h)))
set_option maxHeartbeats 3200000 in
theorem set_of_list {q : Addr} {ys : Array Value} {xs : List Str} {Q : Value → Shared → Prop}
    (calm : A.handled = none) (hq : s.heap.IsList q ys) (hx : PyProof.Rows.StrsAre ys.toList xs) (few : xs.length + 1 < scanBound)
    (k : ∀ (h' : Heap) (tk m : Nat), m ≤ xs.length → SetTx w h' s.heap.objs.size (hasT xs) m →
      (∀ b o, b < s.heap.objs.size → s.heap.get? b = some o → h'.get? b = some o) → Q (.ref s.heap.objs.size) { s with heap := h', toks := tk }) :
    wpAny (model prog w) A (call (.type "set") [.ref q]) Q E s := by
  obtain ⟨c, tl, hmro⟩ := PySem.F.called_set.mro
  have hmade := PySem.F.called_set.made
  have hsub := PySem.F.called_set.sub
  refine wpAny_call (codeAny_of_tree ?_)
  show wpAny _ _ (callAny (.type "set") _) _ _ _
  refine wpAny_pure ⟨Code.quiet_builtin _ (by decide +kernel), codeAny_builtin PySem.F.entry_type_call ?_⟩
  rw [Around.under_plain (weight_type_call_type "set" [.ref q] []) rfl]
  have h1 := PySem.F.called_set.notType
  have h2 := PySem.F.called_set.canCreate
  have hct := PySem.F.typeCall_set_1 (.ref q)
  repeat (any_goals (first | assumption | wp_step))
  refine codeAny_mono (set_made (w := w) (.ref q) (E := E) (Q₁ := fun obj s₁ => obj = .ref s.heap.objs.size ∧ s₁ = { s with heap := s.heap.push (newSet w) }) ⟨rfl, rfl⟩) fun r s₁ hr => ?_
  cases r with
  | error e => exact hr
  | ok fl =>
    cases fl with
    | ret obj =>
      obtain ⟨rfl, rfl⟩ := hr
      have hS : (s.heap.push (newSet w)).get? s.heap.objs.size = some (newSet w) := Heap.get?_push_size _ rfl
      have hT : Shared.TypeIs { s with heap := s.heap.push (newSet w) } (.ref s.heap.objs.size) "set" := ⟨_, hS, rfl⟩
      have hli := PySem.F.called_set.init.lookup
      have hbi := PySem.F.called_set.init.bind (.ref s.heap.objs.size)
      repeat (any_goals (first | assumption | wp_step))
      refine codeAny_mono (codeAny_call_builtin (R := wants (fun r s₂ => r = .none ∧ ∃ h' tk m, s₂ = { s with heap := h', toks := tk } ∧ m ≤ xs.length ∧
          SetTx w h' s.heap.objs.size (hasT xs) m ∧
          (∀ b o, b < s.heap.objs.size → s.heap.get? b = some o → h'.get? b = some o)) E) PySem.F.called_set.init.plain PySem.F.entry_set_init (check_set_init_1 hT ?_)) fun r₂ s₂ hr₂ => ?_
      · obtain ⟨ol, hol, hcl, nl, hdl⟩ := hq
        obtain ⟨ocls, odict, odata, oslots⟩ := ol
        simp only at hcl hdl
        subst hcl; subst hdl
        have hol' : (s.heap.push (newSet w)).get? q = some { cls := .type "list", dict := odict, data := .seq ys nl, slots := oslots } := Heap.get?_push_of_some _ hol
        have hsls := PySem.F.sub_list_set
        have hslf := PySem.F.sub_list_frozenset
        have hne : (Value.type "list" == Value.type "dict") = false := by decide
        have hl1 : (s.heap.push (newSet w)).IsList q ys := ⟨_, hol', rfl, nl, rfl⟩
        unfold Builtin.«set.__init__» noKeywords Builtin.Frozenset.updateFrom
        generalize hPI : pyIter = PI
        wp_walk
        subst hPI
        refine wpAny_pyIter_list hl1 (wpAny_bind (wpAny_runValue ?_))
        have qS : q < s.heap.objs.size := Heap.lt_size hol
        have calm3 : A.in1.in1.in1.handled = none := by simp [calm]
        have z1 : (s.heap.push (newSet w)).objs.size = s.heap.objs.size + 1 := Heap.size_push ..
        have qI : q ≠ (s.heap.push (newSet w)).objs.size := by
          rw [z1]; exact Nat.ne_of_lt (Nat.lt_succ_of_lt qS)
        have away : s.heap.objs.size ∉ [(s.heap.push (newSet w)).objs.size, q] := by
          rw [z1]; simp only [List.mem_cons, List.mem_singleton, List.not_mem_nil, or_false, not_or]
          exact ⟨Nat.ne_of_lt (Nat.lt_succ_self _), Nat.ne_of_gt qS⟩
        have sz : xs.length = ys.size := by rw [← StrsAre.len_eq hx, Array.length_toList]
        have rd : ∀ (i : Nat) (v : Value), ys[i]? = some v → ∃ t x, xs[i]? = some x ∧ v = .str x t := fun i v hv => by
          obtain ⟨t, e⟩ := SS.strs_at hx i v (by rw [Array.getElem?_toList]; exact hv)
          have hi : i < xs.length := by rw [sz]; exact (Array.getElem?_eq_some_iff.mp hv).1
          exact ⟨t, xs[i], List.getElem?_eq_getElem hi, by rw [e, List.getD_eq_getElem?_getD, List.getElem?_eq_getElem hi]; rfl⟩
        refine put_texts ((Walks.list calm3 _ q qI ys).toS) s.heap.objs.size
          away xs sz (by omega) rd (ys.size - 0) 0 0 _ rfl (Nat.zero_le _) (Nat.zero_le _)
          ⟨⟨_, Heap.get?_push_size _ rfl, rfl, rfl⟩, (hl1.push _)⟩ ?start ?end_
        case start =>
          exact (SetTx.congr (newSet_tx w) (fun k => by simp [hasT]) rfl).at fun o e => Heap.get?_push_of_some _ e
        case end_ =>
          intro s' m hm hle hS'
          obtain ⟨h', g', d', tk', os'⟩ := s'
          cases (show g' = s.gens from hm.gens)
          cases (show d' = s.drawn from hm.drawn)
          cases (show os' = s.os from hm.os)
          show wpAny _ _ _ _ _ _
          refine wpAny_pure ?_
          show wpAny _ _ (ret Value.none) _ _ _
          refine wpAny_pure ⟨rfl, h', tk', m, rfl, by rw [sz]; exact hle, hS', fun b o hb e => ?_⟩
          have b1 : b ≠ s.heap.objs.size := Nat.ne_of_lt hb
          have b2 : b ≠ (s.heap.push (newSet w)).objs.size := by
            rw [z1]; exact Nat.ne_of_lt (Nat.lt_succ_of_lt hb)
          exact hm.heap b o (by simp only [List.mem_cons, List.mem_singleton, List.not_mem_nil, or_false, not_or]; exact ⟨b1, b2⟩) (Heap.get?_push_of_some _ (Heap.get?_push_of_some _ e))
      · cases r₂ with
        | error e => exact hr₂
        | ok fl₂ =>
          cases fl₂ with
          | ret r =>
            obtain ⟨rfl, h', tk, m, rfl, hle, hS', keep⟩ := hr₂
            repeat (any_goals (first | assumption | wp_step))
            exact k _ _ m hle hS' keep
          | _ => exact hr₂.elim
    | _ => exact hr.elim
set_option maxHeartbeats 3200000 in
theorem set_of_tuple {q : Addr} {ys : Array Value} {xs : List Str} {Q : Value → Shared → Prop}
    (calm : A.handled = none) (hq : s.heap.IsTuple q ys) (hx : PyProof.Rows.StrsAre ys.toList xs) (few : xs.length + 1 < scanBound)
    (k : ∀ (h' : Heap) (tk m : Nat), m ≤ xs.length → SetTx w h' s.heap.objs.size (hasT xs) m →
      (∀ b o, b < s.heap.objs.size → s.heap.get? b = some o → h'.get? b = some o) → Q (.ref s.heap.objs.size) { s with heap := h', toks := tk }) :
    wpAny (model prog w) A (call (.type "set") [.ref q]) Q E s := by
  obtain ⟨c, tl, hmro⟩ := PySem.F.called_set.mro
  have hmade := PySem.F.called_set.made
  have hsub := PySem.F.called_set.sub
  refine wpAny_call (codeAny_of_tree ?_)
  show wpAny _ _ (callAny (.type "set") _) _ _ _
  refine wpAny_pure ⟨Code.quiet_builtin _ (by decide +kernel), codeAny_builtin PySem.F.entry_type_call ?_⟩
  rw [Around.under_plain (weight_type_call_type "set" [.ref q] []) rfl]
  have h1 := PySem.F.called_set.notType
  have h2 := PySem.F.called_set.canCreate
  have hct := PySem.F.typeCall_set_1 (.ref q)
  repeat (any_goals (first | assumption | wp_step))
  refine codeAny_mono (set_made (w := w) (.ref q) (E := E) (Q₁ := fun obj s₁ => obj = .ref s.heap.objs.size ∧ s₁ = { s with heap := s.heap.push (newSet w) }) ⟨rfl, rfl⟩) fun r s₁ hr => ?_
  cases r with
  | error e => exact hr
  | ok fl =>
    cases fl with
    | ret obj =>
      obtain ⟨rfl, rfl⟩ := hr
      have hS : (s.heap.push (newSet w)).get? s.heap.objs.size = some (newSet w) := Heap.get?_push_size _ rfl
      have hT : Shared.TypeIs { s with heap := s.heap.push (newSet w) } (.ref s.heap.objs.size) "set" := ⟨_, hS, rfl⟩
      have hli := PySem.F.called_set.init.lookup
      have hbi := PySem.F.called_set.init.bind (.ref s.heap.objs.size)
      repeat (any_goals (first | assumption | wp_step))
      refine codeAny_mono (codeAny_call_builtin (R := wants (fun r s₂ => r = .none ∧ ∃ h' tk m, s₂ = { s with heap := h', toks := tk } ∧ m ≤ xs.length ∧
          SetTx w h' s.heap.objs.size (hasT xs) m ∧
          (∀ b o, b < s.heap.objs.size → s.heap.get? b = some o → h'.get? b = some o)) E) PySem.F.called_set.init.plain PySem.F.entry_set_init (check_set_init_1 hT ?_)) fun r₂ s₂ hr₂ => ?_
      · obtain ⟨ol, hol, hcl, nl, hdl⟩ := hq
        obtain ⟨ocls, odict, odata, oslots⟩ := ol
        simp only at hcl hdl
        subst hcl; subst hdl
        have hol' : (s.heap.push (newSet w)).get? q = some { cls := .type "tuple", dict := odict, data := .seq ys nl, slots := oslots } := Heap.get?_push_of_some _ hol
        have hsls := PySem.F.sub_tuple_set
        have hslf := PySem.F.sub_tuple_frozenset
        have hne : (Value.type "tuple" == Value.type "dict") = false := by decide
        have hl1 : (s.heap.push (newSet w)).IsTuple q ys := ⟨_, hol', rfl, nl, rfl⟩
        unfold Builtin.«set.__init__» noKeywords Builtin.Frozenset.updateFrom
        generalize hPI : pyIter = PI
        wp_walk
        subst hPI
        refine wpAny_pyIter_tuple hl1 (wpAny_bind (wpAny_runValue ?_))
        have qS : q < s.heap.objs.size := Heap.lt_size hol
        have calm3 : A.in1.in1.in1.handled = none := by simp [calm]
        have z1 : (s.heap.push (newSet w)).objs.size = s.heap.objs.size + 1 := Heap.size_push ..
        have qI : q ≠ (s.heap.push (newSet w)).objs.size := by
          rw [z1]; exact Nat.ne_of_lt (Nat.lt_succ_of_lt qS)
        have away : s.heap.objs.size ∉ [(s.heap.push (newSet w)).objs.size, q] := by
          rw [z1]; simp only [List.mem_cons, List.mem_singleton, List.not_mem_nil, or_false, not_or]
          exact ⟨Nat.ne_of_lt (Nat.lt_succ_self _), Nat.ne_of_gt qS⟩
        have sz : xs.length = ys.size := by rw [← StrsAre.len_eq hx, Array.length_toList]
        have rd : ∀ (i : Nat) (v : Value), ys[i]? = some v → ∃ t x, xs[i]? = some x ∧ v = .str x t := fun i v hv => by
          obtain ⟨t, e⟩ := SS.strs_at hx i v (by rw [Array.getElem?_toList]; exact hv)
          have hi : i < xs.length := by rw [sz]; exact (Array.getElem?_eq_some_iff.mp hv).1
          exact ⟨t, xs[i], List.getElem?_eq_getElem hi, by rw [e, List.getD_eq_getElem?_getD, List.getElem?_eq_getElem hi]; rfl⟩
        refine put_texts ((Walks.tuple calm3 _ q qI ys).toS) s.heap.objs.size
          away xs sz (by omega) rd (ys.size - 0) 0 0 _ rfl (Nat.zero_le _) (Nat.zero_le _)
          ⟨⟨_, Heap.get?_push_size _ rfl, rfl, rfl⟩, (hl1.push _)⟩ ?start ?end_
        case start =>
          exact (SetTx.congr (newSet_tx w) (fun k => by simp [hasT]) rfl).at fun o e => Heap.get?_push_of_some _ e
        case end_ =>
          intro s' m hm hle hS'
          obtain ⟨h', g', d', tk', os'⟩ := s'
          cases (show g' = s.gens from hm.gens)
          cases (show d' = s.drawn from hm.drawn)
          cases (show os' = s.os from hm.os)
          show wpAny _ _ _ _ _ _
          refine wpAny_pure ?_
          show wpAny _ _ (ret Value.none) _ _ _
          refine wpAny_pure ⟨rfl, h', tk', m, rfl, by rw [sz]; exact hle, hS', fun b o hb e => ?_⟩
          have b1 : b ≠ s.heap.objs.size := Nat.ne_of_lt hb
          have b2 : b ≠ (s.heap.push (newSet w)).objs.size := by
            rw [z1]; exact Nat.ne_of_lt (Nat.lt_succ_of_lt hb)
          exact hm.heap b o (by simp only [List.mem_cons, List.mem_singleton, List.not_mem_nil, or_false, not_or]; exact ⟨b1, b2⟩) (Heap.get?_push_of_some _ (Heap.get?_push_of_some _ e))
      · cases r₂ with
        | error e => exact hr₂
        | ok fl₂ =>
          cases fl₂ with
          | ret r =>
            obtain ⟨rfl, h', tk, m, rfl, hle, hS', keep⟩ := hr₂
            repeat (any_goals (first | assumption | wp_step))
            exact k _ _ m hle hS' keep
          | _ => exact hr₂.elim
    | _ => exact hr.elim
end
end My
set_option maxHeartbeats 4000000
namespace My
open PySem PySem.Spec PyProof.Rows L2
/-! ### sorted(a set of texts), len of it -/
def textIn : Value → Str | .str x _ => x | _ => Str.empty
theorem each_text : ∀ l : List Value, (∀ v ∈ l, ∃ k tk, v = Value.str k tk) → PySem.W.EachIs (fun v b => ∃ t, v = Value.str b t) l (l.map textIn)
  | [], _ => .nil
  | v :: l, h => by
    obtain ⟨k, tk, rfl⟩ := h v List.mem_cons_self
    exact .cons ⟨tk, rfl⟩ (each_text l fun u hu => h u (List.mem_cons_of_mem _ hu))
theorem vals_text : ∀ {out : List Value} {M : List Str}, PySem.W.EachIs (fun v b => ∃ t, v = Value.str b t) out M → Vals (M.map V.str) out
  | _, _, .nil => .nil
  | _, _, .cons h t => .cons (show RelV _ _ from h) (vals_text t)
section
variable {P : Program} {w : World} {A : Around} {E : Value → Shared → Prop} {s : Shared} {a : Addr} {S : Str → Bool} {n : Nat}
theorem sorted_texts {Q : Value → Shared → Prop} (R : SetTx w s.heap a S n) (calm : A.handled = none) (small : n ≤ 100000) (hu : A.units + 64 < cLine)
    (hQ : ∀ s' p (out : Array Value) (c : Nat) (M : List Str), (∀ b o, s.heap.get? b = some o → s'.heap.get? b = some o) → s'.gens = s.gens → s'.os = s.os → s.heap.objs.size ≤ p →
      s'.heap.get? p = some (seqObj "list" out c) → Vals (M.map V.str) out.toList → M.Pairwise sLt → (∀ k, k ∈ M ↔ S k = true) → M.length = n → Q (.ref p) s') :
    wpAny (model P w) A (call (.builtin "sorted") [.ref a]) Q E s := by
  obtain ⟨o, es, ep, t, ho, hex, hd, g, nd, hm, ⟨hb, hf, hn⟩, hr, hl⟩ := R
  have line : n ≤ sizeLine := Nat.le_trans small (by decide)
  refine Calls.call_function_entry kind_sorted plain_sorted entry_sorted (args_sorted1 _) ?_
  unfold Builtin.«sorted»
  refine wpAny_bind (m := checkCount "sorted" 1 1 _) (wpAny_pure ?_)
  refine wpAny_bind (collect_set (A := A.in1) calm ⟨o, ho, hex.1, hd⟩ hf hb hr hl fun s1 vs k1 hz g1 o1 pm => ?_)
  have many : vs.length = n := by rw [pm.length_eq, List.length_map, Array.length_toList]; exact hn
  have each := each_text vs fun v hv => by
    obtain ⟨e, he, q⟩ := List.mem_map.mp (pm.mem_iff.mp hv)
    obtain ⟨k, tk, h1, _⟩ := g e he
    exact ⟨k, tk, by rw [← q]; exact h1⟩
  have pk : (vs.map textIn).Perm (es.toList.map txtOf) := by
    have q := pm.map textIn
    rw [List.map_map] at q
    exact q
  have nd2 : (vs.map textIn).Nodup := pk.nodup_iff.mpr nd
  refine wpAny_bind (wpAny_newList ?_ (by rw [many]; exact line))
  have laid : (s1.heap.push (seqObj "list" vs.toArray 0)).get? s1.heap.objs.size = some (seqObj "list" vs.toArray 0) := Heap.get?_push_size _ rfl
  refine wpAny_bind (wpAny_holding (PySem.W.list_sort_data (s := { s1 with heap := s1.heap.push (seqObj "list" vs.toArray 0) }) (enc := PyData.str) (bs := vs.map textIn) laid each (each.mono fun v b ⟨t, e⟩ => ⟨[], by rw [e]; exact .str _ _, by simp⟩) ?_ ?_ ?_ ?_ fun out len outs => ?_))
  · intro d hd d' hd'
    obtain ⟨x, _, rfl⟩ := List.mem_map.mp hd
    obtain ⟨y, _, rfl⟩ := List.mem_map.mp hd'
    rfl
  · exact .others (enc := PyData.str) fun b => ⟨fun z => (by cases z), fun xs z => (by cases z)⟩
  · rw [List.length_map, many]; exact line
  · intro b _
    show A.units + 1 + 1 + 0 < cLine
    omega
  · obtain ⟨c, hc⟩ := sortedHeap_at (vs := vs) (out := out.toArray) laid
    rw [show PySem.W.dataLe false PyData.str = leS from dataLe_s] at outs
    have pn : ((vs.map textIn).mergeSort leS).Perm (es.toList.map txtOf) := (List.mergeSort_perm _ _).trans pk
    refine wpAny_pure ⟨_, rfl, hQ _ s1.heap.objs.size out.toArray c ((vs.map textIn).mergeSort leS) (fun b u e => ?_) g1 o1 hz hc (by simpa using vals_text outs) (texts_of nd2) (fun k => by rw [pn.mem_iff, ← hm k]) ?_⟩
    · have q := k1 b u e
      have hlt := Heap.lt_size q
      show (sortedHeap (s1.heap.push (seqObj "list" vs.toArray 0)) s1.heap.objs.size vs out.toArray).get? b = some u
      rw [sortedHeap_old (Nat.ne_of_lt hlt) (by rw [size_push']; exact Nat.lt_succ_of_lt hlt)]
      exact Heap.get?_push_of_some _ q
    · rw [pn.length_eq, List.length_map, Array.length_toList]; exact hn
end
/-- a set of texts in the heap -/
def TxO (w : World) (a : Addr) (S : Str → Bool) (n : Nat) : HO := .ext fun h => SetTx w h a S n
section
variable {X : Cx}
theorem txO_new {w : World} {P : Program} {H : Hp} {h : Heap} {a : Addr} {S : Str → Bool} {n : Nat} (R : SetTx w h a S n) : ObjOk P w H h a (TxO w a S n) := by
  have ⟨o, _, _, _, ho, _⟩ := R
  exact ⟨R, ⟨o, ho⟩, fun _ _ p k => SetTx.at p k⟩
theorem txO_get {pins : List (Addr × Obj)} {σ : L2.St} {H : Hp} {s : Shared} {a : Addr} {S : Str → Bool} {n : Nat} (I : Inv X pins σ H s) (ha : H a = some (TxO X.w a S n)) : SetTx X.w s.heap a S n := (I.hok a _ ha).1
/-- sorted(found) -/
def rSortTx (w : World) : List V → Hp → VK → Prop := fun vs H Q => ∃ (a : Addr) (S : Str → Bool) (n : Nat), vs = [V.ref a] ∧ H a = some (TxO w a S n) ∧ n ≤ 100000 ∧
  ∀ (M : List Str) (p : Addr), M.Pairwise sLt → (∀ k : Str, k ∈ M ↔ S k = true) → M.length = n → H p = none → Q (.ref p) (upd H p (.lst (M.map V.str)))
theorem cr_sortTx (hc : X.calm = true) (hu : X.A.units + 64 < cLine) : CallR X (.builtin "sorted") (rSortTx X.w) := by
  intro pins s σ H vs us Q I r h
  obtain ⟨a, S, n, rfl, ha, small, q⟩ := h
  have R := txO_get I ha
  rw [Vals.ref1 r]
  refine sorted_texts R (I.ok.hd hc) small hu fun s' p out c M k g o hp hg hv hs hm hl => ?_
  have line : (M.map V.str).length ≤ sizeLine := by rw [List.length_map, hl]; exact Nat.le_trans small (by decide)
  have free : H p = none := I.hok.fresh hp
  have J : Inv X pins σ (upd H p (.lst (M.map V.str))) { s with heap := s'.heap, gens := s'.gens, drawn := s'.drawn, toks := s'.toks } :=
    I.call (ch := []) (Un.laid k hp free) (I.hok.laid k hp ⟨line, out.toList, c, hv, hg⟩) (by rw [g]; exact I.bare) (fun _ z => nomatch z)
  have same : s' = { s with heap := s'.heap, gens := s'.gens, drawn := s'.drawn, toks := s'.toks } := by
    cases s'
    cases s
    cases o
    rfl
  rw [same]
  exact ⟨.ref p, _, J, rfl, q M p hs hm hl free⟩
/-- len(found) -/
theorem cr_lenTx : CallR X (.builtin "len") (fun vs H Q => ∃ (a : Addr) (S : Str → Bool) (n : Nat), vs = [V.ref a] ∧ H a = some (TxO X.w a S n) ∧ n ≤ 100000 ∧ Q (.int (n : Int)) H) := by
  intro pins s σ H vs us Q I r h
  obtain ⟨a, S, n, rfl, ha, small, q⟩ := h
  obtain ⟨o, es, ep, t, ho, hex, hd, _, _, _, ⟨_, hf, hn⟩, _⟩ := txO_get I ha
  rw [Vals.ref1 r]
  exact call_len_set ho hex hd hf (by rw [hn]; omega) ⟨.int (n : Int), H, I.tok _, ⟨_, by rw [hn]⟩, q⟩
end
end My
set_option maxHeartbeats 4000000
namespace My
open PySem PySem.Spec PyProof.Rows L2
theorem tx_many {w : World} {h : Heap} {a : Addr} {xs : List Str} {n : Nat} (R : SetTx w h a (hasT xs) n) (D : List Str) (hD : D.Nodup) (hm : ∀ k, k ∈ D ↔ k ∈ xs) : D.length = n := by
  obtain ⟨o, es, ep, t, _, _, _, _, nd, hS, ⟨_, _, hn⟩, _⟩ := R
  have p : D.Perm (es.toList.map txtOf) := (List.perm_ext_iff_of_nodup hD nd).mpr fun k => by
    rw [hm, ← hS k]
    unfold hasT
    rw [decide_eq_true_iff]
  rw [p.length_eq, List.length_map, Array.length_toList, hn]
section
variable {X : Cx}
/-- set(texts) -/
def rSetTx (K : PySem.W.Frag) (w : World) : List V → Hp → VK → Prop := fun vs H Q => ∃ (l : Addr) (xs : List Str), vs = [V.ref l] ∧ (SqL K H l (xs.map V.str) ∨ SqT K H l (xs.map V.str)) ∧ xs.length ≤ 1000 ∧
  ∀ (p : Addr) (n : Nat), (∀ D : List Str, D.Nodup → (∀ k, k ∈ D ↔ k ∈ xs) → D.length = n) → n ≤ xs.length → H p = none → Q (.ref p) (upd H p (TxO w p (hasT xs) n))
theorem cr_setTx (hc : X.calm = true) : CallR X (.type "set") (rSetTx X.K X.w) := by
  intro pins s σ H vs us Q I r h
  obtain ⟨l, xs, rfl, hq, small, q⟩ := h
  rw [Vals.ref1 r]
  have few : xs.length + 1 < scanBound := by unfold scanBound; omega
  have fin : ∀ (h' : Heap) (tk m : Nat), m ≤ xs.length → SetTx X.w h' s.heap.objs.size (hasT xs) m → (∀ b o, b < s.heap.objs.size → s.heap.get? b = some o → h'.get? b = some o) →
      EP X pins σ Q (.ref s.heap.objs.size) { s with heap := h', toks := tk } := fun h' tk m hle R keep =>
    ⟨.ref _, upd H s.heap.objs.size (TxO X.w s.heap.objs.size (hasT xs) m), I.laid (t' := tk) (fun b u e => keep b u (Heap.lt_size e) e) (Nat.le_refl _) (txO_new R), rfl, q _ m (tx_many R) hle (I.hok.fresh (Nat.le_refl _))⟩
  rcases hq with hq | hq
  · obtain ⟨its, rv, pl, hz⟩ := I.list hq
    exact set_of_list (I.ok.hd hc) pl.isList (by simpa using L2.strsAre_of rv) few fin
  · obtain ⟨its, rv, pl, hz⟩ := I.tuple hq
    exact set_of_tuple (I.ok.hd hc) pl (by simpa using L2.strsAre_of rv) few fin
end
end My
set_option maxHeartbeats 4000000
namespace My
open PySem PySem.Spec PyProof.Rows L2
/-! ### sorted(a list or a tuple of texts) -/
theorem textIn_of : ∀ {xs : List Str} {us : List Value}, Vals (xs.map V.str) us → (∀ v ∈ us, ∃ k tk, v = Value.str k tk) ∧ us.map textIn = xs
  | [], _, .nil => ⟨fun v hv => by simp at hv, rfl⟩
  | x :: xs, _, .cons r t => by
    obtain ⟨h1, h2⟩ := textIn_of (xs := xs) t
    obtain ⟨tk, rfl⟩ := r
    refine ⟨fun v hv => ?_, by rw [List.map_cons, h2]; rfl⟩
    rcases List.mem_cons.mp hv with z | z
    · exact ⟨x, tk, z⟩
    · exact h1 v z
section
variable {P : Program} {w : World} {A : Around} {E : Value → Shared → Prop} {s : Shared} {a : Addr}
theorem gather {Q : List Value → Shared → Prop} (q : Addr) {T : String} {o : Obj} {ys : Array Value} {n : Nat} (hT : T = "list" ∨ T = "tuple")
    (ho : s.heap.get? q = some o) (hc : o.cls = .type T) (hd : o.data = .seq ys n) (line : ys.size ≤ sizeLine)
    (hQ : ∀ h', (∀ b o', s.heap.get? b = some o' → h'.get? b = some o') → s.heap.objs.size ≤ h'.objs.size → Q ys.toList { s with heap := h' }) :
    wpAny (model P w) A (collect (.ref q)) Q E s := by
  unfold collect
  refine wpAny_bind (wpAny_runValue (codeAny_builtin PySem.F.entry_proto_collect ?_))
  rw [Around.under_plainId PySem.F.plain_proto_collect _]
  show wpAny _ A.in1 (newList [] >>= fun l => again (.builtin "list.__iadd__" ⟨[l, .ref q], []⟩)) _ _ s
  refine wpAny_bind (wpAny_newObj_type ?_)
  refine wpAny_pure ⟨plainId_quiet PySem.F.plain_list_iadd _, codeAny_builtin PySem.F.entry_list_iadd ?_⟩
  rw [Around.under_plainId PySem.F.plain_list_iadd _]
  show wpAny _ A.in1 (Builtin.List.listExtendWith (.ref s.heap.objs.size) (.ref q) (.ref s.heap.objs.size)) _ _ _
  have new1 : (s.heap.push { cls := .type "list", data := .seq ([] : List Value).toArray }).get? s.heap.objs.size = some { cls := .type "list", data := .seq #[] 0 } := Heap.get?_push_size _ rfl
  have new2 := Heap.get?_update_self (Obj.mapSeq (· ++ ys)) new1 rfl
  have told_ : wpAny (model P w) A (match Value.ref s.heap.objs.size with
      | Value.ref a => do
        match (← load a).data with
          | Data.seq xs _ => pure xs.toList
          | _ => unsupported "internal:collect"
      | _ => unsupported "internal:collect") Q E { s with heap := (s.heap.push { cls := .type "list", data := .seq ([] : List Value).toArray }).update s.heap.objs.size (Obj.mapSeq (· ++ ys)) } := by
    show wpAny _ A (load s.heap.objs.size >>= _) _ _ _
    refine wpAny_bind (wpAny_load new2 (wpAny_pure ?_))
    show Q ((#[] : Array Value) ++ ys).toList _
    rw [show ((#[] : Array Value) ++ ys).toList = ys.toList by simp]
    refine hQ _ (fun b o' hb => (Heap.get?_update_other _ _ (Nat.ne_of_gt (Heap.lt_size hb))).trans (Heap.get?_push_of_some _ hb)) ?_
    exact Nat.le_of_lt (Heap.lt_size new2)
  refine wpAny_mono (wpAny_extend_seq (hsz := line) (A := A) (R := fun r s' => r = .ok (.ret (.ref s.heap.objs.size)) ∧ s' = { s with heap := (s.heap.push { cls := .type "list", data := .seq ([] : List Value).toArray }).update s.heap.objs.size (Obj.mapSeq (· ++ ys)) })
    (s := { s with heap := s.heap.push { cls := .type "list", data := .seq ([] : List Value).toArray } }) _ q _ 0 hT new1 (Heap.get?_push_of_some _ ho) hc hd ⟨rfl, rfl⟩) (fun fin s' h => ?_) (fun e s' h => ?_)
  · cases fin with
    | done f =>
      obtain ⟨e, rfl⟩ := h
      cases e
      exact told_
    | again c' => exact ⟨h.1, codeAny_mono h.2 fun r s'' hr => by obtain ⟨rfl, rfl⟩ := hr; exact told_⟩
  · exact absurd h.1 (by simp)
theorem sorted_seq {Q : Value → Shared → Prop} {T : String} {o : Obj} {ys : Array Value} {n : Nat} {xs : List Str} (hT : T = "list" ∨ T = "tuple") (ho : s.heap.get? a = some o) (hc : o.cls = .type T) (hd : o.data = .seq ys n)
    (rv : Vals (xs.map V.str) ys.toList) (small : xs.length ≤ 100000) (hu : A.units + 64 < cLine)
    (hQ : ∀ s' p (out : Array Value) (c : Nat), (∀ b o, s.heap.get? b = some o → s'.heap.get? b = some o) → s'.gens = s.gens → s'.os = s.os → s.heap.objs.size ≤ p →
      s'.heap.get? p = some (seqObj "list" out c) → Vals ((xs.mergeSort leS).map V.str) out.toList → Q (.ref p) s') :
    wpAny (model P w) A (call (.builtin "sorted") [.ref a]) Q E s := by
  obtain ⟨each0, eM⟩ := textIn_of rv
  have many : ys.toList.length = xs.length := by rw [← vals_len rv, List.length_map]
  have line : ys.size ≤ sizeLine := by rw [← Array.length_toList, many]; exact Nat.le_trans small (by decide)
  refine Calls.call_function_entry kind_sorted plain_sorted entry_sorted (args_sorted1 _) ?_
  unfold Builtin.«sorted»
  refine wpAny_bind (m := checkCount "sorted" 1 1 _) (wpAny_pure ?_)
  refine wpAny_bind (gather (A := A.in1) a hT ho hc hd line fun h1 k1 hz => ?_)
  have each := each_text ys.toList each0
  refine wpAny_bind (wpAny_newList ?_ (by rw [many]; exact Nat.le_trans small (by decide)))
  have laid : (h1.push (seqObj "list" ys.toList.toArray 0)).get? h1.objs.size = some (seqObj "list" ys.toList.toArray 0) := Heap.get?_push_size _ rfl
  refine wpAny_bind (wpAny_holding (PySem.W.list_sort_data (s := { s with heap := h1.push (seqObj "list" ys.toList.toArray 0) }) (enc := PyData.str) (bs := ys.toList.map textIn) laid each (each.mono fun v b ⟨t, e⟩ => ⟨[], by rw [e]; exact .str _ _, by simp⟩) ?_ ?_ ?_ ?_ fun out len outs => ?_))
  · intro d hd d' hd'
    obtain ⟨x, _, rfl⟩ := List.mem_map.mp hd
    obtain ⟨y, _, rfl⟩ := List.mem_map.mp hd'
    rfl
  · exact .others (enc := PyData.str) fun b => ⟨fun z => (by cases z), fun xs z => (by cases z)⟩
  · rw [List.length_map, many]; exact Nat.le_trans small (by decide)
  · intro b _
    show A.units + 1 + 1 + 0 < cLine
    omega
  · obtain ⟨c, hc⟩ := sortedHeap_at (vs := ys.toList) (out := out.toArray) laid
    rw [show PySem.W.dataLe false PyData.str = leS from dataLe_s, eM] at outs
    refine wpAny_pure ⟨_, rfl, hQ _ h1.objs.size out.toArray c (fun b u e => ?_) rfl rfl hz hc (by simpa using vals_text outs)⟩
    have q := k1 b u e
    have hlt := Heap.lt_size q
    show (sortedHeap (h1.push (seqObj "list" ys.toList.toArray 0)) h1.objs.size ys.toList out.toArray).get? b = some u
    rw [sortedHeap_old (Nat.ne_of_lt hlt) (by rw [size_push']; exact Nat.lt_succ_of_lt hlt)]
    exact Heap.get?_push_of_some _ q
end
section
variable {X : Cx}
def rSortSq (K : PySem.W.Frag) : List V → Hp → VK → Prop := fun vs H Q => ∃ (a : Addr) (xs : List Str), vs = [V.ref a] ∧ (SqL K H a (xs.map V.str) ∨ SqT K H a (xs.map V.str)) ∧ xs.length ≤ 100000 ∧
  ∀ (p : Addr), H p = none → Q (.ref p) (upd H p (.lst ((xs.mergeSort leS).map V.str)))
theorem cr_sortSq (hu : X.A.units + 64 < cLine) : CallR X (.builtin "sorted") (rSortSq X.K) := by
  intro pins s σ H vs us Q I r h
  obtain ⟨a, xs, rfl, hq, small, q⟩ := h
  rw [Vals.ref1 r]
  have line : ((xs.mergeSort leS).map V.str).length ≤ sizeLine := by rw [List.length_map, List.length_mergeSort]; exact Nat.le_trans small (by decide)
  have fin : ∀ s' p (out : Array Value) (c : Nat), (∀ b o, s.heap.get? b = some o → s'.heap.get? b = some o) → s'.gens = s.gens → s'.os = s.os → s.heap.objs.size ≤ p →
      s'.heap.get? p = some (seqObj "list" out c) → Vals ((xs.mergeSort leS).map V.str) out.toList → EP X pins σ Q (.ref p) s' := fun s' p out c k g o hp hg hv => by
    have free : H p = none := I.hok.fresh hp
    have J : Inv X pins σ (upd H p (.lst ((xs.mergeSort leS).map V.str))) { s with heap := s'.heap, gens := s'.gens, drawn := s'.drawn, toks := s'.toks } :=
      I.call (ch := []) (Un.laid k hp free) (I.hok.laid k hp ⟨line, out.toList, c, hv, hg⟩) (by rw [g]; exact I.bare) (fun _ z => nomatch z)
    have same : s' = { s with heap := s'.heap, gens := s'.gens, drawn := s'.drawn, toks := s'.toks } := by
      cases s'
      cases s
      cases o
      rfl
    rw [same]
    exact ⟨.ref p, _, J, rfl, q p free⟩
  rcases hq with hq | hq
  · obtain ⟨its, rv, pl, hz⟩ := I.list hq
    obtain ⟨o, ho, hc, n, hd⟩ := pl.isList
    exact sorted_seq (.inl rfl) ho hc hd (by simpa using rv) small hu fin
  · obtain ⟨its, rv, pl, hz⟩ := I.tuple hq
    obtain ⟨o, ho, hc, n, hd⟩ := pl
    exact sorted_seq (.inr rfl) ho hc hd (by simpa using rv) small hu fin
end
end My
namespace My
open PySem L2 PyProof.Rows
def topS (i : Nat) : Stmt := PySem.Challenge.pw_suretexts_k13_whole_pieces_told.main.body.getD i (.Pass ⟨0, 0, 0, 0⟩)
abbrev sis_integer : Stmt := topS 8
theorem scis_integer : FnScope ["value"] ["value"] (defScope sis_integer) := ⟨rfl, rfl, rfl, by decide +kernel, rfl, by decide +kernel, by decide +kernel⟩
abbrev sis_count : Stmt := topS 9
theorem scis_count : FnScope ["value"] ["value"] (defScope sis_count) := ⟨rfl, rfl, rfl, by decide +kernel, rfl, by decide +kernel, by decide +kernel⟩
abbrev sis_between : Stmt := topS 10
theorem scis_between : FnScope ["value", "least", "most"] ["value", "least", "most"] (defScope sis_between) := ⟨rfl, rfl, rfl, by decide +kernel, rfl, by decide +kernel, by decide +kernel⟩
abbrev sis_below : Stmt := topS 11
theorem scis_below : FnScope ["value", "limit"] ["value", "limit"] (defScope sis_below) := ⟨rfl, rfl, rfl, by decide +kernel, rfl, by decide +kernel, by decide +kernel⟩
abbrev sis_size : Stmt := topS 12
theorem scis_size : FnScope ["value"] ["value"] (defScope sis_size) := ⟨rfl, rfl, rfl, by decide +kernel, rfl, by decide +kernel, by decide +kernel⟩
abbrev sis_listed : Stmt := topS 13
theorem scis_listed : FnScope ["value"] ["value"] (defScope sis_listed) := ⟨rfl, rfl, rfl, by decide +kernel, rfl, by decide +kernel, by decide +kernel⟩
abbrev sis_letter : Stmt := topS 14
theorem scis_letter : FnScope ["sign"] ["sign"] (defScope sis_letter) := ⟨rfl, rfl, rfl, by decide +kernel, rfl, by decide +kernel, by decide +kernel⟩
abbrev sneed_size : Stmt := topS 15
theorem scneed_size : FnScope ["size"] ["size"] (defScope sneed_size) := ⟨rfl, rfl, rfl, by decide +kernel, rfl, by decide +kernel, by decide +kernel⟩
abbrev sis_text : Stmt := topS 18
theorem scis_text : FnScope ["value", "sign"] ["value"] (defScope sis_text) := ⟨rfl, rfl, rfl, by decide +kernel, rfl, by decide +kernel, by decide +kernel⟩
abbrev sis_ring : Stmt := topS 19
theorem scis_ring : FnScope ["value"] ["value"] (defScope sis_ring) := ⟨rfl, rfl, rfl, by decide +kernel, rfl, by decide +kernel, by decide +kernel⟩
abbrev sneed_text : Stmt := topS 20
theorem scneed_text : FnScope ["text"] ["text"] (defScope sneed_text) := ⟨rfl, rfl, rfl, by decide +kernel, rfl, by decide +kernel, by decide +kernel⟩
abbrev sneed_ring : Stmt := topS 21
theorem scneed_ring : FnScope ["ring"] ["ring"] (defScope sneed_ring) := ⟨rfl, rfl, rfl, by decide +kernel, rfl, by decide +kernel, by decide +kernel⟩
abbrev sturned : Stmt := topS 22
theorem scturned : FnScope ["ring", "by"] ["ring", "by"] (defScope sturned) := ⟨rfl, rfl, rfl, by decide +kernel, rfl, by decide +kernel, by decide +kernel⟩
abbrev s_turned_to : Stmt := topS 23
theorem sc_turned_to : FnScope ["ring", "place"] ["ring", "place"] (defScope s_turned_to) := ⟨rfl, rfl, rfl, by decide +kernel, rfl, by decide +kernel, by decide +kernel⟩
abbrev sread_on : Stmt := topS 24
theorem scread_on : FnScope ["ring", "place", "many", "k"] ["ring", "place", "many"] (defScope sread_on) := ⟨rfl, rfl, rfl, by decide +kernel, rfl, by decide +kernel, by decide +kernel⟩
abbrev soverlap : Stmt := topS 25
theorem scoverlap : FnScope ["text", "next_text", "many"] ["text", "next_text"] (defScope soverlap) := ⟨rfl, rfl, rfl, by decide +kernel, rfl, by decide +kernel, by decide +kernel⟩
abbrev swords_of : Stmt := topS 29
theorem scwords_of : FnScope ["pieces", "piece"] ["pieces"] (defScope swords_of) := ⟨rfl, rfl, rfl, by decide +kernel, rfl, by decide +kernel, by decide +kernel⟩
abbrev sare_pieces : Stmt := topS 30
theorem scare_pieces : FnScope ["value", "piece"] ["value"] (defScope sare_pieces) := ⟨rfl, rfl, rfl, by decide +kernel, rfl, by decide +kernel, by decide +kernel⟩
abbrev sneed_pieces : Stmt := topS 31
theorem scneed_pieces : FnScope ["pieces"] ["pieces"] (defScope sneed_pieces) := ⟨rfl, rfl, rfl, by decide +kernel, rfl, by decide +kernel, by decide +kernel⟩
abbrev sopened : Stmt := topS 32
theorem scopened : FnScope ["ring", "size", "place"] ["ring", "size", "place"] (defScope sopened) := ⟨rfl, rfl, rfl, by decide +kernel, rfl, by decide +kernel, by decide +kernel⟩
abbrev spieces_along : Stmt := topS 33
theorem scpieces_along : FnScope ["text", "size", "place"] ["text", "size"] (defScope spieces_along) := ⟨rfl, rfl, rfl, by decide +kernel, rfl, by decide +kernel, by decide +kernel⟩
abbrev spieces_often : Stmt := topS 34
theorem scpieces_often : FnScope ["readings", "size", "often", "text", "times", "piece"] ["readings", "size"] (defScope spieces_often) := ⟨rfl, rfl, rfl, by decide +kernel, rfl, by decide +kernel, by decide +kernel⟩
abbrev sring_pieces : Stmt := topS 35
theorem scring_pieces : FnScope ["ring", "size"] ["ring", "size"] (defScope sring_pieces) := ⟨rfl, rfl, rfl, by decide +kernel, rfl, by decide +kernel, by decide +kernel⟩
abbrev sline_pieces : Stmt := topS 36
theorem scline_pieces : FnScope ["text", "size"] ["text", "size"] (defScope sline_pieces) := ⟨rfl, rfl, rfl, by decide +kernel, rfl, by decide +kernel, by decide +kernel⟩
abbrev shas_just : Stmt := topS 37
theorem schas_just : FnScope ["ring", "pieces", "size"] ["ring", "pieces"] (defScope shas_just) := ⟨rfl, rfl, rfl, by decide +kernel, rfl, by decide +kernel, by decide +kernel⟩
abbrev scut_at : Stmt := topS 38
theorem sccut_at : FnScope ["ring", "size", "place"] ["ring", "size", "place"] (defScope scut_at) := ⟨rfl, rfl, rfl, by decide +kernel, rfl, by decide +kernel, by decide +kernel⟩
abbrev s_law_pot : Stmt := topS 40
theorem sc_law_pot : FnScope ["_law_script", "_law_k", "_law_cell"] ["_law_script", "_law_k"] (defScope s_law_pot) := ⟨rfl, rfl, rfl, by decide +kernel, rfl, by decide +kernel, by decide +kernel⟩
abbrev s_law_draw : Stmt := topS 41
theorem sc_law_draw : FnScope ["_law_pot_here", "_law_size", "_law_digit"] ["_law_pot_here", "_law_size"] (defScope s_law_draw) := ⟨rfl, rfl, rfl, by decide +kernel, rfl, by decide +kernel, by decide +kernel⟩
abbrev s_law_pick : Stmt := topS 42
theorem sc_law_pick : FnScope ["_law_pot_here", "_law_some"] ["_law_pot_here", "_law_some"] (defScope s_law_pick) := ⟨rfl, rfl, rfl, by decide +kernel, rfl, by decide +kernel, by decide +kernel⟩
abbrev s_law_ring : Stmt := topS 43
theorem sc_law_ring : FnScope ["_law_pot_here", "_law_most", "_law_letters", "_law_found", "_law_turn"] ["_law_pot_here", "_law_most"] (defScope s_law_ring) := ⟨rfl, rfl, rfl, by decide +kernel, rfl, by decide +kernel, by decide +kernel⟩
abbrev s_law_round : Stmt := topS 44
theorem sc_law_round : FnScope ["_law_ring_here", "_law_place", "_law_many", "_law_found"] ["_law_ring_here", "_law_place", "_law_many"] (defScope s_law_round) := ⟨rfl, rfl, rfl, by decide +kernel, rfl, by decide +kernel, by decide +kernel⟩
abbrev s_law_often : Stmt := topS 45
theorem sc_law_often : FnScope ["_law_words", "_law_word", "_law_one"] ["_law_words"] (defScope s_law_often) := ⟨rfl, rfl, rfl, by decide +kernel, rfl, by decide +kernel, by decide +kernel⟩
abbrev s_law_pieces_right : Stmt := topS 46
theorem sc_law_pieces_right : FnScope ["_law_ring_here", "_law_size", "_law_by", "_law_due", "_law_told", "_law_place", "_law_cut", "_law_piece", "_law_many"] ["_law_ring_here", "_law_size", "_law_by"] (defScope s_law_pieces_right) := ⟨rfl, rfl, rfl, by decide +kernel, rfl, by decide +kernel, by decide +kernel⟩
abbrev s_law_explains_right : Stmt := topS 47
theorem sc_law_explains_right : FnScope ["_law_pot_here", "_law_ring_here", "_law_size", "_law_pieces", "_law_own", "_law_more", "_law_lots", "_law_lot", "_law_due", "_law_other", "_law_piece", "_law_many", "_law_place", "_law_one"] ["_law_pot_here", "_law_ring_here", "_law_size"] (defScope s_law_explains_right) := ⟨rfl, rfl, rfl, by decide +kernel, rfl, by decide +kernel, by decide +kernel⟩
abbrev s_law_line_right : Stmt := topS 48
theorem sc_law_line_right : FnScope ["_law_text", "_law_size", "_law_other", "_law_due", "_law_least", "_law_fits", "_law_at", "_law_many"] ["_law_text", "_law_size", "_law_other"] (defScope s_law_line_right) := ⟨rfl, rfl, rfl, by decide +kernel, rfl, by decide +kernel, by decide +kernel⟩
abbrev slaw : Stmt := topS 49
theorem sclaw : FnScope ["_law_script", "_law_pot_here", "_law_turn", "_law_ring_here", "_law_size", "_law_text", "_law_by", "_law_tail", "_law_other"] ["_law_script"] (defScope slaw) := ⟨rfl, rfl, rfl, by decide +kernel, rfl, by decide +kernel, by decide +kernel⟩
structure Bs (mg : Str → Option Value) : Prop where
  isinstance : mg "isinstance" = none
  int : mg "int" = none
  bool : mg "bool" = none
  str : mg "str" = none
  list : mg "list" = none
  tuple : mg "tuple" = none
  len : mg "len" = none
  range : mg "range" = none
  abs : mg "abs" = none
  max : mg "max" = none
  min : mg "min" = none
  divmod : mg "divmod" = none
  sorted : mg "sorted" = none
  dict : mg "dict" = none
  set : mg "set" = none
  sum : mg "sum" = none
  repr : mg "repr" = none
  all : mg "all" = none
structure Glo (mg : Str → Option Value) : Prop where
  MOST_LETTERS : ∃ t, mg "MOST_LETTERS" = some (.int 400 t)
  MOST_PIECES : ∃ t, mg "MOST_PIECES" = some (.int 80 t)
  MOST_WORDS : ∃ t, mg "MOST_WORDS" = some (.int 60 t)
abbrev iv (L : List Nat) : List V := L.map fun n : Nat => V.int (n : Int)
theorem same_new {H : Hp} {p : Addr} (h : H p = none) (o : HO) : Same H (upd H p o) := fun b u q => by rw [upd_ne (ne_of_none q h)]; exact q
theorem iteNo {c A B : Prop} [Decidable c] (h : ¬ c) (b : B) : if decide c = true then A else B := by
  rw [decide_eq_false h]
  exact iteF b
theorem iteNot {c A B : Prop} [Decidable c] (h : ¬ c) (a : A) : if (!decide c) = true then A else B := by
  rw [decide_eq_false h]
  exact iteT a
theorem iteNot' {c A B : Prop} [Decidable c] (h : c) (b : B) : if (!decide c) = true then A else B := by
  rw [decide_eq_true h]
  exact iteF b
theorem iteNN {c A B : Prop} [Decidable c] (h : ¬ c) (b : B) : if (!!decide c) = true then A else B := by
  rw [decide_eq_false h]
  exact iteF b
theorem iv_at {L : List Nat} {j b : Nat} (h : L[j]? = some b) : atI (iv L) (j : Int) = some (.int (b : Int)) := by
  refine atI_nat ?_
  rw [iv, List.getElem?_map, h]
  rfl
theorem iv_app (L : List Nat) (n : Nat) : iv (L ++ [n]) = iv L ++ [V.int (n : Int)] := by
  unfold iv
  rw [List.map_append]
  rfl
theorem same_upd {H H' : Hp} {p : Addr} {o : HO} (h : Same H H') (np : H p = none) : Same H (upd H' p o) := fun b u q => by
  rw [upd_ne (ne_of_none q np)]
  exact h b u q
theorem iteYes {c A B : Prop} [Decidable c] (h : c) (a : A) : if decide c = true then A else B := by
  rw [decide_eq_true h]
  exact iteT a
theorem bl_true {c : Prop} [Decidable c] {Q : VK} {H : Hp} (h : c) (q : Q (.bl true) H) : Q (.bl (decide c)) H := by
  rw [decide_eq_true h]
  exact q
theorem int_eq {a b : Int} : V.int a = V.int b ↔ a = b := ⟨fun h => V.int.inj h, fun h => by rw [h]⟩
/-! ### lists of ints compared -/
abbrev iz (L : List Int) : List V := L.map V.int
theorem iv_iz (L : List Nat) : iv L = iz (L.map fun n : Nat => (n : Int)) := by
  unfold iv iz
  rw [List.map_map]
  rfl
abbrev dz (L : List Int) : PyData := .list (L.map PyData.int)
theorem dpAll_iz {K : PySem.W.Frag} {H : Hp} : ∀ L : List Int, DpAll K H (iz L) (L.map PyData.int)
  | [] => .nil
  | n :: r => .cons (.int n) (dpAll_iz r)
theorem dp_iz {K : PySem.W.Frag} {H : Hp} {p : Addr} {L : List Int} (h : H p = some (.lst (iz L))) : Dp K H (.ref p) (dz L) := .lst (SqL.of h) (dpAll_iz L)
theorem layAll_iz : ∀ L : List Int, PyData.canLayAll0 (L.map PyData.int) = true
  | [] => rfl
  | n :: r => by
    show (PyData.canLay0 (.int n) && PyData.canLayAll0 (r.map PyData.int)) = true
    rw [layAll_iz r]
    rfl
theorem depthAll_iz : ∀ L : List Int, PyData.depthAll (L.map PyData.int) = 0
  | [] => rfl
  | n :: r => by
    show max (PyData.depth (.int n)) (PyData.depthAll (r.map PyData.int)) = 0
    rw [depthAll_iz r]
    rfl
theorem shaped_iz (L : List Int) : SeqAt.shaped (dz L) = true := by
  unfold SeqAt.shaped
  have h1 : PyData.canLay0 (dz L) = true := by
    show PyData.canLay0 (.list (L.map PyData.int)) = true
    unfold PyData.canLay0
    exact layAll_iz L
  have h2 : PyData.depth (dz L) = 1 := by
    show PyData.depth (.list (L.map PyData.int)) = 1
    unfold PyData.depth
    rw [depthAll_iz]
  rw [h1, h2]
  rfl
theorem eqv_same (L : List Int) : PyData.eqv (dz L) (dz L) = true := by
  have h1 : PyData.canLay0 (dz L) = true := by
    show PyData.canLay0 (.list (L.map PyData.int)) = true
    unfold PyData.canLay0
    exact layAll_iz L
  exact SeqAt.eqv_refl _ h1
theorem eqv_empty (L : List Int) : PyData.eqv (dz L) (dz []) = decide (L = []) := by
  cases L with
  | nil => rfl
  | cons n r => rfl
theorem iteNb {x : Bool} {A B : Prop} (h : x = true) (b : B) : if (!x) = true then A else B := by
  rw [h]
  exact iteF b
theorem bl_is {x : Bool} {Q : VK} {H : Hp} (h : x = true) (q : Q (.bl true) H) : Q (.bl x) H := by
  rw [h]
  exact q
def Kept (a : Addr) (H H' : Hp) : Prop := ∀ b o, H b = some o → b ≠ a → H' b = some o
theorem Kept.trans {a : Addr} {H H1 H2 : Hp} (h : Kept a H H1) (h2 : Kept a H1 H2) : Kept a H H2 := fun b o e n => h2 b o (h b o e n) n
theorem Same.kept {a : Addr} {H H' : Hp} (h : Same H H') : Kept a H H' := fun b o e _ => h b o e
theorem paired_get {α β : Type} {F : α → β → Prop} : ∀ {l1 : List α} {l2 : List β} {i : Nat} {a : α}, Paired F l1 l2 → l1[i]? = some a → ∃ b, l2[i]? = some b ∧ F a b
  | _, _, _, _, .nil, h => by simp at h
  | _, _, 0, _, .cons r _, h => ⟨_, rfl, by cases h; exact r⟩
  | _, _, i + 1, _, .cons _ t, h => by
    obtain ⟨b, h1, h2⟩ := paired_get (i := i) t (by simpa using h)
    exact ⟨b, by simpa using h1, h2⟩
theorem paired_mono {α β : Type} {F G : α → β → Prop} (h : ∀ a b, F a b → G a b) : ∀ {l1 : List α} {l2 : List β}, Paired F l1 l2 → Paired G l1 l2
  | _, _, .nil => .nil
  | _, _, .cons a r => .cons (h _ _ a) (paired_mono h r)
theorem paired_len {α β : Type} {F : α → β → Prop} : ∀ {l1 : List α} {l2 : List β}, Paired F l1 l2 → l1.length = l2.length
  | _, _, .nil => rfl
  | _, _, .cons _ r => congrArg Nat.succ (paired_len r)
/-! ### lots as lists of texts with numbers -/
def getT (D : List (Str × Int)) (x : Str) : Int := ((D.find? fun e => decide (e.1 = x)).map (·.2)).getD 0
def addT : List (Str × Int) → Str → Int → List (Str × Int)
  | [], x, n => [(x, n)]
  | e :: r, x, n => if e.1 = x then (e.1, e.2 + n) :: r else e :: addT r x n
theorem addT_keys (x : Str) (n : Int) : ∀ D : List (Str × Int), (addT D x n).map Prod.fst = if x ∈ D.map Prod.fst then D.map Prod.fst else D.map Prod.fst ++ [x]
  | [] => rfl
  | e :: r => by
    have ih := addT_keys x n r
    unfold addT
    by_cases h : e.1 = x
    · rw [if_pos h, List.map_cons, List.map_cons, if_pos (by rw [h]; exact List.mem_cons_self)]
    · have hx : ¬ x = e.1 := fun z => h z.symm
      rw [if_neg h, List.map_cons, List.map_cons, ih]
      by_cases k : x ∈ r.map Prod.fst
      · rw [if_pos k, if_pos (List.mem_cons_of_mem _ k)]
      · rw [if_neg k, if_neg (by simp only [List.mem_cons]; rintro (z | z); exact hx z; exact k z)]
        rfl
theorem addT_nodup {x : Str} {n : Int} {D : List (Str × Int)} (h : (D.map Prod.fst).Nodup) : ((addT D x n).map Prod.fst).Nodup := by
  rw [addT_keys]
  split
  · exact h
  · rename_i c
    rw [List.nodup_append]
    exact ⟨h, by simp, fun a ha b hb => by rw [List.mem_singleton.mp hb]; rintro rfl; exact c ha⟩
theorem addT_mem {x y : Str} {n : Int} {D : List (Str × Int)} : y ∈ (addT D x n).map Prod.fst ↔ y ∈ D.map Prod.fst ∨ y = x := by
  rw [addT_keys]
  split
  · rename_i c
    exact ⟨.inl, fun h => h.elim id fun z => by rw [z]; exact c⟩
  · rw [List.mem_append, List.mem_singleton]
theorem addT_get (x y : Str) (n : Int) : ∀ D : List (Str × Int), getT (addT D x n) y = if y = x then getT D x + n else getT D y
  | [] => by
    unfold addT getT
    by_cases h : x = y
    · simp [h]
    · have h2 : ¬ y = x := fun z => h z.symm
      simp [h, h2]
  | e :: r => by
    have ih := addT_get x y n r
    unfold addT
    by_cases h : e.1 = x
    · rw [if_pos h]
      by_cases k : y = x
      · subst k
        simp [getT, h]
      · have k2 : ¬ e.1 = y := fun z => k (by rw [← z, h])
        rw [if_neg k]
        simp [getT, List.find?_cons, k2]
    · rw [if_neg h]
      by_cases k : e.1 = y
      · have k2 : ¬ y = x := fun z => h (by rw [k, z])
        rw [if_neg k2]
        simp [getT, List.find?_cons, k]
      · have s1 : getT (e :: addT r x n) y = getT (addT r x n) y := by simp [getT, List.find?_cons, k]
        have s2 : getT (e :: r) y = getT r y := by simp [getT, List.find?_cons, k]
        have s3 : getT (e :: r) x = getT r x := by simp [getT, List.find?_cons, h]
        rw [s1, s2, s3]
        exact ih
theorem addT_len (x : Str) (n : Int) (D : List (Str × Int)) : (addT D x n).length ≤ D.length + 1 := by
  have := congrArg List.length (addT_keys x n D)
  rw [List.length_map] at this
  rw [this]
  split
  · rw [List.length_map]; omega
  · rw [List.length_append, List.length_map]; simp
/-- the dict by texts -/
abbrev dT (D : List (Str × Int)) : List (Key × V) := D.map entSI
theorem dT_val (x : Str) : ∀ D : List (Str × Int), valV (dT D) (Sum.inr x : Key) = (D.find? fun e => decide (e.1 = x)).map fun e => V.int e.2
  | [] => rfl
  | e :: r => by
    have ih := dT_val x r
    by_cases h : e.1 = x
    · rw [show dT (e :: r) = entSI e :: dT r from rfl, valV_pos (by show (Sum.inr e.1 : Key) = _; rw [h]), List.find?_cons_of_pos (by simpa using h)]
      rfl
    · rw [show dT (e :: r) = entSI e :: dT r from rfl, valV_neg (fun z => h (Sum.inr.inj z)), List.find?_cons_of_neg (by simpa using h)]
      exact ih
theorem dT_getD (x : Str) (D : List (Str × Int)) : (valV (dT D) (Sum.inr x : Key)).getD (.int 0) = .int (getT D x) := by
  rw [dT_val]
  unfold getT
  cases D.find? fun e => decide (e.1 = x) with
  | none => rfl
  | some e => rfl
theorem dT_put {x : Str} {n : Int} : ∀ {D : List (Str × Int)}, (D.map Prod.fst).Nodup → putK (dT D) (Sum.inr x : Key) (.int (getT D x + n)) = dT (addT D x n)
  | [], _ => by
    show putK [] _ _ = _
    rw [putK_new _ rfl]
    simp [getT, addT]
  | e :: r, hn => by
    have hn' := List.nodup_cons.mp (by simpa using hn : (e.1 :: r.map Prod.fst).Nodup)
    by_cases h : e.1 = x
    · subst h
      have hg : getT (e :: r) e.1 = e.2 := by simp [getT]
      have hz : valV (dT (e :: r)) (Sum.inr e.1 : Key) = some (.int e.2) := by rw [dT_val]; simp
      unfold putK
      rw [valV_any, hz, Option.isSome_some, if_pos rfl, hg]
      show (_ :: _) = _
      unfold addT
      rw [if_pos rfl]
      show _ = entSI (e.1, e.2 + n) :: dT r
      refine congr (congrArg List.cons (by simp [entSI])) ?_
      rw [dT, List.map_map]
      refine List.map_congr_left fun f hf => ?_
      have : ¬ (Sum.inr f.1 : Key) = Sum.inr e.1 := fun z => hn'.1 (by rw [← Sum.inr.inj z]; exact List.mem_map.mpr ⟨f, hf, rfl⟩)
      show (if (Sum.inr f.1 : Key) = Sum.inr e.1 then _ else _) = _
      rw [if_neg this]
    · have ih := dT_put (x := x) (n := n) (D := r) hn'.2
      have hg : getT (e :: r) x = getT r x := by simp [getT, List.find?_cons, h]
      have hk : ¬ (entSI e).1 = (Sum.inr x : Key) := fun z => h (Sum.inr.inj z)
      have hv : valV (dT (e :: r)) (Sum.inr x : Key) = valV (dT r) (Sum.inr x : Key) := valV_neg hk
      have ha : addT (e :: r) x n = e :: addT r x n := by
        show (if e.1 = x then _ else _) = _
        rw [if_neg h]
      rw [hg, ha]
      show putK (dT (e :: r)) _ _ = entSI e :: dT (addT r x n)
      rw [← ih]
      unfold putK
      rw [valV_any, valV_any, hv]
      split
      · show ((if (entSI e).1 = Sum.inr x then _ else _) :: _) = _
        rw [if_neg hk]
      · rfl
section
variable {P : Program} {w : World} {K : PySem.W.Frag} {mg : Str → Option Value} {base : Heap}
def spis_integer (_ : PySem.W.Frag) : Sp := fun vs H Q _ => ∃ n : Int, vs = [.int n] ∧ Q (.bl true) H
theorem okis_integer (D : Def K mg "is_integer" sis_integer ["value"]) (B : Bs mg) (Glb : Glo mg) :
    Good P w K mg base "is_integer" sis_integer ["value"] 1 (spis_integer K) := by
  refine D.good fun f fd F => ?_
  refine F.ok scis_integer (fun vs H Q E h => ?_) (fun cdv A outer s H vs Q E hr h => ?_)
  · obtain ⟨n, rfl, q⟩ := h
    first | rfl | (rcases h with ⟨_, _, rfl, _⟩ | ⟨_, rfl, _⟩ <;> rfl)
  obtain ⟨n, rfl, q⟩ := h
  refine ⟨_, (pss_one (ps_ret (pe_and (pe_callB call_isi (by rfl) B.isinstance (by decide +kernel) (pa_cons (pv 0) (pa_cons (pe_bltn (v := .ty "int") (by rfl) B.int (by decide +kernel) rfl) pa_nil))) (pe_one (pe_not (pe_callB call_isi (by rfl) B.isinstance (by decide +kernel) (pa_cons (pv 0) (pa_cons (pe_bltn (v := .ty "bool") (by rfl) B.bool (by decide +kernel) rfl) pa_nil)))))))), ?_⟩
  exact ⟨_, rfl, _, _, _, _, true, rfl, .ty _, .base (.int n), kit_ty (by decide +kernel), _, rfl, iteT ⟨_, rfl, _, _, _, _, false, rfl, .ty _, .base (.int n), kit_ty (by decide +kernel), _, rfl, q⟩⟩
def spis_count (_ : PySem.W.Frag) : Sp := fun vs H Q _ => ∃ n : Nat, vs = [.int (n : Int)] ∧ Q (.bl true) H
theorem okis_count (D : Def K mg "is_count" sis_count ["value"]) (B : Bs mg) (Glb : Glo mg)
    (his_integer : Good P w K mg base "is_integer" sis_integer ["value"] 1 (spis_integer K)) :
    Good P w K mg base "is_count" sis_count ["value"] 2 (spis_count K) := by
  refine D.good fun f fd F => ?_
  obtain ⟨fis_integer, dis_integer, Ois_integer, mis_integer, kis_integer, bis_integer, Fis_integer⟩ := his_integer
  refine F.ok scis_count (fun vs H Q E h => ?_) (fun cdv A outer s H vs Q E hr h => ?_)
  · obtain ⟨n, rfl, q⟩ := h
    first | rfl | (rcases h with ⟨_, _, rfl, _⟩ | ⟨_, rfl, _⟩ <;> rfl)
  obtain ⟨n, rfl, q⟩ := h
  refine ⟨_, (pss_one (ps_ret (pe_and (pe_call Ois_integer hr rfl mis_integer kis_integer bis_integer .nil pass0 (pa_cons (pv 0) pa_nil)) (pe_one (pe_cmpR op_ge (pv 0) pe_int (nomark _)))))), ?_⟩
  exact ⟨_, rfl, n, rfl, _, rfl, iteT ⟨_, rfl, _, _, rfl, rfl, bl_true (by omega) q⟩⟩
def spis_between (_ : PySem.W.Frag) : Sp := fun vs H Q _ => ∃ n a b : Int, vs = [.int n, .int a, .int b] ∧ a ≤ n ∧ n ≤ b ∧ Q (.bl true) H
theorem okis_between (D : Def K mg "is_between" sis_between ["value", "least", "most"]) (B : Bs mg) (Glb : Glo mg)
    (his_integer : Good P w K mg base "is_integer" sis_integer ["value"] 1 (spis_integer K)) :
    Good P w K mg base "is_between" sis_between ["value", "least", "most"] 2 (spis_between K) := by
  refine D.good fun f fd F => ?_
  obtain ⟨fis_integer, dis_integer, Ois_integer, mis_integer, kis_integer, bis_integer, Fis_integer⟩ := his_integer
  refine F.ok scis_between (fun vs H Q E h => ?_) (fun cdv A outer s H vs Q E hr h => ?_)
  · obtain ⟨n, a, b, rfl, h1, h2, q⟩ := h
    first | rfl | (rcases h with ⟨_, _, rfl, _⟩ | ⟨_, rfl, _⟩ <;> rfl)
  obtain ⟨n, a, b, rfl, h1, h2, q⟩ := h
  refine ⟨_, (pss_one (ps_ret (pe_and (pe_call Ois_integer hr rfl mis_integer kis_integer bis_integer .nil pass0 (pa_cons (pv 0) pa_nil)) (pe_one (pe_chain op_le op_le (pv 1) (pv 0) (pv 2)))))), ?_⟩
  exact ⟨_, rfl, n, rfl, _, rfl, iteT ⟨_, rfl, _, rfl, _, _, rfl, rfl, _, rfl, iteYes h1 ⟨_, rfl, _, _, rfl, rfl, bl_true h2 q⟩⟩⟩
def spis_listed (_ : PySem.W.Frag) : Sp := fun vs H Q _ => ∃ a, vs = [.ref a] ∧ ((∃ xs, H a = some (.lst xs)) ∨ (∃ xs, H a = some (.tup xs))) ∧ ∀ H', Same H H' → Q (.bl true) H'
theorem okis_listed (D : Def K mg "is_listed" sis_listed ["value"]) (B : Bs mg) (Glb : Glo mg) :
    Good P w K mg base "is_listed" sis_listed ["value"] 1 (spis_listed K) := by
  refine D.good fun f fd F => ?_
  refine F.ok scis_listed (fun vs H Q E h => ?_) (fun cdv A outer s H vs Q E hr h => ?_)
  · obtain ⟨a, rfl, ha, q⟩ := h
    first | rfl | (rcases h with ⟨_, _, rfl, _⟩ | ⟨_, rfl, _⟩ <;> rfl)
  obtain ⟨a, rfl, ha, q⟩ := h
  refine ⟨_, (pss_one (ps_ret (pe_callB call_isiT (by rfl) B.isinstance (by decide +kernel) (pa_cons (pv 0) (pa_cons (pe_tup (pa_cons (pe_bltn (v := .ty "list") (by rfl) B.list (by decide +kernel) rfl) (pa_cons (pe_bltn (v := .ty "tuple") (by rfl) B.tuple (by decide +kernel) rfl) pa_nil))) pa_nil))))), ?_⟩
  refine ⟨_, rfl, (by show 2 ≤ sizeLine; decide), fun tp ntp => ?_⟩
  rcases ha with ⟨xs, ha⟩ | ⟨xs, ha⟩
  · exact ⟨_, tp, [.ty "list", .ty "tuple"], .type "list", [.type "list", .type "tuple"], true, rfl, upd_same, .cons (.ty _) (.cons (.ty _) .nil), .base (.lst (same_new ntp _ _ _ ha)), kitAny_cons (b := true) (kit_ty (by decide +kernel)) (fun h => by cases h) (fun _ => rfl), q _ (same_new ntp _)⟩
  · exact ⟨_, tp, [.ty "list", .ty "tuple"], .type "tuple", [.type "list", .type "tuple"], true, rfl, upd_same, .cons (.ty _) (.cons (.ty _) .nil), .base (.tup (same_new ntp _ _ _ ha)), kitAny_cons (b := false) (kit_ty (by decide +kernel)) (fun _ => kitAny_cons (b := true) (kit_ty (by decide +kernel)) (fun h => by cases h) (fun _ => rfl)) (fun h => by cases h), q _ (same_new ntp _)⟩
end
end My
namespace My
open PySem L2 PyProof.Rows
theorem of_a : Str.ofString "a" = ⟨#[97]⟩ := by decide +kernel
theorem of_z : Str.ofString "z" = ⟨#[122]⟩ := by decide +kernel
theorem not_lt_one {a b : Nat} (h : b ≤ a) : ¬ ((⟨#[a]⟩ : Str).cps.toList < (⟨#[b]⟩ : Str).cps.toList) := by
  show ¬ ([a] < [b])
  rw [List.cons_lt_cons_iff]
  rintro (z | ⟨_, z⟩)
  · omega
  · exact absurd z (List.lt_irrefl [])
/-- a text -/
structure OkT (x : Str) : Prop where
  len : x.length ≤ 400
  let_ : ∀ c ∈ x.cps.toList, 97 ≤ c ∧ c ≤ 122
theorem line400 {n : Nat} (h : n ≤ 400) : n ≤ sizeLine := Nat.le_trans h (by decide)
abbrev pc (x : Str) (s p : Nat) : Str := cutS x (some (p : Int)) (some ((p : Int) + (s : Int)))
def pcsN (x : Str) (s : Nat) : Nat → List Str
  | 0 => []
  | n + 1 => pcsN x s n ++ [pc x s n]
theorem pcsN_len (x : Str) (s : Nat) : ∀ n, (pcsN x s n).length = n
  | 0 => rfl
  | n + 1 => by unfold pcsN; rw [List.length_append, pcsN_len x s n]; rfl
abbrev pcs (x : Str) (s : Nat) : List Str := pcsN x s (x.length + 1 - s)
/-- readings: a list of pairs in the heap -/
def SIAt (H : Hp) (t : Addr) (e : Str × Int) : Prop := H t = some (.tup [.str e.1, .int e.2])
def RdAt (H : Hp) (l : Addr) (L : List (Str × Int)) : Prop := ∃ ts : List Addr, H l = some (.lst (ts.map V.ref)) ∧ Paired (SIAt H) ts L
theorem RdAt.same {H H' : Hp} {l : Addr} {L : List (Str × Int)} (h : RdAt H l L) (s : Same H H') : RdAt H' l L := by
  obtain ⟨ts, h1, h2⟩ := h
  exact ⟨ts, s _ _ h1, paired_mono (fun p e hp => s _ _ hp) h2⟩
theorem ref_at {ts : List Addr} {i : Nat} {v : V} (h : (ts.map V.ref)[i]? = some v) : ∃ p, ts[i]? = some p ∧ v = .ref p := by
  rw [List.getElem?_map] at h
  cases e : ts[i]? with
  | none => rw [e] at h; cases h
  | some p => rw [e] at h; exact ⟨p, rfl, (Option.some.inj h).symm⟩
theorem str_at {xs : List Str} {i : Nat} {v : V} (h : (xs.map V.str)[i]? = some v) : ∃ x, xs[i]? = some x ∧ v = .str x := by
  rw [List.getElem?_map] at h
  cases e : xs[i]? with
  | none => rw [e] at h; cases h
  | some p => rw [e] at h; exact ⟨p, rfl, (Option.some.inj h).symm⟩
/-- numbers put together -/
def sumT : List (Str × Int) → List (Str × Int) → List (Str × Int)
  | D, [] => D
  | D, e :: r => sumT (addT D e.1 e.2) r
theorem sumT_app (L M : List (Str × Int)) : ∀ D, sumT D (L ++ M) = sumT (sumT D L) M := by
  induction L with
  | nil => intro D; rfl
  | cons e r ih => intro D; exact ih _
theorem sumT_nodup (L : List (Str × Int)) : ∀ {D : List (Str × Int)}, (D.map Prod.fst).Nodup → ((sumT D L).map Prod.fst).Nodup := by
  induction L with
  | nil => intro D h; exact h
  | cons e r ih => intro D h; exact ih (addT_nodup h)
theorem sumT_len (L : List (Str × Int)) : ∀ D, (sumT D L).length ≤ D.length + L.length := by
  induction L with
  | nil => intro D; exact Nat.le_refl _
  | cons e r ih =>
    intro D
    have h1 := ih (addT D e.1 e.2)
    have h2 := addT_len e.1 e.2 D
    show (sumT (addT D e.1 e.2) r).length ≤ D.length + (r.length + 1)
    omega
/-- the pieces of texts, each with its number -/
def pcsT (s : Nat) (L : List (Str × Int)) : List (Str × Int) := L.flatMap fun e => (pcs e.1 s).map fun p => (p, e.2)
section
variable {P : Program} {w : World} {K : PySem.W.Frag} {mg : Str → Option Value} {base : Heap}
def spis_size (_ : PySem.W.Frag) : Sp := fun vs H Q _ => ∃ n : Nat, vs = [.int (n : Int)] ∧ 2 ≤ n ∧ n ≤ 8 ∧ Q (.bl true) H
theorem okis_size (D : Def K mg "is_size" sis_size ["value"]) (B : Bs mg) (Glb : Glo mg)
    (his_between : Good P w K mg base "is_between" sis_between ["value", "least", "most"] 2 (spis_between K)) :
    Good P w K mg base "is_size" sis_size ["value"] 3 (spis_size K) := by
  refine D.good fun f fd F => ?_
  obtain ⟨fis_between, dis_between, Ois_between, mis_between, kis_between, bis_between, Fis_between⟩ := his_between
  refine F.ok scis_size (fun vs H Q E h => ?_) (fun cdv A outer s H vs Q E hr h => ?_)
  · obtain ⟨n, rfl, h1, h2, q⟩ := h
    first | rfl | (rcases h with ⟨_, _, rfl, _⟩ | ⟨_, rfl, _⟩ <;> rfl)
  obtain ⟨n, rfl, h1, h2, q⟩ := h
  refine ⟨_, (pss_one (ps_ret (pe_call Ois_between hr rfl mis_between kis_between bis_between .nil pass0 (pa_cons (pv 0) (pa_cons pe_int (pa_cons pe_int pa_nil)))))), ?_⟩
  exact ⟨_, rfl, n, 2, 8, rfl, by omega, by omega, q⟩
def spneed_size (_ : PySem.W.Frag) : Sp := fun vs H Q _ => ∃ n : Nat, vs = [.int (n : Int)] ∧ 2 ≤ n ∧ n ≤ 8 ∧ Q .non H
theorem okneed_size (D : Def K mg "need_size" sneed_size ["size"]) (B : Bs mg) (Glb : Glo mg)
    (his_size : Good P w K mg base "is_size" sis_size ["value"] 3 (spis_size K)) :
    Good P w K mg base "need_size" sneed_size ["size"] 4 (spneed_size K) := by
  refine D.good fun f fd F => ?_
  obtain ⟨fis_size, dis_size, Ois_size, mis_size, kis_size, bis_size, Fis_size⟩ := his_size
  refine F.ok scneed_size (fun vs H Q E h => ?_) (fun cdv A outer s H vs Q E hr h => ?_)
  · obtain ⟨n, rfl, h1, h2, q⟩ := h
    first | rfl | (rcases h with ⟨_, _, rfl, _⟩ | ⟨_, rfl, _⟩ <;> rfl)
  obtain ⟨n, rfl, h1, h2, q⟩ := h
  refine ⟨_, (pss_one (ps_if (pt_not (pt_val (pe_call Ois_size hr rfl mis_size kis_size bis_size .nil pass0 (pa_cons (pv 0) pa_nil))))
    (pss_one ps_never) pss_nil)), ?_⟩
  exact ⟨_, rfl, n, rfl, h1, h2, _, rfl, iteF q⟩
def spis_letter (_ : PySem.W.Frag) : Sp := fun vs H Q _ => ∃ c : Nat, vs = [.str ⟨#[c]⟩] ∧ 97 ≤ c ∧ c ≤ 122 ∧ Q (.bl true) H
theorem okis_letter (D : Def K mg "is_letter" sis_letter ["sign"]) (B : Bs mg) (Glb : Glo mg) :
    Good P w K mg base "is_letter" sis_letter ["sign"] 1 (spis_letter K) := by
  refine D.good fun f fd F => ?_
  refine F.ok scis_letter (fun vs H Q E h => ?_) (fun cdv A outer s H vs Q E hr h => ?_)
  · obtain ⟨c, rfl, h1, h2, q⟩ := h
    first | rfl | (rcases h with ⟨_, _, rfl, _⟩ | ⟨_, rfl, _⟩ <;> rfl)
  obtain ⟨c, rfl, h1, h2, q⟩ := h
  refine ⟨_, (pss_one (ps_ret (pe_chain op_le_str op_le_str pe_str (pv 0) pe_str))), ?_⟩
  have k1 : ¬ ((⟨#[c]⟩ : Str).cps.toList < (Str.ofString "a").cps.toList) := by
    rw [of_a]
    exact not_lt_one h1
  have k2 : ¬ ((Str.ofString "z").cps.toList < (⟨#[c]⟩ : Str).cps.toList) := by
    rw [of_z]
    exact not_lt_one h2
  refine ⟨_, rfl, _, _, rfl, rfl, _, rfl, iteNot k1 ⟨_, _, rfl, rfl, ?_⟩⟩
  show Q (.bl (!decide _)) _
  rw [decide_eq_false k2]
  exact q
def spis_text (_ : PySem.W.Frag) : Sp := fun vs H Q _ => ∃ x, vs = [.str x] ∧ OkT x ∧ Q (.bl true) H
theorem okis_text (D : Def K mg "is_text" sis_text ["value"]) (B : Bs mg) (Glb : Glo mg)
    (his_letter : Good P w K mg base "is_letter" sis_letter ["sign"] 1 (spis_letter K)) :
    Good P w K mg base "is_text" sis_text ["value"] 2 (spis_text K) := by
  refine D.good fun f fd F => ?_
  obtain ⟨fis_letter, dis_letter, Ois_letter, mis_letter, kis_letter, bis_letter, Fis_letter⟩ := his_letter
  refine F.ok scis_text (fun vs H Q E h => ?_) (fun cdv A outer s H vs Q E hr h => ?_)
  · obtain ⟨x, rfl, hl, q⟩ := h
    first | rfl | (rcases h with ⟨_, _, rfl, _⟩ | ⟨_, rfl, _⟩ <;> rfl)
  obtain ⟨x, rfl, hl, q⟩ := h
  refine ⟨_, (pss_cons (ps_if (PW.pt (pw_or (pt_not (pt_val (pe_callB call_isi (by rfl) B.isinstance (by decide +kernel) (pa_cons (pv 0) (pa_cons (pe_bltn (v := .ty "str") (by rfl) B.str (by decide +kernel) rfl) pa_nil))))) (pw_or1 (pt_cmpR op_gt (pe_callB call_len_str (by rfl) B.len (by decide +kernel) (pa_cons (pv 0) pa_nil)) (pe_globI Glb.MOST_LETTERS) (nomark _)))))
    (pss_one (ps_ret pe_bl)) pss_nil)
  (pss_one (ps_ret (pe_drop (pe_callB (cr_all rfl) (by rfl) B.all (by decide +kernel) (pa_cons (pe_lc (own := [("sign", 1)]) (g := gName 1) (by rfl) scis_text.nd (pi_str (pv 0)) (blkOk_by (own := [("sign", 1)]) (N := ["value", "sign"]) (sc := defScope sis_text) (by decide +kernel)) (fun _ _ _ _ _ => (pg_name (i := 1) scis_text.nd rfl (by first | exact Or.inl rfl | exact Or.inr rfl))) (fun _ _ _ _ _ => pts_nil) (fun _ _ _ _ _ => (pe_call Ois_letter hr rfl mis_letter kis_letter bis_letter .nil pass0 (pa_cons (pv 1) pa_nil)))) pa_nil)))))), ?_⟩
  have hlen := hl.len
  refine ⟨_, rfl, _, _, _, _, true, rfl, .ty _, .base (.str _), kit_ty (by decide +kernel), _, rfl, iteF ⟨_, rfl, _, rfl, line400 hlen, _, _, rfl, rfl, _, rfl, iteNo (by omega) ?_⟩⟩
  refine ⟨_, rfl, _, rfl, fun D nD => lc_it walk_str (fun i H' => H' = upd H D (.lst ((List.replicate i true).map V.bl))) rfl (fun _ _ _ _ => trivial) ?_ ?_⟩
  · rintro i y H1 H2 hi rfl ⟨rfl, c, hc, rfl⟩
    have hm := hl.let_ c (by
      have := Array.mem_of_getElem? hc
      simpa using this)
    refine ⟨rfl, _, rfl, c, rfl, hm.1, hm.2, _, upd_same, ?_, ?_⟩
    · rw [List.length_map, List.length_replicate]
      have hi2 : i < x.length := hi
      exact Nat.lt_of_lt_of_le (by omega : i < 1000) (by decide)
    · rw [upd_upd, List.replicate_succ', List.map_append]
      rfl
  · rintro H1 rfl
    refine ⟨D, _, rfl, SqL.of upd_same, D, _, H, rfl, nD, bl_is1 ?_ q⟩
    rw [List.all_eq_true]
    intro b hb
    rw [List.eq_of_mem_replicate hb]
    rfl
def spneed_text (_ : PySem.W.Frag) : Sp := fun vs H Q _ => ∃ x, vs = [.str x] ∧ OkT x ∧ Q .non H
theorem okneed_text (D : Def K mg "need_text" sneed_text ["text"]) (B : Bs mg) (Glb : Glo mg)
    (his_text : Good P w K mg base "is_text" sis_text ["value"] 2 (spis_text K)) :
    Good P w K mg base "need_text" sneed_text ["text"] 3 (spneed_text K) := by
  refine D.good fun f fd F => ?_
  obtain ⟨fis_text, dis_text, Ois_text, mis_text, kis_text, bis_text, Fis_text⟩ := his_text
  refine F.ok scneed_text (fun vs H Q E h => ?_) (fun cdv A outer s H vs Q E hr h => ?_)
  · obtain ⟨x, rfl, hl, q⟩ := h
    first | rfl | (rcases h with ⟨_, _, rfl, _⟩ | ⟨_, rfl, _⟩ <;> rfl)
  obtain ⟨x, rfl, hl, q⟩ := h
  refine ⟨_, (pss_one (ps_if (pt_not (pt_val (pe_call Ois_text hr rfl mis_text kis_text bis_text .nil pass0 (pa_cons (pv 0) pa_nil))))
    (pss_one ps_never) pss_nil)), ?_⟩
  exact ⟨_, rfl, x, rfl, hl, _, rfl, iteF q⟩
def sppieces_along (_ : PySem.W.Frag) : Sp := fun vs H Q _ => ∃ x s, vs = [.str x, .int ((s : Nat) : Int)] ∧ x.length ≤ 400 ∧ s ≤ 8 ∧ ∀ H' l, Same H H' → H l = none → H' l = some (.lst ((pcs x s).map V.str)) → Q (.ref l) H'
theorem okpieces_along (D : Def K mg "pieces_along" spieces_along ["text", "size"]) (B : Bs mg) (Glb : Glo mg) :
    Good P w K mg base "pieces_along" spieces_along ["text", "size"] 1 (sppieces_along K) := by
  refine D.good fun f fd F => ?_
  refine F.ok scpieces_along (fun vs H Q E h => ?_) (fun cdv A outer s H vs Q E hr h => ?_)
  · obtain ⟨x, s, rfl, hx, hs, q⟩ := h
    first | rfl | (rcases h with ⟨_, _, rfl, _⟩ | ⟨_, rfl, _⟩ <;> rfl)
  obtain ⟨x, s, rfl, hx, hs, q⟩ := h
  refine ⟨_, (pss_one (ps_ret (pe_lc (own := [("place", 2)]) (g := gName 2) (by rfl) scpieces_along.nd (pi_range1 (by rfl) B.range (pa_cons (pe_op op_add (pe_op op_sub (pe_callB call_len_str (by rfl) B.len (by decide +kernel) (pa_cons (pv 0) pa_nil)) (pv 1)) pe_int) pa_nil)) (blkOk_by (own := [("place", 2)]) (N := ["text", "size", "place"]) (sc := defScope spieces_along) (by decide +kernel)) (fun _ _ _ _ _ => (pg_name (i := 2) scpieces_along.nd rfl (by first | exact Or.inl rfl | exact Or.inr rfl))) (fun _ _ _ _ _ => pts_nil) (fun _ _ _ _ _ => (pe_slice sl_str (pv 0) (po_some (pv 2)) (po_some (pe_op op_add (pv 2) (pv 1)))))))), ?_⟩
  refine ⟨_, rfl, _, rfl, line400 hx, _, rfl, _, _, rfl, rfl, _, _, rfl, rfl, _, rfl, by omega, by omega, fun D nD => ?_⟩
  rw [show ((x.length : Nat) : Int) - (s : Int) + 1 = ((x.length : Nat) : Int) + 1 - (s : Int) by omega]
  rw [show (((x.length : Nat) : Int) + 1 - (s : Int)).toNat = x.length + 1 - s by omega]
  refine lc_range (lo := 0) (n := x.length + 1 - s) (fun i H' => Same H H' ∧ H' D = some (.lst ((pcsN x s i).map V.str))) ⟨same_new nD _, upd_same⟩ ?_ ?_
  · rintro i H1 hi ⟨hS, hD⟩
    rw [Int.zero_add]
    refine ⟨rfl, _, rfl, _, rfl, _, rfl, _, rfl, _, rfl, _, _, rfl, rfl, _, rfl, _, rfl, line400 hx, _, hD, ?_, same_upd hS nD, ?_⟩
    · rw [List.length_map, pcsN_len]
      exact Nat.lt_of_le_of_lt (by omega : i ≤ 1000) (by decide)
    · rw [upd_same, show pcsN x s (i + 1) = pcsN x s i ++ [pc x s i] from rfl, List.map_append]
      rfl
  · rintro H1 ⟨hS, hD⟩
    exact q H1 D hS nD hD
/-- the texts of the readings and their numbers -/
def OkRd (L : List (Str × Int)) : Prop := ∀ e ∈ L, OkT e.1 ∧ 1 ≤ e.2 ∧ e.2 ≤ 1200
theorem si_at {H : Hp} {ts : List Addr} {L : List (Str × Int)} (hP : Paired (SIAt H) ts L) {i : Nat} {v : V} (h : (ts.map V.ref)[i]? = some v) : ∃ p e, v = .ref p ∧ L[i]? = some e ∧ SIAt H p e := by
  obtain ⟨p, hp, rfl⟩ := ref_at h
  obtain ⟨e, he, hpe⟩ := paired_get hP hp
  exact ⟨p, e, rfl, he, hpe⟩
theorem sumT_snoc (D L : List (Str × Int)) (e : Str × Int) : sumT D (L ++ [e]) = addT (sumT D L) e.1 e.2 := by
  rw [sumT_app]
  rfl
theorem take_snoc {α : Type} {L : List α} {i : Nat} {e : α} (h : L[i]? = some e) : L.take (i + 1) = L.take i ++ [e] := by rw [List.take_succ, h]; rfl
end
end My
namespace My
open PySem L2 PyProof.Rows
abbrev told (D : List (Str × Int)) : List (Str × Int) := D.mergeSort (PySem.W.dataLe false encSI)
theorem pcsT_len (s : Nat) : ∀ {L : List (Str × Int)}, (∀ e ∈ L, e.1.length ≤ 400) → (pcsT s L).length ≤ L.length * 401
  | [], _ => by simp [pcsT]
  | e :: r, h => by
    have h1 := pcsT_len s (L := r) fun f hf => h f (List.mem_cons_of_mem _ hf)
    have h2 := h e List.mem_cons_self
    have h3 : (pcsT s (e :: r)).length = ((pcs e.1 s).map fun p => (p, e.2)).length + (pcsT s r).length := by
      show (((pcs e.1 s).map fun p => (p, e.2)) ++ pcsT s r).length = _
      exact List.length_append
    rw [h3, List.length_map, pcsN_len, List.length_cons]
    omega
theorem pcsT_snoc (s : Nat) (L : List (Str × Int)) (e : Str × Int) : pcsT s (L ++ [e]) = pcsT s L ++ (pcs e.1 s).map fun p => (p, e.2) := by
  unfold pcsT
  rw [List.flatMap_append]
  simp
theorem take_map {α β : Type} {f : α → β} {L : List α} {j : Nat} {x : α} (h : L[j]? = some x) : (L.map f).take (j + 1) = (L.map f).take j ++ [f x] := take_snoc (by rw [List.getElem?_map, h]; rfl)
section
variable {P : Program} {w : World} {K : PySem.W.Frag} {mg : Str → Option Value} {base : Heap}
def sppieces_often (_ : PySem.W.Frag) : Sp := fun vs H Q _ => ∃ l L s, vs = [.ref l, .int ((s : Nat) : Int)] ∧ RdAt H l L ∧ L.length ≤ 200 ∧ (∀ e ∈ L, e.1.length ≤ 400) ∧ s ≤ 8 ∧ ∀ H' p, Same H H' → H p = none → RdAt H' p (told (sumT [] (pcsT s L))) → Q (.ref p) H'
theorem okpieces_often (D : Def K mg "pieces_often" spieces_often ["readings", "size"]) (B : Bs mg) (Glb : Glo mg)
    (hpieces_along : Good P w K mg base "pieces_along" spieces_along ["text", "size"] 1 (sppieces_along K)) :
    Good P w K mg base "pieces_often" spieces_often ["readings", "size"] 2 (sppieces_often K) := by
  refine D.good fun f fd F => ?_
  obtain ⟨fpieces_along, dpieces_along, Opieces_along, mpieces_along, kpieces_along, bpieces_along, Fpieces_along⟩ := hpieces_along
  refine F.ok scpieces_often (fun vs H Q E h => ?_) (fun cdv A outer s H vs Q E hr h => ?_)
  · obtain ⟨l, L, s, rfl, ⟨ts, hl, hP⟩, hlen, hok, hs, q⟩ := h
    first | rfl | (rcases h with ⟨_, _, rfl, _⟩ | ⟨_, rfl, _⟩ <;> rfl)
  obtain ⟨l, L, s, rfl, ⟨ts, hl, hP⟩, hlen, hok, hs, q⟩ := h
  refine ⟨_, (pss_cons (ps_set (i := 2) scpieces_often.nd rfl (by first | exact Or.inl rfl | exact Or.inr rfl) pe_dnewK)
  (pss_cons (ps_for PassesOwn.never rfl (pi_list (pv 0)) (pg_tup rfl (pgs_cons (pg_name (i := 3) scpieces_often.nd rfl (by first | exact Or.inl rfl | exact Or.inr rfl)) (pgs_cons (pg_name (i := 4) scpieces_often.nd rfl (by first | exact Or.inl rfl | exact Or.inr rfl)) pgs_nil)))
    (pss_one (ps_for PassesOwn.never rfl (pi_list (pe_call Opieces_along hr rfl mpieces_along kpieces_along bpieces_along .nil pass0 (pa_cons (pv 3) (pa_cons (pv 1) pa_nil)))) (pg_name (i := 5) scpieces_often.nd rfl (by first | exact Or.inl rfl | exact Or.inr rfl))
    (pss_one (ps_dput (hu_of hr) (pv 2) (pv 5) (pe_op op_add (pe_dget2 (hu_of hr) (pv 2) (pv 5) pe_int ⟨rfl, rfl, rfl, rfl⟩) (pv 4)) rfl)))))
  (pss_one (ps_ret (pe_callB (cr_sortItK rfl hr.units) (by rfl) B.sorted (by decide +kernel) (pa_cons (pe_bm0 PySem.F.plainAttrs_dict PySem.F.slot_dict_items PySem.F.type_dict_items mt_itemsK (pv 2)) pa_nil)))))), ?_⟩
  intro d nd
  have hbig := pcsT_len s hok
  have small : ∀ {D : List (Str × Int)}, D.length ≤ 90000 → (dT D).length < sizeLine := fun h => by
    rw [List.length_map]
    exact Nat.lt_of_le_of_lt h (by decide)
  refine ⟨_, rfl, l, rfl, ⟨_, SqL.of (same_new nd _ _ _ hl)⟩, ?_⟩
  refine for_list (K := K) (a := l) (xs := ts.map V.ref) (fun i σ H' => ∃ v3 v4 v5 : Option V, σ = [some (.ref l), some (.int (s : Int)), some (.ref d), v3, v4, v5] ∧ Same H H' ∧ H' d = some (.dK (dT (sumT [] (pcsT s (L.take i)))))) ⟨none, none, none, rfl, same_new nd _, upd_same⟩ (fun i σ H' _ ⟨_, _, _, _, hS', _⟩ => SqL.of (hS' _ _ hl)) ?_ ?_
  · rintro i x σ H1 hx ⟨v3, v4, v5, rfl, hS, hd⟩
    obtain ⟨p, e, rfl, he, hpe⟩ := si_at hP hx
    have hp1 : H1 p = some (.tup [.str e.1, .int e.2]) := hS _ _ hpe
    have hle := hok e (List.mem_of_getElem? he)
    have hil : i < L.length := (List.getElem?_eq_some_iff.mp he).1
    refine ⟨p, _, rfl, SqT.of hp1, rfl, _, _, rfl, _, _, rfl, rfl, ?_⟩
    refine ⟨_, rfl, _, rfl, e.1, s, rfl, hle, hs, fun H2 m hS2 nm hm => ⟨m, rfl, ⟨_, SqL.of hm⟩, ?_⟩⟩
    have nmd : m ≠ d := fun z => by rw [z, hd] at nm; cases nm
    refine for_list (K := K) (a := m) (xs := (pcs e.1 s).map V.str) (fun j σ H' => ∃ v5 : Option V, σ = [some (.ref l), some (.int (s : Int)), some (.ref d), some (.str e.1), some (.int e.2), v5] ∧ Same H H' ∧ H' m = some (.lst ((pcs e.1 s).map V.str)) ∧ H' d = some (.dK (dT (sumT [] (pcsT s (L.take i) ++ ((pcs e.1 s).map fun p => (p, e.2)).take j))))) ?_ (fun j σ H' _ ⟨_, _, _, hm', _⟩ => SqL.of hm') ?_ ?_
    · exact ⟨v5, rfl, hS.trans hS2, hm, by rw [List.take_zero, List.append_nil]; exact hS2 _ _ hd⟩
    · rintro j y σ H3 hy ⟨w5, rfl, hS3, hm3, hd3⟩
      obtain ⟨z, hz, rfl⟩ := str_at hy
      have hjl : j < (pcs e.1 s).length := (List.getElem?_eq_some_iff.mp hz).1
      rw [pcsN_len] at hjl
      have hcount : (pcsT s (L.take i) ++ ((pcs e.1 s).map fun p => (p, e.2)).take j).length ≤ 90000 := by
        have h1 := pcsT_len s (L := L.take i) fun f hf => hok f (List.mem_of_mem_take hf)
        have h2 : (L.take i).length ≤ 200 := by rw [List.length_take]; omega
        have h3 : (L.take i).length * 401 ≤ 200 * 401 := Nat.mul_le_mul h2 (Nat.le_refl _)
        rw [List.length_append, List.length_take, List.length_map, pcsN_len]
        omega
      have hget : DGet H3 d (.str z) (valV (dT (sumT [] (pcsT s (L.take i) ++ ((pcs e.1 s).map fun p => (p, e.2)).take j))) (Sum.inr z : Key)) := DGet.k (k := Sum.inr z) hd3
      refine ⟨_, rfl, d, rfl, .inl ⟨_, .inl hd3⟩, _, rfl, _, hget, _, rfl, ?_⟩
      rw [dT_getD]
      refine ⟨_, _, rfl, rfl, _, rfl, _, rfl, d, _, rfl, DPut.k (k := Sum.inr z) hd3 (small (Nat.le_trans (by have := sumT_len (pcsT s (L.take i) ++ ((pcs e.1 s).map fun p => (p, e.2)).take j) []; simpa using this) hcount)), ?_⟩
      rw [dT_put (sumT_nodup _ (by simp))]
      refine ⟨_, rfl, same_upd hS3 nd, ?_, ?_⟩
      · rw [upd_ne nmd]; exact hm3
      · rw [upd_same, take_map hz, ← List.append_assoc, sumT_snoc]
    · rintro σ H3 ⟨w5, rfl, hS3, hm3, hd3⟩
      refine ⟨_, _, _, rfl, hS3, ?_⟩
      rw [List.length_map] at hd3
      rw [take_snoc he, pcsT_snoc, hd3]
      rw [show ((pcs e.1 s).map fun p => (p, e.2)).take (pcs e.1 s).length = (pcs e.1 s).map fun p => (p, e.2) from List.take_of_length_le (by rw [List.length_map]; exact Nat.le_refl _)]
  · rintro σ H1 ⟨v3, v4, v5, rfl, hS, hd⟩
    rw [List.length_map, paired_len hP, List.take_length] at hd
    refine ⟨_, rfl, .inr (.inr (.inl ⟨rfl, .inl ⟨_, hd⟩⟩)), d, _, rfl, rfl, hd, fun p0 np0 => ?_⟩
    have hd2 : upd H1 p0 (DX.itemsO p0 d) d = some (.dK (dT (sumT [] (pcsT s L)))) := same_new np0 _ _ _ hd
    refine ⟨p0, d, sumT [] (pcsT s L), rfl, upd_same, hd2, ?_, fun H2 p us hS2 np hp hU => q H2 p (fun b o e => hS2 _ _ (same_new np0 _ _ _ (hS _ _ e))) ?_ ⟨us, hp, hU⟩⟩
    · have h1 := sumT_len (pcsT s L) []
      have h2 : L.length * 401 ≤ 200 * 401 := Nat.mul_le_mul hlen (Nat.le_refl _)
      simp at h1
      omega
    · exact hS.free ((same_new (o := DX.itemsO p0 d) np0).free np)
end
end My
namespace My
open PySem L2 PyProof.Rows
/-! ### rings as lists of letters -/
def Wd (l : List Nat) : Prop := 0 < l.length ∧ l.length ≤ 100 ∧ ∀ c ∈ l, 97 ≤ c ∧ c ≤ 122
theorem T_len (l : List Nat) : (⟨l.toArray⟩ : Str).length = l.length := by simp [Str.length]
theorem T_line {l : List Nat} (h : l.length ≤ 1000) : (⟨l.toArray⟩ : Str).length ≤ sizeLine := by
  rw [T_len]
  exact Nat.le_of_lt (small1000 h)
theorem T_app (a b : List Nat) : (⟨a.toArray⟩ : Str) ++ (⟨b.toArray⟩ : Str) = ⟨(a ++ b).toArray⟩ := by
  exact congrArg Str.mk (show a.toArray ++ b.toArray = (a ++ b).toArray by simp)
theorem T_inj {a b : List Nat} : T a = T b ↔ a = b := by
  constructor
  · intro h
    have h2 : (⟨a.toArray⟩ : Str) = ⟨b.toArray⟩ := V.str.inj h
    have h3 : a.toArray = b.toArray := Str.mk.inj h2
    simpa using congrArg Array.toList h3
  · rintro rfl
    rfl
theorem T_nil : Str.ofString "" = ⟨([] : List Nat).toArray⟩ := by decide +kernel
theorem at_nat {l : List Nat} {i c : Nat} (h : l[i]? = some c) : atI (⟨l.toArray⟩ : Str).cps.toList (i : Int) = some c := by
  show atI l.toArray.toList (i : Int) = some c
  exact atI_nat (by simpa using h)
theorem cut_from {l : List Nat} {p : Nat} : cutS ⟨l.toArray⟩ (some (p : Int)) none = ⟨(l.drop p).toArray⟩ := by
  unfold cutS
  rw [T_len, HT.sIx_nat, HT.sIx_none]
  refine congrArg Str.mk ?_
  show ((l.toArray.toList.drop (min p l.length)).take (l.length - min p l.length)).toArray = _
  rw [List.toList_toArray]
  congr 1
  rw [List.take_of_length_le (by rw [List.length_drop]; omega)]
  rcases Nat.le_total p l.length with h | h
  · rw [Nat.min_eq_left h]
  · rw [Nat.min_eq_right h, List.drop_eq_nil_of_le h, List.drop_eq_nil_of_le (Nat.le_refl _)]
theorem cut_to {l : List Nat} {p : Nat} : cutS ⟨l.toArray⟩ none (some (p : Int)) = ⟨(l.take p).toArray⟩ := by
  unfold cutS
  rw [T_len, HT.sIx_nat, HT.sIx_none]
  refine congrArg Str.mk ?_
  show ((l.toArray.toList.drop 0).take (min p l.length - 0)).toArray = _
  rw [List.toList_toArray, List.drop_zero, Nat.sub_zero]
  congr 1
  rcases Nat.le_total p l.length with h | h
  · rw [Nat.min_eq_left h]
  · rw [Nat.min_eq_right h, List.take_of_length_le h, List.take_of_length_le (Nat.le_refl _)]
theorem join_T (l : List Nat) : Txt.join (Str.ofString "") (l.map fun c => (⟨#[c]⟩ : Str)) = ⟨l.toArray⟩ := by
  unfold Txt.join
  rw [PySem.StrLaws.glued_eq_join, T_nil]
  exact join_nil_signs ⟨l.toArray⟩
theorem ones_len (l : List Nat) : ((l.map fun c => (⟨#[c]⟩ : Str)).map (·.length)).sum = l.length := by
  induction l with
  | nil => rfl
  | cons a r ih =>
    rw [List.map_cons, List.map_cons, List.sum_cons, ih, List.length_cons]
    show 1 + r.length = r.length + 1
    omega
abbrev tS (l : List Nat) : Str := ⟨l.toArray⟩
theorem Wd.okT {l : List Nat} (h : Wd l) : OkT (tS l) := ⟨by rw [T_len]; have := h.2.1; omega, fun c hc => h.2.2 c (by simpa using hc)⟩
theorem rd_wd {l : List Nat} (h : Wd l) (p n : Nat) (h0 : 0 < n) (h1 : n ≤ 100) : Wd (rd l p n) := by
  refine ⟨by rw [rd_len]; exact h0, by rw [rd_len]; exact h1, fun c hc => ?_⟩
  obtain ⟨k, _, rfl⟩ := List.mem_map.mp (show c ∈ (List.range n).map fun k => l.getD ((p + k) % l.length) 0 from hc)
  have hk : (p + k) % l.length < l.length := Nat.mod_lt _ h.1
  refine h.2.2 _ ?_
  rw [List.getD_eq_getElem?_getD, List.getElem?_eq_getElem hk]
  exact List.getElem_mem hk
section
variable {P : Program} {w : World} {K : PySem.W.Frag} {mg : Str → Option Value} {base : Heap}
def spis_below (_ : PySem.W.Frag) : Sp := fun vs H Q _ => ∃ n : Nat, ∃ m : Int, vs = [.int (n : Int), .int m] ∧ (n : Int) < m ∧ Q (.bl true) H
theorem okis_below (D : Def K mg "is_below" sis_below ["value", "limit"]) (B : Bs mg) (Glb : Glo mg)
    (his_count : Good P w K mg base "is_count" sis_count ["value"] 2 (spis_count K)) :
    Good P w K mg base "is_below" sis_below ["value", "limit"] 3 (spis_below K) := by
  refine D.good fun f fd F => ?_
  obtain ⟨fis_count, dis_count, Ois_count, mis_count, kis_count, bis_count, Fis_count⟩ := his_count
  refine F.ok scis_below (fun vs H Q E h => ?_) (fun cdv A outer s H vs Q E hr h => ?_)
  · obtain ⟨n, m, rfl, h1, q⟩ := h
    first | rfl | (rcases h with ⟨_, _, rfl, _⟩ | ⟨_, rfl, _⟩ <;> rfl)
  obtain ⟨n, m, rfl, h1, q⟩ := h
  refine ⟨_, (pss_one (ps_ret (pe_and (pe_call Ois_count hr rfl mis_count kis_count bis_count .nil pass0 (pa_cons (pv 0) pa_nil)) (pe_one (pe_cmpR op_lt (pv 0) (pv 1) (nomark _)))))), ?_⟩
  exact ⟨_, rfl, n, rfl, _, rfl, iteT ⟨_, rfl, _, rfl, _, _, rfl, rfl, bl_true h1 q⟩⟩
def spis_ring (_ : PySem.W.Frag) : Sp := fun vs H Q _ => ∃ l, vs = [T l] ∧ Wd l ∧ Q (.bl true) H
theorem okis_ring (D : Def K mg "is_ring" sis_ring ["value"]) (B : Bs mg) (Glb : Glo mg)
    (his_text : Good P w K mg base "is_text" sis_text ["value"] 2 (spis_text K)) :
    Good P w K mg base "is_ring" sis_ring ["value"] 3 (spis_ring K) := by
  refine D.good fun f fd F => ?_
  obtain ⟨fis_text, dis_text, Ois_text, mis_text, kis_text, bis_text, Fis_text⟩ := his_text
  refine F.ok scis_ring (fun vs H Q E h => ?_) (fun cdv A outer s H vs Q E hr h => ?_)
  · obtain ⟨l, rfl, hl, q⟩ := h
    first | rfl | (rcases h with ⟨_, _, rfl, _⟩ | ⟨_, rfl, _⟩ <;> rfl)
  obtain ⟨l, rfl, hl, q⟩ := h
  refine ⟨_, (pss_one (ps_ret (pe_and (pe_call Ois_text hr rfl mis_text kis_text bis_text .nil pass0 (pa_cons (pv 0) pa_nil)) (pe_one (pe_cmpR op_ne (pv 0) pe_str (nomark _)))))), ?_⟩
  refine ⟨_, rfl, tS l, rfl, hl.okT, _, rfl, iteT ⟨_, rfl, rfl, ?_⟩⟩
  have e : ¬ (T l = V.str (Str.ofString "")) := by
    rw [T_nil, T_inj]
    intro z
    have := hl.1
    rw [z] at this
    exact absurd this (by decide)
  show Q (.bl (!decide (T l = V.str (Str.ofString "")))) H
  rw [decide_eq_false e]
  exact q
def spneed_ring (_ : PySem.W.Frag) : Sp := fun vs H Q _ => ∃ l, vs = [T l] ∧ Wd l ∧ Q .non H
theorem okneed_ring (D : Def K mg "need_ring" sneed_ring ["ring"]) (B : Bs mg) (Glb : Glo mg)
    (his_ring : Good P w K mg base "is_ring" sis_ring ["value"] 3 (spis_ring K)) :
    Good P w K mg base "need_ring" sneed_ring ["ring"] 4 (spneed_ring K) := by
  refine D.good fun f fd F => ?_
  obtain ⟨fis_ring, dis_ring, Ois_ring, mis_ring, kis_ring, bis_ring, Fis_ring⟩ := his_ring
  refine F.ok scneed_ring (fun vs H Q E h => ?_) (fun cdv A outer s H vs Q E hr h => ?_)
  · obtain ⟨l, rfl, hl, q⟩ := h
    first | rfl | (rcases h with ⟨_, _, rfl, _⟩ | ⟨_, rfl, _⟩ <;> rfl)
  obtain ⟨l, rfl, hl, q⟩ := h
  refine ⟨_, (pss_one (ps_if (pt_not (pt_val (pe_call Ois_ring hr rfl mis_ring kis_ring bis_ring .nil pass0 (pa_cons (pv 0) pa_nil))))
    (pss_one ps_never) pss_nil)), ?_⟩
  exact ⟨_, rfl, l, rfl, hl, _, rfl, iteF q⟩
def sp_turned_to (_ : PySem.W.Frag) : Sp := fun vs H Q _ => ∃ l, ∃ p : Nat, vs = [T l, .int (p : Int)] ∧ Wd l ∧ p < l.length ∧ Q (T (rd l p l.length)) H
theorem ok_turned_to (D : Def K mg "_turned_to" s_turned_to ["ring", "place"]) (B : Bs mg) (Glb : Glo mg) :
    Good P w K mg base "_turned_to" s_turned_to ["ring", "place"] 1 (sp_turned_to K) := by
  refine D.good fun f fd F => ?_
  refine F.ok sc_turned_to (fun vs H Q E h => ?_) (fun cdv A outer s H vs Q E hr h => ?_)
  · obtain ⟨l, p, rfl, hl, hp, q⟩ := h
    first | rfl | (rcases h with ⟨_, _, rfl, _⟩ | ⟨_, rfl, _⟩ <;> rfl)
  obtain ⟨l, p, rfl, hl, hp, q⟩ := h
  refine ⟨_, (pss_one (ps_ret (pe_op op_add_str (pe_slice sl_str (pv 0) (po_some (pv 1)) po_none) (pe_slice sl_str (pv 0) po_none (po_some (pv 1)))))), ?_⟩
  have hlen := hl.2.1
  refine ⟨_, rfl, _, rfl, _, rfl, _, rfl, T_line (by omega), _, rfl, _, rfl, _, rfl, _, rfl, T_line (by omega), _, _, rfl, rfl, ?_⟩
  rw [cut_from, cut_to, T_app, ← rd_turn l p hp]
  exact ⟨by rw [T_len, T_len, List.length_drop, List.length_take]; exact Nat.le_of_lt (small1000 (by omega)), q⟩
def spturned (_ : PySem.W.Frag) : Sp := fun vs H Q _ => ∃ l, ∃ b : Nat, vs = [T l, .int (b : Int)] ∧ Wd l ∧ Q (T (rd l b l.length)) H
theorem okturned (D : Def K mg "turned" sturned ["ring", "by"]) (B : Bs mg) (Glb : Glo mg)
    (hneed_ring : Good P w K mg base "need_ring" sneed_ring ["ring"] 4 (spneed_ring K))
    (h_turned_to : Good P w K mg base "_turned_to" s_turned_to ["ring", "place"] 1 (sp_turned_to K))
    (his_count : Good P w K mg base "is_count" sis_count ["value"] 2 (spis_count K)) :
    Good P w K mg base "turned" sturned ["ring", "by"] 5 (spturned K) := by
  refine D.good fun f fd F => ?_
  obtain ⟨fneed_ring, dneed_ring, Oneed_ring, mneed_ring, kneed_ring, bneed_ring, Fneed_ring⟩ := hneed_ring
  obtain ⟨f_turned_to, d_turned_to, O_turned_to, m_turned_to, k_turned_to, b_turned_to, F_turned_to⟩ := h_turned_to
  obtain ⟨fis_count, dis_count, Ois_count, mis_count, kis_count, bis_count, Fis_count⟩ := his_count
  refine F.ok scturned (fun vs H Q E h => ?_) (fun cdv A outer s H vs Q E hr h => ?_)
  · obtain ⟨l, b, rfl, hl, q⟩ := h
    first | rfl | (rcases h with ⟨_, _, rfl, _⟩ | ⟨_, rfl, _⟩ <;> rfl)
  obtain ⟨l, b, rfl, hl, q⟩ := h
  refine ⟨_, (pss_cons (ps_expr (pe_call Oneed_ring hr rfl mneed_ring kneed_ring bneed_ring .nil pass0 (pa_cons (pv 0) pa_nil)))
  (pss_cons (ps_if (pt_not (pt_val (pe_call Ois_count (hr.mono (by decide)) rfl mis_count kis_count bis_count .nil pass0 (pa_cons (pv 1) pa_nil))))
    (pss_one ps_never) pss_nil)
  (pss_one (ps_ret (pe_call O_turned_to (hr.mono (by decide)) rfl m_turned_to k_turned_to b_turned_to .nil pass0 (pa_cons (pv 0) (pa_cons (pe_op op_mod (pv 1) (pe_callB call_len_str (by rfl) B.len (by decide +kernel) (pa_cons (pv 0) pa_nil))) pa_nil))))))), ?_⟩
  have hlen := hl.2.1
  have h0 := hl.1
  refine ⟨_, rfl, l, rfl, hl, _, rfl, b, rfl, _, rfl, iteF ?_⟩
  refine ⟨_, rfl, _, rfl, _, rfl, _, rfl, T_line (by omega), _, _, rfl, rfl, (by rw [T_len]; omega), l, b % l.length, ?_, hl, Nat.mod_lt _ h0, ?_⟩
  · rw [T_len]
    rfl
  · rw [rd_mod]
    exact q
def spread_on (_ : PySem.W.Frag) : Sp := fun vs H Q _ => ∃ l, ∃ p n : Nat, vs = [T l, .int (p : Int), .int (n : Int)] ∧ Wd l ∧ n ≤ 1000 ∧ ∀ H', Same H H' → Q (T (rd l p n)) H'
theorem okread_on (D : Def K mg "read_on" sread_on ["ring", "place", "many"]) (B : Bs mg) (Glb : Glo mg) :
    Good P w K mg base "read_on" sread_on ["ring", "place", "many"] 1 (spread_on K) := by
  refine D.good fun f fd F => ?_
  refine F.ok scread_on (fun vs H Q E h => ?_) (fun cdv A outer s H vs Q E hr h => ?_)
  · obtain ⟨l, p, n, rfl, hl, hn, q⟩ := h
    first | rfl | (rcases h with ⟨_, _, rfl, _⟩ | ⟨_, rfl, _⟩ <;> rfl)
  obtain ⟨l, p, n, rfl, hl, hn, q⟩ := h
  refine ⟨_, (pss_one (ps_ret (pe_join pe_str (pe_lc (own := [("k", 3)]) (g := gName 3) (by rfl) scread_on.nd (pi_range1 (by rfl) B.range (pa_cons (pv 2) pa_nil)) (blkOk_by (own := [("k", 3)]) (N := ["ring", "place", "many", "k"]) (sc := defScope sread_on) (by decide +kernel)) (fun _ _ _ _ _ => (pg_name (i := 3) scread_on.nd rfl (by first | exact Or.inl rfl | exact Or.inr rfl))) (fun _ _ _ _ _ => pts_nil) (fun _ _ _ _ _ => (pe_ix ix_str (pv 0) (pe_op op_mod (pe_op op_add (pv 1) (pv 3)) (pe_callB call_len_str (by rfl) B.len (by decide +kernel) (pa_cons (pv 0) pa_nil))) (fun _ _ => rfl))))))), ?_⟩
  have hlen := hl.2.1
  have h0 := hl.1
  refine ⟨⟨_, rfl⟩, _, rfl, _, rfl, (by omega), (by omega), fun D nD => ?_⟩
  refine lc_range (lo := 0) (n := n) (fun i H' => Same H H' ∧ H' D = some (.lst (((rd l p i).map fun c => (⟨#[c]⟩ : Str)).map V.str))) ⟨same_new nD _, upd_same⟩ ?_ ?_
  · rintro i H1 hi ⟨hS, hD⟩
    have ei : (p : Int) + (0 + (i : Int)) = ((p + i : Nat) : Int) := by omega
    have ej : ((p : Int) + (0 + (i : Int))) % (((⟨l.toArray⟩ : Str).length : Nat) : Int) = (((p + i) % l.length : Nat) : Int) := by
      rw [T_len, ei]
      rfl
    have e0 := getD_lt (l := l) (i := (p + i) % l.length) (Nat.mod_lt _ h0)
    refine ⟨rfl, _, rfl, _, rfl, _, rfl, _, _, rfl, rfl, _, rfl, _, rfl, T_line (by omega), _, _, rfl, rfl, (by rw [T_len]; omega), _, _, _, rfl, rfl, T_line (by omega), (by rw [ej]; exact at_nat e0), _, hD, ?_, ?_⟩
    · rw [List.length_map, List.length_map, rd_len]
      exact small1000 (by omega)
    · refine ⟨same_upd hS nD, ?_⟩
      rw [rd_succ, List.map_append, List.map_append]
      exact upd_same
  · rintro H1 ⟨hS, hD⟩
    refine ⟨_, _, (rd l p n).map fun c => (⟨#[c]⟩ : Str), rfl, rfl, .inl (SqL.of hD), ?_, ?_⟩
    · rw [ones_len, rd_len, T_nil]
      show n + _ * 0 ≤ _
      omega
    · rw [join_T]
      exact q H1 hS
def spopened (_ : PySem.W.Frag) : Sp := fun vs H Q _ => ∃ l, ∃ s p : Nat, vs = [T l, .int (s : Int), .int (p : Int)] ∧ Wd l ∧ 1 ≤ s ∧ s ≤ 8 ∧ ∀ H', Same H H' → Q (T (rd l p (l.length + s - 1))) H'
theorem okopened (D : Def K mg "opened" sopened ["ring", "size", "place"]) (B : Bs mg) (Glb : Glo mg)
    (hread_on : Good P w K mg base "read_on" sread_on ["ring", "place", "many"] 1 (spread_on K)) :
    Good P w K mg base "opened" sopened ["ring", "size", "place"] 2 (spopened K) := by
  refine D.good fun f fd F => ?_
  obtain ⟨fread_on, dread_on, Oread_on, mread_on, kread_on, bread_on, Fread_on⟩ := hread_on
  refine F.ok scopened (fun vs H Q E h => ?_) (fun cdv A outer s H vs Q E hr h => ?_)
  · obtain ⟨l, s, p, rfl, hl, hs1, hs, q⟩ := h
    first | rfl | (rcases h with ⟨_, _, rfl, _⟩ | ⟨_, rfl, _⟩ <;> rfl)
  obtain ⟨l, s, p, rfl, hl, hs1, hs, q⟩ := h
  refine ⟨_, (pss_one (ps_ret (pe_call Oread_on hr rfl mread_on kread_on bread_on .nil pass0 (pa_cons (pv 0) (pa_cons (pv 2) (pa_cons (pe_op op_sub (pe_op op_add (pe_callB call_len_str (by rfl) B.len (by decide +kernel) (pa_cons (pv 0) pa_nil)) (pv 1)) pe_int) pa_nil)))))), ?_⟩
  have hl2 := hl.2.1
  have h0 := hl.1
  refine ⟨_, rfl, _, rfl, _, rfl, _, rfl, T_line (by omega), _, rfl, _, _, rfl, rfl, _, _, rfl, rfl, l, p, l.length + s - 1, ?_, hl, by omega, fun H1 hS1 => q H1 hS1⟩
  have e : (((⟨l.toArray⟩ : Str).length : Int) + (s : Int)) - 1 = ((l.length + s - 1 : Nat) : Int) := by rw [T_len]; omega
  dsimp only
  rw [e]
  rfl
end
end My
namespace My
open PySem L2 PyProof.Rows
/-! ### pieces of rings -/
theorem cutS_at (l : List Nat) (p s : Nat) : pc (tS l) s p = tS ((l.drop p).take s) := by
  unfold pc
  rw [show ((p : Int) + (s : Int)) = ((p + s : Nat) : Int) by omega]
  unfold cutS
  rw [T_len, HT.sIx_nat, HT.sIx_nat]
  refine congrArg Str.mk ?_
  show ((l.toArray.toList.drop (min p l.length)).take (min (p + s) l.length - min p l.length)).toArray = _
  rw [List.toList_toArray]
  congr 1
  rcases Nat.le_total p l.length with h | h
  · rw [Nat.min_eq_left h]
    rcases Nat.le_total (p + s) l.length with k | k
    · rw [Nat.min_eq_left k, show p + s - p = s by omega]
    · rw [Nat.min_eq_right k, List.take_of_length_le (by rw [List.length_drop]; exact Nat.le_refl _), List.take_of_length_le (by rw [List.length_drop]; omega)]
  · rw [Nat.min_eq_right h, List.drop_eq_nil_of_le h, List.drop_eq_nil_of_le (Nat.le_refl _)]
    simp
theorem rd_cut (l : List Nat) (p n k s : Nat) (h : k + s ≤ n) : ((rd l p n).drop k).take s = rd l (p + k) s := by
  rw [rd_drop]
  refine List.ext_getElem? fun i => ?_
  by_cases c : i < s
  · rw [List.getElem?_take_of_lt c, rd_get _ _ _ _ (by omega), rd_get _ _ _ _ c]
  · rw [List.getElem?_eq_none (by rw [List.length_take, rd_len]; omega), List.getElem?_eq_none (by rw [rd_len]; omega)]
theorem pcsN_map (x : Str) (s : Nat) : ∀ n, pcsN x s n = (List.range n).map fun k => pc x s k
  | 0 => rfl
  | n + 1 => by
    unfold pcsN
    rw [pcsN_map x s n, List.range_succ, List.map_append]
    rfl
/-- the pieces of a ring, from place to place -/
def rps (l : List Nat) (s : Nat) : List Str := (List.range l.length).map fun p => tS (rd l p s)
theorem pcs_opened {l : List Nat} {s p : Nat} (h0 : 0 < l.length) (hs : 1 ≤ s) : pcs (tS (rd l p (l.length + s - 1))) s = (List.range l.length).map fun k => tS (rd l (p + k) s) := by
  have e : (tS (rd l p (l.length + s - 1))).length + 1 - s = l.length := by rw [T_len, rd_len]; omega
  unfold pcs
  rw [e, pcsN_map]
  refine List.map_congr_left fun k hk => ?_
  have hk := List.mem_range.mp hk
  rw [cutS_at, rd_cut _ _ _ _ _ (by omega)]
theorem rd_line {l : List Nat} (p n : Nat) (h : n ≤ 400) : (tS (rd l p n)).length ≤ 400 := by rw [T_len, rd_len]; exact h
section
variable {P : Program} {w : World} {K : PySem.W.Frag} {mg : Str → Option Value} {base : Heap}
def spcut_at (_ : PySem.W.Frag) : Sp := fun vs H Q _ => ∃ l, ∃ s p : Nat, vs = [T l, .int (s : Int), .int (p : Int)] ∧ Wd l ∧ 2 ≤ s ∧ s ≤ 8 ∧ p < l.length ∧ ∀ H', Same H H' → Q (T (rd l p (l.length + s - 1))) H'
theorem okcut_at (D : Def K mg "cut_at" scut_at ["ring", "size", "place"]) (B : Bs mg) (Glb : Glo mg)
    (hneed_ring : Good P w K mg base "need_ring" sneed_ring ["ring"] 4 (spneed_ring K))
    (hneed_size : Good P w K mg base "need_size" sneed_size ["size"] 4 (spneed_size K))
    (hopened : Good P w K mg base "opened" sopened ["ring", "size", "place"] 2 (spopened K))
    (his_below : Good P w K mg base "is_below" sis_below ["value", "limit"] 3 (spis_below K)) :
    Good P w K mg base "cut_at" scut_at ["ring", "size", "place"] 5 (spcut_at K) := by
  refine D.good fun f fd F => ?_
  obtain ⟨fneed_ring, dneed_ring, Oneed_ring, mneed_ring, kneed_ring, bneed_ring, Fneed_ring⟩ := hneed_ring
  obtain ⟨fneed_size, dneed_size, Oneed_size, mneed_size, kneed_size, bneed_size, Fneed_size⟩ := hneed_size
  obtain ⟨fopened, dopened, Oopened, mopened, kopened, bopened, Fopened⟩ := hopened
  obtain ⟨fis_below, dis_below, Ois_below, mis_below, kis_below, bis_below, Fis_below⟩ := his_below
  refine F.ok sccut_at (fun vs H Q E h => ?_) (fun cdv A outer s H vs Q E hr h => ?_)
  · obtain ⟨l, s, p, rfl, hl, hs1, hs, hp, q⟩ := h
    first | rfl | (rcases h with ⟨_, _, rfl, _⟩ | ⟨_, rfl, _⟩ <;> rfl)
  obtain ⟨l, s, p, rfl, hl, hs1, hs, hp, q⟩ := h
  refine ⟨_, (pss_cons (ps_expr (pe_call Oneed_ring hr rfl mneed_ring kneed_ring bneed_ring .nil pass0 (pa_cons (pv 0) pa_nil)))
  (pss_cons (ps_expr (pe_call Oneed_size hr rfl mneed_size kneed_size bneed_size .nil pass0 (pa_cons (pv 1) pa_nil)))
  (pss_cons (ps_if (pt_not (pt_val (pe_call Ois_below (hr.mono (by decide)) rfl mis_below kis_below bis_below .nil pass0 (pa_cons (pv 2) (pa_cons (pe_callB call_len_str (by rfl) B.len (by decide +kernel) (pa_cons (pv 0) pa_nil)) pa_nil)))))
    (pss_one ps_never) pss_nil)
  (pss_one (ps_ret (pe_call Oopened (hr.mono (by decide)) rfl mopened kopened bopened .nil pass0 (pa_cons (pv 0) (pa_cons (pv 1) (pa_cons (pv 2) pa_nil))))))))), ?_⟩
  have hl2 := hl.2.1
  refine ⟨_, rfl, l, rfl, hl, _, rfl, s, rfl, hs1, hs, _, rfl, _, rfl, _, rfl, T_line (by omega), p, _, rfl, by rw [T_len]; omega, _, rfl, iteF ?_⟩
  exact ⟨_, rfl, _, rfl, _, rfl, l, s, p, rfl, hl, by omega, hs, fun H1 hS => q H1 hS⟩
def spline_pieces (_ : PySem.W.Frag) : Sp := fun vs H Q _ => ∃ x, ∃ s : Nat, vs = [.str x, .int (s : Int)] ∧ OkT x ∧ 2 ≤ s ∧ s ≤ 8 ∧ ∀ H' p, Same H H' → H p = none → RdAt H' p (told (sumT [] (pcsT s [(x, 1)]))) → Q (.ref p) H'
theorem okline_pieces (D : Def K mg "line_pieces" sline_pieces ["text", "size"]) (B : Bs mg) (Glb : Glo mg)
    (hneed_text : Good P w K mg base "need_text" sneed_text ["text"] 3 (spneed_text K))
    (hneed_size : Good P w K mg base "need_size" sneed_size ["size"] 4 (spneed_size K))
    (hpieces_often : Good P w K mg base "pieces_often" spieces_often ["readings", "size"] 2 (sppieces_often K)) :
    Good P w K mg base "line_pieces" sline_pieces ["text", "size"] 5 (spline_pieces K) := by
  refine D.good fun f fd F => ?_
  obtain ⟨fneed_text, dneed_text, Oneed_text, mneed_text, kneed_text, bneed_text, Fneed_text⟩ := hneed_text
  obtain ⟨fneed_size, dneed_size, Oneed_size, mneed_size, kneed_size, bneed_size, Fneed_size⟩ := hneed_size
  obtain ⟨fpieces_often, dpieces_often, Opieces_often, mpieces_often, kpieces_often, bpieces_often, Fpieces_often⟩ := hpieces_often
  refine F.ok scline_pieces (fun vs H Q E h => ?_) (fun cdv A outer s H vs Q E hr h => ?_)
  · obtain ⟨x, s, rfl, hx, hs1, hs, q⟩ := h
    first | rfl | (rcases h with ⟨_, _, rfl, _⟩ | ⟨_, rfl, _⟩ <;> rfl)
  obtain ⟨x, s, rfl, hx, hs1, hs, q⟩ := h
  refine ⟨_, (pss_cons (ps_expr (pe_call Oneed_text (hr.mono (by decide)) rfl mneed_text kneed_text bneed_text .nil pass0 (pa_cons (pv 0) pa_nil)))
  (pss_cons (ps_expr (pe_call Oneed_size hr rfl mneed_size kneed_size bneed_size .nil pass0 (pa_cons (pv 1) pa_nil)))
  (pss_one (ps_ret (pe_call Opieces_often (hr.mono (by decide)) rfl mpieces_often kpieces_often bpieces_often .nil pass0 (pa_cons (pe_lst (pa_cons (pe_tup (pa_cons (pv 0) (pa_cons pe_int pa_nil))) pa_nil)) (pa_cons (pv 1) pa_nil))))))), ?_⟩
  have hx1 := hx.len
  refine ⟨_, rfl, x, rfl, hx, _, rfl, s, rfl, hs1, hs, ?_⟩
  refine ⟨_, rfl, (by show 2 ≤ sizeLine; decide), fun tp ntp => ⟨(by show 1 ≤ sizeLine; decide), fun rl nrl => ?_⟩⟩
  have hS := fun b u e => same_new nrl (.lst [.ref tp]) b u (same_new ntp (.tup [.str x, .int 1]) b u e)
  have hR : RdAt (upd (upd H tp (.tup [.str x, .int 1])) rl (.lst [.ref tp])) rl [(x, 1)] := ⟨[tp], upd_same, .cons (same_new nrl _ _ _ upd_same) .nil⟩
  generalize upd (upd H tp (.tup [.str x, .int 1])) rl (.lst [.ref tp]) = H2 at hS hR
  exact ⟨_, rfl, rl, [(x, 1)], s, rfl, hR, (by show 1 ≤ 200; decide), fun e he => by rw [List.mem_singleton.mp he]; exact hx1, hs, fun H3 p hS3 np hR3 => q H3 p (fun b u e => hS3 _ _ (hS b u e)) (Same.free hS np) hR3⟩
def spring_pieces (_ : PySem.W.Frag) : Sp := fun vs H Q _ => ∃ l, ∃ s : Nat, vs = [T l, .int (s : Int)] ∧ Wd l ∧ 2 ≤ s ∧ s ≤ 8 ∧ ∀ H' p, Same H H' → H p = none → RdAt H' p (told (sumT [] (pcsT s [(tS (rd l 0 (l.length + s - 1)), 1)]))) → Q (.ref p) H'
theorem okring_pieces (D : Def K mg "ring_pieces" sring_pieces ["ring", "size"]) (B : Bs mg) (Glb : Glo mg)
    (hneed_ring : Good P w K mg base "need_ring" sneed_ring ["ring"] 4 (spneed_ring K))
    (hneed_size : Good P w K mg base "need_size" sneed_size ["size"] 4 (spneed_size K))
    (hpieces_often : Good P w K mg base "pieces_often" spieces_often ["readings", "size"] 2 (sppieces_often K))
    (hopened : Good P w K mg base "opened" sopened ["ring", "size", "place"] 2 (spopened K)) :
    Good P w K mg base "ring_pieces" sring_pieces ["ring", "size"] 5 (spring_pieces K) := by
  refine D.good fun f fd F => ?_
  obtain ⟨fneed_ring, dneed_ring, Oneed_ring, mneed_ring, kneed_ring, bneed_ring, Fneed_ring⟩ := hneed_ring
  obtain ⟨fneed_size, dneed_size, Oneed_size, mneed_size, kneed_size, bneed_size, Fneed_size⟩ := hneed_size
  obtain ⟨fpieces_often, dpieces_often, Opieces_often, mpieces_often, kpieces_often, bpieces_often, Fpieces_often⟩ := hpieces_often
  obtain ⟨fopened, dopened, Oopened, mopened, kopened, bopened, Fopened⟩ := hopened
  refine F.ok scring_pieces (fun vs H Q E h => ?_) (fun cdv A outer s H vs Q E hr h => ?_)
  · obtain ⟨l, s, rfl, hl, hs1, hs, q⟩ := h
    first | rfl | (rcases h with ⟨_, _, rfl, _⟩ | ⟨_, rfl, _⟩ <;> rfl)
  obtain ⟨l, s, rfl, hl, hs1, hs, q⟩ := h
  refine ⟨_, (pss_cons (ps_expr (pe_call Oneed_ring hr rfl mneed_ring kneed_ring bneed_ring .nil pass0 (pa_cons (pv 0) pa_nil)))
  (pss_cons (ps_expr (pe_call Oneed_size hr rfl mneed_size kneed_size bneed_size .nil pass0 (pa_cons (pv 1) pa_nil)))
  (pss_one (ps_ret (pe_call Opieces_often (hr.mono (by decide)) rfl mpieces_often kpieces_often bpieces_often .nil pass0 (pa_cons (pe_lst (pa_cons (pe_tup (pa_cons (pe_call Oopened (hr.mono (by decide)) rfl mopened kopened bopened .nil pass0 (pa_cons (pv 0) (pa_cons (pv 1) (pa_cons pe_int pa_nil)))) (pa_cons pe_int pa_nil))) pa_nil)) (pa_cons (pv 1) pa_nil))))))), ?_⟩
  have hl2 := hl.2.1
  refine ⟨_, rfl, l, rfl, hl, _, rfl, s, rfl, hs1, hs, ?_⟩
  refine ⟨_, rfl, _, rfl, l, s, 0, rfl, hl, by omega, hs, fun H1 hS1 => ⟨(by show 2 ≤ sizeLine; decide), fun tp ntp => ⟨(by show 1 ≤ sizeLine; decide), fun rl nrl => ?_⟩⟩⟩
  have hx1 := rd_line (l := l) 0 (l.length + s - 1) (by omega)
  have hS := fun b u e => same_new nrl (.lst [.ref tp]) b u (same_new ntp (.tup [T (rd l 0 (l.length + s - 1)), .int 1]) b u (hS1 b u e))
  have hR : RdAt (upd (upd H1 tp (.tup [T (rd l 0 (l.length + s - 1)), .int 1])) rl (.lst [.ref tp])) rl [(tS (rd l 0 (l.length + s - 1)), 1)] := ⟨[tp], upd_same, .cons (same_new nrl _ _ _ upd_same) .nil⟩
  generalize upd (upd H1 tp (.tup [T (rd l 0 (l.length + s - 1)), .int 1])) rl (.lst [.ref tp]) = H2 at hS hR
  exact ⟨_, rfl, rl, _, s, rfl, hR, (by show 1 ≤ 200; decide), fun e he => by rw [List.mem_singleton.mp he]; exact hx1, hs, fun H3 p hS3 np hR3 => q H3 p (fun b u e => hS3 _ _ (hS b u e)) (Same.free hS np) hR3⟩
end
end My
namespace My
open PySem L2 PyProof.Rows
def PotOk (x y : Int) : Prop := 0 ≤ x ∧ 0 ≤ y ∧ y < 2147483588
def PotAt (H : Hp) (a : Addr) : Prop := ∃ x y : Int, H a = some (.lst [.int x, .int y]) ∧ PotOk x y
theorem Kept.seq {K : PySem.W.Frag} {a l : Addr} {xs : List V} {H H' : Hp} (h : Kept a H H') (hn : l ≠ a) (q : H l = some (.lst xs)) : H' l = some (.lst xs) := h l _ q hn
section
variable {P : Program} {w : World} {K : PySem.W.Frag} {mg : Str → Option Value} {base : Heap}
def sp_law_pot (K : PySem.W.Frag) : Sp := fun vs H Q _ => ∃ a, ∃ ns : List Int, vs = [.ref a, .int 0] ∧ SqL K H a (ns.map V.int) ∧ ∀ p H', PotAt H' p → Same H H' → H p = none → Q (.ref p) H'
theorem ok_law_pot (D : Def K mg "_law_pot" s_law_pot ["_law_script", "_law_k"]) (B : Bs mg) (Glb : Glo mg) :
    Good P w K mg base "_law_pot" s_law_pot ["_law_script", "_law_k"] 1 (sp_law_pot K) := by
  refine D.good fun f fd F => ?_
  refine F.ok sc_law_pot (fun vs H Q E h => ?_) (fun cdv A outer s H vs Q E hr h => ?_)
  · obtain ⟨a, ns, rfl, hS, q⟩ := h
    first | rfl | (rcases h with ⟨_, _, rfl, _⟩ | ⟨_, rfl, _⟩ <;> rfl)
  obtain ⟨a, ns, rfl, hS, q⟩ := h
  refine ⟨_, (pss_cons (ps_set (i := 2) sc_law_pot.nd rfl (by first | exact Or.inl rfl | exact Or.inr rfl) (pe_op op_add (pe_op op_mul pe_int (pv 1)) pe_int))
  (pss_cons (ps_if (pt_cmpR op_lt (pv 1) (pe_callB call_len_seq (by rfl) B.len (by decide +kernel) (pa_cons (pv 0) pa_nil)) (nomark _))
    (pss_one (ps_set (i := 2) sc_law_pot.nd rfl (by first | exact Or.inl rfl | exact Or.inr rfl) (pe_callB call_abs (by rfl) B.abs (by decide +kernel) (pa_cons (pe_ix ix_list (pv 0) (pv 1) (fun _ _ => rfl)) pa_nil)))) pss_nil)
  (pss_one (ps_ret (pe_lst (pa_cons (pe_callB (call_max2 rfl) (by rfl) B.max (by decide +kernel) (pa_cons pe_int (pa_cons (pe_op op_sub (pv 2) (pe_op op_pow pe_int pe_int)) pa_nil))) (pa_cons (pe_op op_add (pe_op op_mod (pe_callTy call_int1 (by rfl) B.int (by decide +kernel) (pa_cons (pe_op op_add (pe_op op_mul (pe_op op_mod (pe_callTy call_int1 (by rfl) B.int (by decide +kernel) (pa_cons (pv 2) pa_nil)) pe_int) (pe_op op_add (pe_op op_mul pe_int (pv 1)) pe_int)) pe_int) pa_nil)) pe_int) pe_int) pa_nil))))))), ?_⟩
  refine ⟨_, rfl, _, _, rfl, rfl, .inl ⟨by decide, by decide⟩, _, _, rfl, rfl, ?_⟩
  refine ⟨_, rfl, _, rfl, _, _, rfl, .inl hS, _, _, rfl, rfl, _, rfl, ?_⟩
  refine ite2 (fun c1 => ?pos) (fun c1 => ?neg)
  case' pos =>
    obtain ⟨n, rest, rfl⟩ : ∃ n rest, ns = n :: rest := by
      cases ns with
      | nil => exact absurd (of_decide_eq_true c1) (by decide)
      | cons n rest => exact ⟨n, rest, rfl⟩
    refine ⟨_, rfl, _, rfl, _, _, _, .int n, rfl, rfl, hS, atI_nat (j := 0) rfl, _, rfl, ?_⟩
    have hz0 : (0 : Int) ≤ (if n < 0 then -n else n) := by split <;> omega
  case' neg =>
    have hz0 : (0 : Int) ≤ (1087 * 0 + 797) := by decide
  all_goals
    refine ⟨_, rfl, _, _, rfl, rfl, ⟨by decide, by decide, by decide⟩, _, _, rfl, rfl, _, _, rfl, _, rfl, .inl ⟨_, rfl, _, _, rfl, rfl, (by show (0 : Int) < 2147483549; decide), _, rfl, _, _, rfl, rfl, .inl ⟨by decide, by decide⟩, _, _, rfl, rfl, _, _, rfl, rfl, .inl ⟨?_, ?_⟩, _, _, rfl, rfl, .inl ⟨_, rfl, _, _, rfl, rfl, (by show (0 : Int) < 2147483543; decide), _, _, rfl, rfl, (by show 2 ≤ sizeLine; decide), fun p np => ?_⟩⟩⟩
    · omega
    · omega
    · refine q p _ ⟨_, _, upd_same, ?_, ?_, ?_⟩ (same_new np _) np
      · split <;> omega
      · omega
      · omega
def sp_law_draw (_ : PySem.W.Frag) : Sp := fun vs H Q _ => ∃ a n, vs = [.ref a, .int ((n : Nat) : Int)] ∧ PotAt H a ∧ 0 < n ∧ n ≤ 1000 ∧ ∀ (d : Nat) H', d < n → Kept a H H' → PotAt H' a → Q (.int (d : Int)) H'
theorem ok_law_draw (D : Def K mg "_law_draw" s_law_draw ["_law_pot_here", "_law_size"]) (B : Bs mg) (Glb : Glo mg) :
    Good P w K mg base "_law_draw" s_law_draw ["_law_pot_here", "_law_size"] 1 (sp_law_draw K) := by
  refine D.good fun f fd F => ?_
  refine F.ok sc_law_draw (fun vs H Q E h => ?_) (fun cdv A outer s H vs Q E hr h => ?_)
  · obtain ⟨a, n, rfl, ⟨x, y, ha, hx, hy, hy2⟩, hn, hn2, q⟩ := h
    first | rfl | (rcases h with ⟨_, _, rfl, _⟩ | ⟨_, rfl, _⟩ <;> rfl)
  obtain ⟨a, n, rfl, ⟨x, y, ha, hx, hy, hy2⟩, hn, hn2, q⟩ := h
  refine ⟨_, (pss_cons (ps_if (pt_cmpR op_gt (pe_ix ix_list (pv 0) pe_int (fun _ _ => rfl)) pe_int (nomark _))
    (pss_cons (ps_asg (pe_callB call_divmod (by rfl) B.divmod (by decide +kernel) (pa_cons (pe_ix ix_list (pv 0) pe_int (fun _ _ => rfl)) (pa_cons (pv 1) pa_nil))) (pg_tup rfl (pgs_cons (pg_sub (pv 0) pe_int set_list) (pgs_cons (pg_name (i := 2) sc_law_draw.nd rfl (by first | exact Or.inl rfl | exact Or.inr rfl)) pgs_nil))))
  (pss_one (ps_ret (pv 2)))) pss_nil)
  (pss_cons (ps_asg (pe_op op_mod (pe_callTy call_int1 (by rfl) B.int (by decide +kernel) (pa_cons (pe_op op_add (pe_op op_mul (pe_ix ix_list (pv 0) pe_int (fun _ _ => rfl)) pe_int) pe_int) pa_nil)) pe_int) (pg_sub (pv 0) pe_int set_list))
  (pss_one (ps_ret (pe_op op_mod (pe_callTy call_int1 (by rfl) B.int (by decide +kernel) (pa_cons (pe_op op_fdiv (pe_op op_mod (pe_callTy call_int1 (by rfl) B.int (by decide +kernel) (pa_cons (pe_op op_mul (pe_ix ix_list (pv 0) pe_int (fun _ _ => rfl)) (pe_ix ix_list (pv 0) pe_int (fun _ _ => rfl))) pa_nil)) pe_int) pe_int) pa_nil)) (pv 1)))))), ?_⟩
  refine ⟨_, rfl, _, _, _, .int x, rfl, rfl, SqL.of ha, rfl, _, _, rfl, rfl, _, rfl, ?_⟩
  refine ite2 (fun c1 => ?_) (fun c1 => ?_)
  · have hpos : (0 : Int) < x := of_decide_eq_true c1
    refine ⟨_, rfl, _, _, _, .int x, rfl, rfl, SqL.of ha, rfl, _, rfl, _, _, rfl, ⟨by omega, by omega⟩, fun p np => ?_⟩
    have hpa : a ≠ p := ne_of_none ha np
    have ha' : (upd H p (.tup [.int (x / (n : Int)), .int (x % (n : Int))])) a = some (.lst [.int x, .int y]) := by
      rw [upd_ne hpa]
      exact ha
    have ed : (((x % (n : Int)).toNat : Nat) : Int) = x % (n : Int) := Int.toNat_of_nonneg (Int.emod_nonneg _ (by omega))
    have el := Int.emod_lt_of_pos x (show (0 : Int) < (n : Int) by omega)
    refine ⟨_, _, rfl, SqT.of upd_same, rfl, _, _, rfl, _, rfl, _, _, _, 0, rfl, rfl, ha', rfl, _, _, rfl, rfl, ?_⟩
    refine ⟨_, rfl, ?_⟩
    have := q (x % (n : Int)).toNat (upd (upd H p (.tup [.int (x / (n : Int)), .int (x % (n : Int))])) a (.lst [.int (x / (n : Int)), .int y])) (by omega) (fun b o e nb => by rw [upd_ne nb, upd_ne (ne_of_none e np)]; exact e)
      ⟨_, _, upd_same, Int.ediv_nonneg hx (by omega), hy, hy2⟩
    rw [ed] at this
    exact this
  · refine ⟨_, rfl, _, _, _, .int y, rfl, rfl, SqL.of ha, rfl, _, _, rfl, rfl, .inl ⟨by omega, by omega⟩, _, _, rfl, rfl, .inl ⟨_, rfl, _, _, rfl, rfl, (by show (0 : Int) < 2147483587; decide), _, rfl, _, _, _, 1, rfl, rfl, ha, rfl, ?_⟩⟩
    have hz0 : (0 : Int) ≤ (y * 48271 + 18979) % 2147483587 := by omega
    have hz1 : (y * 48271 + 18979) % 2147483587 < (2147483587 : Int) := by omega
    refine ⟨_, rfl, _, _, _, .int ((y * 48271 + 18979) % 2147483587), rfl, rfl, SqL.of upd_same, rfl, _, rfl, _, _, _, .int ((y * 48271 + 18979) % 2147483587), rfl, rfl, SqL.of upd_same, rfl, _, _, rfl, rfl, .inl ⟨by omega, by omega⟩, .inl ⟨_, rfl, _, _, rfl, rfl, (by show (0 : Int) < 2147483549; decide), _, _, rfl, rfl, ⟨by decide, by decide⟩, .inl ⟨_, rfl, _, rfl, _, _, rfl, rfl, (by show (0 : Int) < (n : Int); omega), ?_⟩⟩⟩
    have fin : ∀ z : Int, 0 ≤ z → z < 2147483587 → Q (V.int (z * z % 2147483549 / 13 % (n : Int))) (upd H a (.lst [.int x, .int z])) := fun z hz0 hz1 => by
      have ed : (((z * z % 2147483549 / 13 % (n : Int)).toNat : Nat) : Int) = z * z % 2147483549 / 13 % (n : Int) := Int.toNat_of_nonneg (Int.emod_nonneg _ (by omega))
      have el := Int.emod_lt_of_pos (z * z % 2147483549 / 13) (show (0 : Int) < (n : Int) by omega)
      have := q (z * z % 2147483549 / 13 % (n : Int)).toNat (upd H a (.lst [.int x, .int z])) (by omega) (fun b o e nb => by rw [upd_ne nb]; exact e) ⟨_, _, upd_same, hx, hz0, by omega⟩
      rw [ed] at this
      exact this
    exact fin _ hz0 hz1
def sp_law_pick (K : PySem.W.Frag) : Sp := fun vs H Q _ => ∃ a, (∃ l, ∃ xs : List V, vs = [.ref a, .ref l] ∧ H l = some (.lst xs) ∧ l ≠ a ∧ 0 < xs.length ∧ xs.length ≤ 1000 ∧ PotAt H a ∧ ∀ v H', v ∈ xs → Kept a H H' → PotAt H' a → Q v H')
  ∨ (∃ l : List Nat, vs = [.ref a, T l] ∧ 0 < l.length ∧ l.length ≤ 1000 ∧ PotAt H a ∧ ∀ c H', c ∈ l → Kept a H H' → PotAt H' a → Q (T [c]) H')
theorem ok_law_pick (D : Def K mg "_law_pick" s_law_pick ["_law_pot_here", "_law_some"]) (B : Bs mg) (Glb : Glo mg)
    (h_law_draw : Good P w K mg base "_law_draw" s_law_draw ["_law_pot_here", "_law_size"] 1 (sp_law_draw K)) :
    Good P w K mg base "_law_pick" s_law_pick ["_law_pot_here", "_law_some"] 2 (sp_law_pick K) := by
  refine D.good fun f fd F => ?_
  obtain ⟨f_law_draw, d_law_draw, O_law_draw, m_law_draw, k_law_draw, b_law_draw, F_law_draw⟩ := h_law_draw
  refine F.ok sc_law_pick (fun vs H Q E h => ?_) (fun cdv A outer s H vs Q E hr h => ?_)
  · obtain ⟨a, h⟩ := h
    first | rfl | (rcases h with ⟨_, _, rfl, _⟩ | ⟨_, rfl, _⟩ <;> rfl)
  obtain ⟨a, h⟩ := h
  rcases h with ⟨l, xs, rfl, hl, hla, h0, hlen, hp, q⟩ | ⟨l, rfl, h0, hlen, hp, q⟩
  · refine ⟨_, (pss_one (ps_ret (pe_ix ix_seq (pv 1) (pe_call O_law_draw hr rfl m_law_draw k_law_draw b_law_draw .nil pass0 (pa_cons (pv 0) (pa_cons (pe_callB call_len (by rfl) B.len (by decide +kernel) (pa_cons (pv 1) pa_nil)) pa_nil))) (fun _ _ => rfl)))), ?_⟩
    refine ⟨_, rfl, _, rfl, _, rfl, _, _, rfl, .inl ⟨_, SqL.of hl, rfl⟩, a, xs.length, rfl, hp, h0, hlen, fun d H' hd hk hp' => ?_⟩
    exact .inl ⟨_, _, _, _, rfl, rfl, SqL.of (hk l _ hl hla), atI_nat (List.getElem?_eq_getElem hd), q _ H' (List.getElem_mem hd) hk hp'⟩
  · refine ⟨_, (pss_one (ps_ret (pe_ix ix_seq (pv 1) (pe_call O_law_draw hr rfl m_law_draw k_law_draw b_law_draw .nil pass0 (pa_cons (pv 0) (pa_cons (pe_callB call_len (by rfl) B.len (by decide +kernel) (pa_cons (pv 1) pa_nil)) pa_nil))) (fun _ _ => rfl)))), ?_⟩
    refine ⟨_, rfl, _, rfl, _, rfl, _, l.length, rfl, ⟨T_line hlen, T_len l⟩, a, l.length, rfl, hp, h0, hlen, fun d H' hd hk hp' => ?_⟩
    exact .inr (.inr ⟨_, _, _, rfl, rfl, T_line hlen, at_nat (List.getElem?_eq_getElem hd), q _ H' (List.getElem_mem hd) hk hp'⟩)
def sp_law_round (_ : PySem.W.Frag) : Sp := fun vs H Q _ => ∃ l, ∃ p n : Nat, vs = [T l, .int (p : Int), .int (n : Int)] ∧ Wd l ∧ n ≤ 1000 ∧ Q (T (rd l p n)) H
theorem ok_law_round (D : Def K mg "_law_round" s_law_round ["_law_ring_here", "_law_place", "_law_many"]) (B : Bs mg) (Glb : Glo mg) :
    Good P w K mg base "_law_round" s_law_round ["_law_ring_here", "_law_place", "_law_many"] 1 (sp_law_round K) := by
  refine D.good fun f fd F => ?_
  refine F.ok sc_law_round (fun vs H Q E h => ?_) (fun cdv A outer s H vs Q E hr h => ?_)
  · obtain ⟨l, p, n, rfl, hl, hn, q⟩ := h
    first | rfl | (rcases h with ⟨_, _, rfl, _⟩ | ⟨_, rfl, _⟩ <;> rfl)
  obtain ⟨l, p, n, rfl, hl, hn, q⟩ := h
  refine ⟨_, (pss_cons (ps_set (i := 3) sc_law_round.nd rfl (by first | exact Or.inl rfl | exact Or.inr rfl) pe_str)
  (pss_cons (ps_while PassesOwn.never (pt_cmpR op_lt (pe_callB call_len_str (by rfl) B.len (by decide +kernel) (pa_cons (pv 3) pa_nil)) (pv 2) (nomark _))
    (pss_one (ps_set (i := 3) sc_law_round.nd rfl (by first | exact Or.inl rfl | exact Or.inr rfl) (pe_op op_add_str (pv 3) (pe_ix ix_str (pv 0) (pe_op op_mod (pe_op op_add (pv 1) (pe_callB call_len_str (by rfl) B.len (by decide +kernel) (pa_cons (pv 3) pa_nil))) (pe_callB call_len_str (by rfl) B.len (by decide +kernel) (pa_cons (pv 0) pa_nil))) (fun _ _ => rfl))))))
  (pss_one (ps_ret (pv 3))))), ?_⟩
  have hlen := hl.2.1
  have h0 := hl.1
  refine ⟨fun m σ H' => ∃ i : Nat, m = n - i ∧ i ≤ n ∧ H' = H ∧ σ = [some (T l), some (.int (p : Int)), some (.int (n : Int)), some (T (rd l p i))], ⟨n, 0, rfl, by omega, rfl, ?_⟩, ?_⟩
  · rw [rd_zero]
    show [some (T l), some (V.int (p : Int)), some (V.int (n : Int)), some (V.str (Str.ofString ""))] = _
    rw [T_nil]
  rintro m σ H' ⟨i, rfl, hi, rfl, rfl⟩
  refine ⟨_, rfl, _, rfl, T_line (by rw [rd_len]; omega), _, rfl, _, _, rfl, rfl, _, rfl, ?_⟩
  refine ite2 (fun c1 => ?_) (fun c1 => ?_)
  · have c2 : ((((⟨(rd l p i).toArray⟩ : Str).length : Nat) : Int)) < (n : Int) := of_decide_eq_true c1
    rw [T_len, rd_len] at c2
    have ej : ((p : Int) + (((⟨(rd l p i).toArray⟩ : Str).length : Nat) : Int)) % (((⟨l.toArray⟩ : Str).length : Nat) : Int) = (((p + i) % l.length : Nat) : Int) := by
      rw [T_len, T_len, rd_len]
      rfl
    have e0 := getD_lt (l := l) (i := (p + i) % l.length) (Nat.mod_lt _ h0)
    refine ⟨fun σ' H'' => H'' = H' ∧ σ' = [some (T l), some (.int (p : Int)), some (.int (n : Int)), some (T (rd l p (i + 1)))], fun σ' H'' ⟨e1, e2⟩ => ⟨n - (i + 1), by omega, i + 1, rfl, by omega, e1, e2⟩, ?_⟩
    refine ⟨_, rfl, _, rfl, _, rfl, _, rfl, _, rfl, T_line (by rw [rd_len]; omega), _, _, rfl, rfl, _, rfl, _, rfl, T_line (by omega), _, _, rfl, rfl, (by show (0 : Int) < _; rw [T_len]; omega), _, _, _, rfl, rfl, T_line (by omega), (by rw [ej]; exact at_nat e0), _, _, rfl, rfl, ?_, rfl, ?_⟩
    · rw [T_len, rd_len]
      show i + 1 ≤ sizeLine
      exact Nat.le_of_lt (small1000 (by omega))
    · rw [rd_succ]
      show [some (T l), some (V.int (p : Int)), some (V.int (n : Int)), some (V.str ((⟨(rd l p i).toArray⟩ : Str) ++ (⟨[l.getD ((p + i) % l.length) 0].toArray⟩ : Str)))] = _
      rw [T_app]
  · have c2 : ¬ ((((⟨(rd l p i).toArray⟩ : Str).length : Nat) : Int)) < (n : Int) := of_decide_eq_false (Bool.eq_false_iff.mpr c1)
    rw [T_len, rd_len] at c2
    have e : i = n := by omega
    subst e
    exact ⟨_, rfl, q⟩
theorem PotAt.new {H : Hp} {a p : Addr} {o : HO} (h : PotAt H a) (np : H p = none) : PotAt (upd H p o) a := by
  obtain ⟨x, y, e, h⟩ := h
  refine ⟨x, y, ?_, h⟩
  rw [upd_ne (ne_of_none e np)]
  exact e
theorem Kept.new {H H' : Hp} {a p : Addr} {o : HO} (h : Kept a H H') (np : H' p = none) : Kept a H (upd H' p o) := h.trans (Same.kept (same_new np o))
theorem of_ab : Str.ofString "ab" = ⟨[97, 98].toArray⟩ := by decide +kernel
theorem of_abc : Str.ofString "abc" = ⟨[97, 98, 99].toArray⟩ := by decide +kernel
theorem of_zab : Str.ofString "zab" = ⟨[122, 97, 98].toArray⟩ := by decide +kernel
theorem of_b : Str.ofString "b" = ⟨#[98]⟩ := by decide +kernel
theorem letters_of {v : V} (h : v ∈ [V.str (Str.ofString "ab"), V.str (Str.ofString "abc"), V.str (Str.ofString "a"), V.str (Str.ofString "zab")]) : ∃ l : List Nat, v = T l ∧ 0 < l.length ∧ l.length ≤ 1000 ∧ ∀ c ∈ l, 97 ≤ c ∧ c ≤ 122 := by
  rw [of_ab, of_abc, of_a, of_zab] at h
  rcases List.mem_cons.mp h with h | h
  · exact ⟨_, h, by decide, by decide, by decide⟩
  rcases List.mem_cons.mp h with h | h
  · exact ⟨_, h, by decide, by decide, by decide⟩
  rcases List.mem_cons.mp h with h | h
  · exact ⟨[97], h, by decide, by decide, by decide⟩
  rcases List.mem_cons.mp h with h | h
  · exact ⟨_, h, by decide, by decide, by decide⟩
  · cases h
def sp_law_ring (_ : PySem.W.Frag) : Sp := fun vs H Q _ => ∃ a, ∃ m : Nat, vs = [.ref a, .int (m : Int)] ∧ PotAt H a ∧ 0 < m ∧ m ≤ 10 ∧ ∀ l H', Wd l → l.length ≤ 20 → Kept a H H' → PotAt H' a → Q (T l) H'
theorem ok_law_ring (D : Def K mg "_law_ring" s_law_ring ["_law_pot_here", "_law_most"]) (B : Bs mg) (Glb : Glo mg)
    (h_law_pick : Good P w K mg base "_law_pick" s_law_pick ["_law_pot_here", "_law_some"] 2 (sp_law_pick K))
    (h_law_draw : Good P w K mg base "_law_draw" s_law_draw ["_law_pot_here", "_law_size"] 1 (sp_law_draw K)) :
    Good P w K mg base "_law_ring" s_law_ring ["_law_pot_here", "_law_most"] 3 (sp_law_ring K) := by
  refine D.good fun f fd F => ?_
  obtain ⟨f_law_pick, d_law_pick, O_law_pick, m_law_pick, k_law_pick, b_law_pick, F_law_pick⟩ := h_law_pick
  obtain ⟨f_law_draw, d_law_draw, O_law_draw, m_law_draw, k_law_draw, b_law_draw, F_law_draw⟩ := h_law_draw
  refine F.ok sc_law_ring (fun vs H Q E h => ?_) (fun cdv A outer s H vs Q E hr h => ?_)
  · obtain ⟨a, m, rfl, hp, hm0, hm, q⟩ := h
    first | rfl | (rcases h with ⟨_, _, rfl, _⟩ | ⟨_, rfl, _⟩ <;> rfl)
  obtain ⟨a, m, rfl, hp, hm0, hm, q⟩ := h
  refine ⟨_, (pss_cons (ps_set (i := 2) sc_law_ring.nd rfl (by first | exact Or.inl rfl | exact Or.inr rfl) (pe_call O_law_pick hr rfl m_law_pick k_law_pick b_law_pick .nil pass0 (pa_cons (pv 0) (pa_cons (pe_lst (pa_cons pe_str (pa_cons pe_str (pa_cons pe_str (pa_cons pe_str pa_nil))))) pa_nil))))
  (pss_cons (ps_set (i := 3) sc_law_ring.nd rfl (by first | exact Or.inl rfl | exact Or.inr rfl) pe_str)
  (pss_cons (ps_for PassesOwn.never rfl (pi_range1 (by rfl) B.range (pa_cons (pe_op op_add pe_int (pe_call O_law_draw (hr.mono (by decide)) rfl m_law_draw k_law_draw b_law_draw .nil pass0 (pa_cons (pv 0) (pa_cons (pv 1) pa_nil)))) pa_nil)) (pg_name (i := 4) sc_law_ring.nd rfl (by first | exact Or.inl rfl | exact Or.inr rfl))
    (pss_one (ps_set (i := 3) sc_law_ring.nd rfl (by first | exact Or.inl rfl | exact Or.inr rfl) (pe_op op_add_str (pv 3) (pe_call O_law_pick hr rfl m_law_pick k_law_pick b_law_pick .nil pass0 (pa_cons (pv 0) (pa_cons (pv 2) pa_nil)))))))
  (pss_one (ps_ret (pe_ifExp (PW.pt (pw_and (pt_cmpR op_lt (pe_callB call_len_str (by rfl) B.len (by decide +kernel) (pa_cons (pv 3) pa_nil)) pe_int (nomark _)) (pw_and1 (pt_cmpR op_eq (pe_call O_law_draw (hr.mono (by decide)) rfl m_law_draw k_law_draw b_law_draw .nil pass0 (pa_cons (pv 0) (pa_cons pe_int pa_nil))) pe_int (nomark _))))) (pe_op op_mul_str (pv 3) (pe_op op_add pe_int (pe_call O_law_draw (hr.mono (by decide)) rfl m_law_draw k_law_draw b_law_draw .nil pass0 (pa_cons (pv 0) (pa_cons pe_int pa_nil))))) (pv 3))))))), ?_⟩
  refine ⟨_, rfl, (by show 4 ≤ sizeLine; decide), fun p np => ⟨a, .inl ⟨p, _, rfl, upd_same, ?_, by simp, by simp, hp.new np, fun v H1 hv hk1 hp1 => ?_⟩⟩⟩
  · obtain ⟨x, y, e, _⟩ := hp
    exact (ne_of_none e np).symm
  obtain ⟨ls, rfl, ls0, ls1, ls2⟩ := letters_of hv
  have hk1' : Kept a H H1 := (Same.kept (same_new np _)).trans hk1
  refine ⟨_, rfl, _, rfl, a, m, rfl, hp1, hm0, by omega, fun d H2 hd hk2 hp2 => ?_⟩
  refine ⟨_, _, rfl, rfl, _, rfl, (by omega), (by omega), ?_⟩
  rw [show ((1 : Int) + (d : Int)).toNat = d + 1 by omega]
  refine for_range (lo := 0) (n := d + 1) (fun i σ H' => ∃ (fd : List Nat) (v : Option V), σ = [some (.ref a), some (.int (m : Int)), some (T ls), some (T fd), v] ∧ fd.length = i ∧ (∀ c ∈ fd, 97 ≤ c ∧ c ≤ 122) ∧ Kept a H H' ∧ PotAt H' a)
    ⟨[], none, ?_, rfl, by simp, hk1'.trans hk2, hp2⟩ ?_ ?_
  · show [some (V.ref a), some (V.int (m : Int)), some (T ls), some (V.str (Str.ofString "")), none] = _
    rw [T_nil]
  · rintro i σ H3 hi ⟨fd, v, rfl, hl, hc, hk, hpp⟩
    refine ⟨_, rfl, _, rfl, _, rfl, a, .inr ⟨ls, rfl, ls0, ls1, hpp, fun c H4 hcl hk4 hp4 => ⟨_, _, rfl, rfl, ?_, ?_⟩⟩⟩
    · rw [T_len]
      show fd.length + 1 ≤ sizeLine
      exact Nat.le_of_lt (small1000 (by omega))
    · refine ⟨fd ++ [c], some (.int (0 + (i : Int))), ?_, by rw [List.length_append, hl]; rfl, ?_, hk.trans hk4, hp4⟩
      · show [some (V.ref a), some (V.int (m : Int)), some (T ls), some (V.str ((⟨fd.toArray⟩ : Str) ++ (⟨[c].toArray⟩ : Str))), some (.int (0 + (i : Int)))] = _
        rw [T_app]
      · intro c' hc'
        rcases List.mem_append.mp hc' with h | h
        · exact hc c' h
        · rw [List.mem_singleton.mp h]
          exact ls2 c hcl
  · rintro σ H3 ⟨fd, v, rfl, hl, hc, hk, hpp⟩
    have hwd : Wd fd := ⟨by omega, by omega, hc⟩
    refine ⟨_, rfl, _, rfl, T_line (by omega), _, _, rfl, rfl, _, rfl, ?_⟩
    refine ite2 (fun c1 => ?_) (fun c1 => ?_)
    · have c2 : ((((⟨fd.toArray⟩ : Str).length : Nat) : Int)) < 6 := of_decide_eq_true c1
      rw [T_len] at c2
      refine ⟨_, rfl, a, 3, rfl, hpp, by decide, by decide, fun d2 H4 hd2 hk4 hp4 => ⟨rfl, _, rfl, ?_⟩⟩
      refine ite2 (fun c3 => ?_) (fun c3 => ?_)
      · refine ⟨_, rfl, _, rfl, a, 3, rfl, hp4, by decide, by decide, fun d3 H5 hd3 hk5 hp5 => ⟨_, _, rfl, rfl, fd, 1 + d3, rfl, rfl, by omega, by omega, by omega, ?_⟩⟩
        have hlen : (List.replicate (1 + d3) fd).flatten.length = (1 + d3) * fd.length := by simp
        have hle : (1 + d3) * fd.length ≤ 3 * 5 := Nat.mul_le_mul (by omega) (by omega)
        have hge : 1 * 1 ≤ (1 + d3) * fd.length := Nat.mul_le_mul (by omega) (by omega)
        refine q _ H5 ⟨by omega, by omega, fun c hcm => ?_⟩ (by omega) ((hk.trans hk4).trans hk5) hp5
        obtain ⟨r, hr, hcr⟩ := List.mem_flatten.mp hcm
        rw [List.eq_of_mem_replicate hr] at hcr
        exact hc c hcr
      · exact ⟨_, rfl, q _ H4 hwd (by omega) (hk.trans hk4) hp4⟩
    · exact ⟨_, rfl, q _ H3 hwd (by omega) hk hpp⟩
end
end My
namespace My
open PySem L2 PyProof.Rows
section
variable {P : Program} {w : World} {K : PySem.W.Frag} {mg : Str → Option Value} {base : Heap}
def Lt (l : List Nat) : Prop := l.length ≤ 100 ∧ ∀ c ∈ l, 97 ≤ c ∧ c ≤ 122
theorem Lt.okT {l : List Nat} (h : Lt l) : OkT (tS l) := ⟨by rw [T_len]; have := h.1; omega, fun c hc => h.2 c (by simpa using hc)⟩
/-- the end of a is the beginning of b -/
def Fit (a b : List Nat) (k : Nat) : Prop := a.drop (a.length - k) = b.take k
instance (a b : List Nat) (k : Nat) : Decidable (Fit a b k) := by unfold Fit; exact inferInstance
def IsOv (a b : List Nat) (k : Nat) : Prop := (k = 0 ∨ (k < min a.length b.length ∧ Fit a b k)) ∧ ∀ j, k < j → j < min a.length b.length → ¬ Fit a b j
theorem ends_fit {a b : List Nat} {k : Nat} (ha : k ≤ a.length) (hb : k ≤ b.length) : Txt.endswith (tS a) (tS (b.take k)) = decide (Fit a b k) := by
  have e1 : (tS (b.take k)).length = k := by rw [T_len, List.length_take]; omega
  unfold Txt.endswith
  rw [e1, T_len, PySem.StrLaws.subAt_eq, e1, decide_eq_true (show 0 + k ≤ a.length by omega), Bool.true_and]
  show ((a.toArray.toList.drop (a.length - k)).take k == (b.take k).toArray.toList) = _
  rw [List.toList_toArray, List.toList_toArray, List.take_of_length_le (by rw [List.length_drop]; omega)]
  by_cases h : Fit a b k
  · rw [decide_eq_true h, show a.drop (a.length - k) = b.take k from h]
    simp
  · rw [decide_eq_false h]
    exact beq_eq_false_iff_ne.mpr h
theorem IsOv.unique {a b : List Nat} {j k : Nat} (h : IsOv a b j) (g : IsOv a b k) : j = k := by
  rcases Nat.lt_trichotomy j k with c | c | c
  · rcases g.1 with z | z
    · omega
    · exact absurd z.2 (h.2 k c z.1)
  · exact c
  · rcases h.1 with z | z
    · omega
    · exact absurd z.2 (g.2 j c z.1)
def spoverlap (_ : PySem.W.Frag) : Sp := fun vs H Q _ => ∃ a b, vs = [T a, T b] ∧ Lt a ∧ Lt b ∧ ∀ k : Nat, IsOv a b k → Q (.int (k : Int)) H
theorem okoverlap (D : Def K mg "overlap" soverlap ["text", "next_text"]) (B : Bs mg) (Glb : Glo mg)
    (hneed_text : Good P w K mg base "need_text" sneed_text ["text"] 3 (spneed_text K)) :
    Good P w K mg base "overlap" soverlap ["text", "next_text"] 4 (spoverlap K) := by
  refine D.good fun f fd F => ?_
  obtain ⟨fneed_text, dneed_text, Oneed_text, mneed_text, kneed_text, bneed_text, Fneed_text⟩ := hneed_text
  refine F.ok scoverlap (fun vs H Q E h => ?_) (fun cdv A outer s H vs Q E hr h => ?_)
  · obtain ⟨a, b, rfl, ha, hb, q⟩ := h
    first | rfl | (rcases h with ⟨_, _, rfl, _⟩ | ⟨_, rfl, _⟩ <;> rfl)
  obtain ⟨a, b, rfl, ha, hb, q⟩ := h
  refine ⟨_, (pss_cons (ps_expr (pe_call Oneed_text hr rfl mneed_text kneed_text bneed_text .nil pass0 (pa_cons (pv 0) pa_nil)))
  (pss_cons (ps_expr (pe_call Oneed_text hr rfl mneed_text kneed_text bneed_text .nil pass0 (pa_cons (pv 1) pa_nil)))
  (pss_cons (ps_for PassesOwn.never rfl (pi_range3 (by rfl) B.range (pa_cons (pe_op op_sub (pe_callB (call_min2 rfl) (by rfl) B.min (by decide +kernel) (pa_cons (pe_callB call_len_str (by rfl) B.len (by decide +kernel) (pa_cons (pv 0) pa_nil)) (pa_cons (pe_callB call_len_str (by rfl) B.len (by decide +kernel) (pa_cons (pv 1) pa_nil)) pa_nil))) pe_int) (pa_cons pe_int (pa_cons (pe_un un_neg pe_int) pa_nil)))) (pg_name (i := 2) scoverlap.nd rfl (by first | exact Or.inl rfl | exact Or.inr rfl))
    (pss_one (ps_if (pt_val (pe_bm PySem.F.plainAttrs_str PySem.F.slot_str_endswith PySem.F.type_str_endswith mt_endswith (pv 0) (pa_cons (pe_slice sl_str (pv 1) po_none (po_some (pv 2))) pa_nil)))
    (pss_one (ps_ret (pv 2))) pss_nil)))
  (pss_one (ps_ret pe_int))))), ?_⟩
  have la := ha.1
  have lb := hb.1
  have em : (if (((⟨b.toArray⟩ : Str).length : Nat) : Int) < (((⟨a.toArray⟩ : Str).length : Nat) : Int) then (((⟨b.toArray⟩ : Str).length : Nat) : Int) else (((⟨a.toArray⟩ : Str).length : Nat) : Int)) = ((min a.length b.length : Nat) : Int) := by
    rw [T_len, T_len]
    split <;> omega
  refine ⟨_, rfl, tS a, rfl, ha.okT, _, rfl, tS b, rfl, hb.okT, ?_⟩
  refine ⟨_, rfl, _, rfl, T_line (by omega), _, rfl, _, rfl, T_line (by omega), _, _, rfl, _, _, rfl, rfl, _, rfl, _, _, _, _, rfl, RgC.neg ?_ ?_ (by decide) (by decide), ?_⟩
  · rw [em]; omega
  · rw [em]; omega
  rw [em]
  generalize hmm : min a.length b.length = m
  refine for_rangeC (lo := (m : Int) - 1) (c := -1) (n := ((m : Int) - 1 - 0).toNat) (fun i σ H' => H' = H ∧ (∃ v, σ = [some (T a), some (T b), v]) ∧ ∀ j, m - 1 - i < j → j < m → ¬ Fit a b j) ⟨rfl, ⟨none, rfl⟩, fun j h1 h2 => by omega⟩ ?_ ?_
  · rintro i σ H1 hi ⟨rfl, ⟨v, rfl⟩, hno⟩
    have hk : (m : Int) - 1 + ((i : Nat) : Int) * (-1) = ((m - 1 - i : Nat) : Int) := by omega
    rw [hk]
    have hk1 : 1 ≤ m - 1 - i := by omega
    generalize ek : m - 1 - i = k at hno hk hk1
    refine ⟨_, rfl, rfl, _, rfl, _, rfl, _, rfl, _, rfl, T_line (by omega), _, _, rfl, rfl, _, rfl, ?_⟩
    rw [cut_to, ends_fit (by omega) (by omega)]
    by_cases c : Fit a b k
    · refine iteYes c ⟨_, rfl, q k ⟨.inr ⟨by omega, c⟩, fun j h1 h2 => hno j h1 (by omega)⟩⟩
    · refine iteNo c ⟨rfl, ⟨_, rfl⟩, fun j h1 h2 => ?_⟩
      by_cases e : j = k
      · rw [e]; exact c
      · exact hno j (by omega) h2
  · rintro σ H1 ⟨rfl, ⟨v, rfl⟩, hno⟩
    refine q 0 ⟨.inl rfl, fun j h1 h2 => hno j (by omega) (by omega)⟩
end
end My
namespace My
open PySem L2 PyProof.Rows
theorem ix_listK {X : Cx} {K : PySem.W.Frag} (h : X.K = K) : IxR X (rIxL K) := h ▸ ix_list
theorem ix_tupK {X : Cx} {K : PySem.W.Frag} (h : X.K = K) : IxR X (rIxT K) := h ▸ ix_tup
/-- a list or a tuple of texts -/
def SqS (H : Hp) (l : Addr) (L : List Str) : Prop := H l = some (.lst (L.map V.str)) ∨ H l = some (.tup (L.map V.str))
section
variable {P : Program} {w : World} {K : PySem.W.Frag} {mg : Str → Option Value} {base : Heap}
def spwords_of (_ : PySem.W.Frag) : Sp := fun vs H Q _ => ∃ l L, vs = [.ref l] ∧ SqS H l L ∧ L.length ≤ 80 ∧ (∀ x ∈ L, x.length ≤ 8) ∧ ∀ (H' : Hp) (p : Addr) (M : List Str), Same H H' → H p = none → H' p = some (.lst (M.map V.str)) → M.length ≤ 2 * L.length → Q (.ref p) H'
theorem okwords_of (D : Def K mg "words_of" swords_of ["pieces"]) (B : Bs mg) (Glb : Glo mg) :
    Good P w K mg base "words_of" swords_of ["pieces"] 1 (spwords_of K) := by
  refine D.good fun f fd F => ?_
  refine F.ok scwords_of (fun vs H Q E h => ?_) (fun cdv A outer s H vs Q E hr h => ?_)
  · obtain ⟨l, L, rfl, hl, hlen, hsm, q⟩ := h
    first | rfl | (rcases h with ⟨_, _, rfl, _⟩ | ⟨_, rfl, _⟩ <;> rfl)
  obtain ⟨l, L, rfl, hl, hlen, hsm, q⟩ := h
  refine ⟨_, (pss_one (ps_ret (pe_callB (cr_sortTx rfl hr.units) (by rfl) B.sorted (by decide +kernel) (pa_cons (pe_callTy (cr_setTx rfl) (by rfl) B.set (by decide +kernel) (pa_cons (pe_op op_cat (pe_lc (own := [("piece", 1)]) (g := gName 1) (by rfl) scwords_of.nd (pi_or (pi_list (pv 0)) (pi_tup (pv 0))) (blkOk_by (own := [("piece", 1)]) (N := ["pieces", "piece"]) (sc := defScope swords_of) (by decide +kernel)) (fun _ _ _ _ _ => (pg_name (i := 1) scwords_of.nd rfl (by first | exact Or.inl rfl | exact Or.inr rfl))) (fun _ _ _ _ _ => pts_nil) (fun _ _ _ _ _ => (pe_slice sl_str (pv 1) po_none (po_some (pe_un un_neg pe_int))))) (pe_lc (own := [("piece", 1)]) (g := gName 1) (by rfl) scwords_of.nd (pi_or (pi_list (pv 0)) (pi_tup (pv 0))) (blkOk_by (own := [("piece", 1)]) (N := ["pieces", "piece"]) (sc := defScope swords_of) (by decide +kernel)) (fun _ _ _ _ _ => (pg_name (i := 1) scwords_of.nd rfl (by first | exact Or.inl rfl | exact Or.inr rfl))) (fun _ _ _ _ _ => pts_nil) (fun _ _ _ _ _ => (pe_slice sl_str (pv 1) (po_some pe_int) po_none)))) pa_nil)) pa_nil)))), ?_⟩
  rcases hl with hh | hh
  · refine .inl ⟨_, rfl, l, rfl, ⟨_, SqL.of hh⟩, fun D1 nD1 => ?_⟩
    refine lc_list (K := K) (a := l) (xs := L.map V.str) (fun j H' => Same H H' ∧ H' D1 = some (.lst (((L.take j).map fun x => cutS x none (some (-1))).map V.str))) ⟨same_new nD1 _, upd_same⟩ (fun j H' _ ⟨hS', _⟩ => SqL.of (hS' _ _ hh)) ?_ ?_
    · rintro j y H1 hy ⟨hS1, hD1⟩
      obtain ⟨x, hx, rfl⟩ := str_at hy
      have hj := (List.getElem?_eq_some_iff.mp hx).1
      have h8 := hsm x (List.mem_of_getElem? hx)
      refine ⟨rfl, _, rfl, _, rfl, _, rfl, _, rfl, line400 (by omega), _, hD1, ?_, same_upd hS1 nD1, ?_⟩
      · rw [List.length_map, List.length_map, List.length_take]
        exact Nat.lt_of_le_of_lt (Nat.min_le_left _ _) (Nat.lt_of_lt_of_le (by omega : j < 1000) (by decide))
      · rw [upd_same, take_snoc hx, List.map_append, List.map_append]
        rfl
    rintro H1 ⟨hS1, hD1⟩
    rw [List.length_map, List.take_length] at hD1
    refine .inl ⟨_, rfl, l, rfl, ⟨_, SqL.of (hS1 _ _ hh)⟩, fun D2 nD2 => ?_⟩
    refine lc_list (K := K) (a := l) (xs := L.map V.str) (fun j H' => Same H1 H' ∧ H' D2 = some (.lst (((L.take j).map fun x => cutS x (some 1) none).map V.str))) ⟨same_new nD2 _, upd_same⟩ (fun j H' _ ⟨hS', _⟩ => SqL.of (hS' _ _ (hS1 _ _ hh))) ?_ ?_
    · rintro j y H2 hy ⟨hS2, hD2⟩
      obtain ⟨x, hx, rfl⟩ := str_at hy
      have hj := (List.getElem?_eq_some_iff.mp hx).1
      have h8 := hsm x (List.mem_of_getElem? hx)
      refine ⟨rfl, _, rfl, _, rfl, _, rfl, line400 (by omega), _, hD2, ?_, same_upd hS2 nD2, ?_⟩
      · rw [List.length_map, List.length_map, List.length_take]
        exact Nat.lt_of_le_of_lt (Nat.min_le_left _ _) (Nat.lt_of_lt_of_le (by omega : j < 1000) (by decide))
      · rw [upd_same, take_snoc hx, List.map_append, List.map_append]
        rfl
    rintro H2 ⟨hS2, hD2⟩
    rw [List.length_map, List.take_length] at hD2
    have hS02 := hS1.trans hS2
    refine ⟨D1, D2, _, _, rfl, rfl, hS2 _ _ hD1, hD2, ?_, fun p np => ?_⟩
    · rw [List.length_map, List.length_map, List.length_map, List.length_map]
      exact line400 (by omega)
    have hS3 : Same H (upd H2 p (.lst (((L.map fun x => cutS x none (some (-1))).map V.str) ++ ((L.map fun x => cutS x (some 1) none).map V.str)))) := fun b o e => same_new np _ _ _ (hS02 _ _ e)
    have hp3 : (upd H2 p (.lst (((L.map fun x => cutS x none (some (-1))).map V.str) ++ ((L.map fun x => cutS x (some 1) none).map V.str)))) p = some (.lst (((L.map fun x => cutS x none (some (-1))) ++ (L.map fun x => cutS x (some 1) none)).map V.str)) := by rw [upd_same, List.map_append]
    generalize upd H2 p (.lst (((L.map fun x => cutS x none (some (-1))).map V.str) ++ ((L.map fun x => cutS x (some 1) none).map V.str))) = H3 at hS3 hp3
    have hxl : ((L.map fun x => cutS x none (some (-1))) ++ (L.map fun x => cutS x (some 1) none)).length = 2 * L.length := by
      rw [List.length_append, List.length_map, List.length_map]
      omega
    refine ⟨p, _, rfl, .inl (SqL.of hp3), by rw [hxl]; omega, fun sp n _ hle nsp => ⟨sp, _, n, rfl, upd_same, by rw [hxl] at hle; omega, fun M mp _ _ hM nmp => ?_⟩⟩
    refine q _ mp M (fun b o e => same_new nmp _ _ _ (same_new nsp _ _ _ (hS3 _ _ e))) (hS3.free ((same_new (o := TxO _ _ _ _) nsp).free nmp)) upd_same (by rw [hM, ← hxl]; exact hle)
  · refine .inr ⟨_, rfl, l, rfl, ⟨_, SqT.of hh⟩, fun D1 nD1 => ?_⟩
    refine lc_tup (K := K) (a := l) (xs := L.map V.str) (fun j H' => Same H H' ∧ H' D1 = some (.lst (((L.take j).map fun x => cutS x none (some (-1))).map V.str))) ⟨same_new nD1 _, upd_same⟩ (fun j H' _ ⟨hS', _⟩ => SqT.of (hS' _ _ hh)) ?_ ?_
    · rintro j y H1 hy ⟨hS1, hD1⟩
      obtain ⟨x, hx, rfl⟩ := str_at hy
      have hj := (List.getElem?_eq_some_iff.mp hx).1
      have h8 := hsm x (List.mem_of_getElem? hx)
      refine ⟨rfl, _, rfl, _, rfl, _, rfl, _, rfl, line400 (by omega), _, hD1, ?_, same_upd hS1 nD1, ?_⟩
      · rw [List.length_map, List.length_map, List.length_take]
        exact Nat.lt_of_le_of_lt (Nat.min_le_left _ _) (Nat.lt_of_lt_of_le (by omega : j < 1000) (by decide))
      · rw [upd_same, take_snoc hx, List.map_append, List.map_append]
        rfl
    rintro H1 ⟨hS1, hD1⟩
    rw [List.length_map, List.take_length] at hD1
    refine .inr ⟨_, rfl, l, rfl, ⟨_, SqT.of (hS1 _ _ hh)⟩, fun D2 nD2 => ?_⟩
    refine lc_tup (K := K) (a := l) (xs := L.map V.str) (fun j H' => Same H1 H' ∧ H' D2 = some (.lst (((L.take j).map fun x => cutS x (some 1) none).map V.str))) ⟨same_new nD2 _, upd_same⟩ (fun j H' _ ⟨hS', _⟩ => SqT.of (hS' _ _ (hS1 _ _ hh))) ?_ ?_
    · rintro j y H2 hy ⟨hS2, hD2⟩
      obtain ⟨x, hx, rfl⟩ := str_at hy
      have hj := (List.getElem?_eq_some_iff.mp hx).1
      have h8 := hsm x (List.mem_of_getElem? hx)
      refine ⟨rfl, _, rfl, _, rfl, _, rfl, line400 (by omega), _, hD2, ?_, same_upd hS2 nD2, ?_⟩
      · rw [List.length_map, List.length_map, List.length_take]
        exact Nat.lt_of_le_of_lt (Nat.min_le_left _ _) (Nat.lt_of_lt_of_le (by omega : j < 1000) (by decide))
      · rw [upd_same, take_snoc hx, List.map_append, List.map_append]
        rfl
    rintro H2 ⟨hS2, hD2⟩
    rw [List.length_map, List.take_length] at hD2
    have hS02 := hS1.trans hS2
    refine ⟨D1, D2, _, _, rfl, rfl, hS2 _ _ hD1, hD2, ?_, fun p np => ?_⟩
    · rw [List.length_map, List.length_map, List.length_map, List.length_map]
      exact line400 (by omega)
    have hS3 : Same H (upd H2 p (.lst (((L.map fun x => cutS x none (some (-1))).map V.str) ++ ((L.map fun x => cutS x (some 1) none).map V.str)))) := fun b o e => same_new np _ _ _ (hS02 _ _ e)
    have hp3 : (upd H2 p (.lst (((L.map fun x => cutS x none (some (-1))).map V.str) ++ ((L.map fun x => cutS x (some 1) none).map V.str)))) p = some (.lst (((L.map fun x => cutS x none (some (-1))) ++ (L.map fun x => cutS x (some 1) none)).map V.str)) := by rw [upd_same, List.map_append]
    generalize upd H2 p (.lst (((L.map fun x => cutS x none (some (-1))).map V.str) ++ ((L.map fun x => cutS x (some 1) none).map V.str))) = H3 at hS3 hp3
    have hxl : ((L.map fun x => cutS x none (some (-1))) ++ (L.map fun x => cutS x (some 1) none)).length = 2 * L.length := by
      rw [List.length_append, List.length_map, List.length_map]
      omega
    refine ⟨p, _, rfl, .inl (SqL.of hp3), by rw [hxl]; omega, fun sp n _ hle nsp => ⟨sp, _, n, rfl, upd_same, by rw [hxl] at hle; omega, fun M mp _ _ hM nmp => ?_⟩⟩
    refine q _ mp M (fun b o e => same_new nmp _ _ _ (same_new nsp _ _ _ (hS3 _ _ e))) (hS3.free ((same_new (o := TxO _ _ _ _) nsp).free nmp)) upd_same (by rw [hM, ← hxl]; exact hle)
def spare_pieces (_ : PySem.W.Frag) : Sp := fun vs H Q _ => ∃ l L, vs = [.ref l] ∧ SqS H l L ∧ 1 ≤ L.length ∧ L.length ≤ 30 ∧ (∀ x ∈ L, OkT x) ∧ (∃ s, 2 ≤ s ∧ s ≤ 8 ∧ ∀ x ∈ L, x.length = s) ∧ L.Nodup ∧ ∀ H', Same H H' → Q (.bl true) H'
theorem okare_pieces (D : Def K mg "are_pieces" sare_pieces ["value"]) (B : Bs mg) (Glb : Glo mg)
    (his_listed : Good P w K mg base "is_listed" sis_listed ["value"] 1 (spis_listed K))
    (his_between : Good P w K mg base "is_between" sis_between ["value", "least", "most"] 2 (spis_between K))
    (his_text : Good P w K mg base "is_text" sis_text ["value"] 2 (spis_text K))
    (his_size : Good P w K mg base "is_size" sis_size ["value"] 3 (spis_size K))
    (hwords_of : Good P w K mg base "words_of" swords_of ["pieces"] 1 (spwords_of K)) :
    Good P w K mg base "are_pieces" sare_pieces ["value"] 4 (spare_pieces K) := by
  refine D.good fun f fd F => ?_
  obtain ⟨fis_listed, dis_listed, Ois_listed, mis_listed, kis_listed, bis_listed, Fis_listed⟩ := his_listed
  obtain ⟨fis_between, dis_between, Ois_between, mis_between, kis_between, bis_between, Fis_between⟩ := his_between
  obtain ⟨fis_text, dis_text, Ois_text, mis_text, kis_text, bis_text, Fis_text⟩ := his_text
  obtain ⟨fis_size, dis_size, Ois_size, mis_size, kis_size, bis_size, Fis_size⟩ := his_size
  obtain ⟨fwords_of, dwords_of, Owords_of, mwords_of, kwords_of, bwords_of, Fwords_of⟩ := hwords_of
  refine F.ok scare_pieces (fun vs H Q E h => ?_) (fun cdv A outer s H vs Q E hr h => ?_)
  · obtain ⟨l, L, rfl, hl, h1, hlen, hok, ⟨s, hs1, hs2, hsz⟩, hnd, q⟩ := h
    first | rfl | (rcases h with ⟨_, _, rfl, _⟩ | ⟨_, rfl, _⟩ <;> rfl)
  obtain ⟨l, L, rfl, hl, h1, hlen, hok, ⟨s, hs1, hs2, hsz⟩, hnd, q⟩ := h
  refine ⟨_, (pss_cons (ps_if (PW.pt (pw_or (pt_not (pt_val (pe_call Ois_listed (hr.mono (by decide)) rfl mis_listed kis_listed bis_listed .nil pass0 (pa_cons (pv 0) pa_nil)))) (pw_or1 (pt_not (pt_val (pe_call Ois_between (hr.mono (by decide)) rfl mis_between kis_between bis_between .nil pass0 (pa_cons (pe_callB call_len_seq (by rfl) B.len (by decide +kernel) (pa_cons (pv 0) pa_nil)) (pa_cons pe_int (pa_cons (pe_globI Glb.MOST_PIECES) pa_nil)))))))))
    (pss_one (ps_ret pe_bl)) pss_nil)
  (pss_cons (ps_for PassesOwn.never rfl (pi_or (pi_list (pv 0)) (pi_tup (pv 0))) (pg_name (i := 1) scare_pieces.nd rfl (by first | exact Or.inl rfl | exact Or.inr rfl))
    (pss_one (ps_if (PW.pt (pw_or (pt_not (pt_val (pe_call Ois_text (hr.mono (by decide)) rfl mis_text kis_text bis_text .nil pass0 (pa_cons (pv 1) pa_nil)))) (pw_or (pt_not (pt_val (pe_call Ois_size hr rfl mis_size kis_size bis_size .nil pass0 (pa_cons (pe_callB call_len_str (by rfl) B.len (by decide +kernel) (pa_cons (pv 1) pa_nil)) pa_nil)))) (pw_or1 (pt_cmpR op_ne (pe_callB call_len_str (by rfl) B.len (by decide +kernel) (pa_cons (pv 1) pa_nil)) (pe_callB call_len_str (by rfl) B.len (by decide +kernel) (pa_cons (pe_ix ix_seq (pv 0) pe_int (fun _ _ => rfl)) pa_nil)) (nomark _))))))
    (pss_one (ps_ret pe_bl)) pss_nil)))
  (pss_one (ps_ret (pe_and (pe_cmpR op_eq (pe_callB cr_lenTx (by rfl) B.len (by decide +kernel) (pa_cons (pe_callTy (cr_setTx rfl) (by rfl) B.set (by decide +kernel) (pa_cons (pv 0) pa_nil)) pa_nil)) (pe_callB call_len_seq (by rfl) B.len (by decide +kernel) (pa_cons (pv 0) pa_nil)) (nomark _)) (pe_one (pe_cmpR op_le (pe_callB call_len_seq (by rfl) B.len (by decide +kernel) (pa_cons (pe_call Owords_of (hr.mono (by decide)) rfl mwords_of kwords_of bwords_of .nil pass0 (pa_cons (pv 0) pa_nil)) pa_nil)) (pe_globI Glb.MOST_WORDS) (nomark _)))))))), ?_⟩
  obtain ⟨x0, hx0⟩ : ∃ x, L[0]? = some x := ⟨L[0]'(by omega), List.getElem?_eq_getElem _⟩
  have hs0 := hsz x0 (List.mem_of_getElem? hx0)
  refine ⟨_, rfl, l, rfl, hl.imp (fun h => ⟨_, h⟩) (fun h => ⟨_, h⟩), fun H1 hS1 => ⟨_, rfl, iteF ?_⟩⟩
  have hl1 : SqS H1 l L := hl.imp (hS1 _ _) (hS1 _ _)
  refine ⟨_, rfl, l, _, rfl, hl1.imp (fun h => SqL.of h) (fun h => SqT.of h), _, 1, 80, rfl, by rw [List.length_map]; omega, by rw [List.length_map]; omega, _, rfl, iteF ?_⟩
  suffices fin : ∀ v : Option V, _ by
    rcases id hl1 with hh | hh
    · refine .inl ⟨_, rfl, l, rfl, ⟨_, SqL.of hh⟩, ?_⟩
      refine for_list (K := K) (a := l) (xs := L.map V.str) (fun i σ H' => H' = H1 ∧ ∃ v, σ = [some (.ref l), v]) ⟨rfl, none, rfl⟩ (fun i σ H' _ ⟨e, _⟩ => by rw [e]; exact SqL.of hh) ?_ ?_
      · rintro i y σ H2 hy ⟨rfl, v, rfl⟩
        obtain ⟨x, hx, rfl⟩ := str_at hy
        have hm := List.mem_of_getElem? hx
        have hxs := hsz x hm
        refine ⟨_, rfl, x, rfl, hok x hm, _, rfl, iteF ⟨_, rfl, _, rfl, line400 (by omega), x.length, rfl, by omega, by omega, _, rfl, iteF ?_⟩⟩
        refine ⟨_, rfl, _, rfl, line400 (by omega), _, rfl, .inl ⟨_, _, _, .str x0, rfl, rfl, SqL.of hh, atI_nat (j := 0) (by rw [List.getElem?_map, hx0]; rfl), x0, rfl, line400 (by omega), rfl, _, rfl, ?_⟩⟩
        exact iteNot' (by rw [hxs, hs0]) ⟨rfl, _, rfl⟩
      · rintro σ H2 ⟨hE, v, rfl⟩
        have hE := hE.symm
        subst hE
        exact fin v
    · refine .inr ⟨_, rfl, l, rfl, ⟨_, SqT.of hh⟩, ?_⟩
      refine for_tup (K := K) (a := l) (xs := L.map V.str) (fun i σ H' => H' = H1 ∧ ∃ v, σ = [some (.ref l), v]) ⟨rfl, none, rfl⟩ (fun i σ H' _ ⟨e, _⟩ => by rw [e]; exact SqT.of hh) ?_ ?_
      · rintro i y σ H2 hy ⟨rfl, v, rfl⟩
        obtain ⟨x, hx, rfl⟩ := str_at hy
        have hm := List.mem_of_getElem? hx
        have hxs := hsz x hm
        refine ⟨_, rfl, x, rfl, hok x hm, _, rfl, iteF ⟨_, rfl, _, rfl, line400 (by omega), x.length, rfl, by omega, by omega, _, rfl, iteF ?_⟩⟩
        refine ⟨_, rfl, _, rfl, line400 (by omega), _, rfl, .inr (.inl ⟨_, _, _, .str x0, rfl, rfl, SqT.of hh, atI_nat (j := 0) (by rw [List.getElem?_map, hx0]; rfl), x0, rfl, line400 (by omega), rfl, _, rfl, ?_⟩)⟩
        exact iteNot' (by rw [hxs, hs0]) ⟨rfl, _, rfl⟩
      · rintro σ H2 ⟨hE, v, rfl⟩
        have hE := hE.symm
        subst hE
        exact fin v
  intro v
  have hS2 := hS1
  have hl2 := hl1
  refine ⟨_, rfl, l, L, rfl, hl2.imp (fun h => SqL.of h) (fun h => SqT.of h), by omega, fun sp n hn hle nsp => ⟨sp, _, n, rfl, upd_same, by omega, ?_⟩⟩
  have hn2 := hn L hnd (fun k => Iff.rfl)
  have hS3 := same_new nsp (TxO w sp (hasT L) n)
  have hl3 : SqS (upd H1 sp (TxO w sp (hasT L) n)) l L := hl2.imp (hS3 _ _) (hS3 _ _)
  refine ⟨_, rfl, l, _, rfl, hl3.imp (fun h => SqL.of h) (fun h => SqT.of h), rfl, _, rfl, iteYes (by rw [List.length_map, hn2]) ?_⟩
  refine ⟨_, rfl, l, L, rfl, hl3, by omega, fun x hx => by have := hsz x hx; omega, fun H4 p M hS4 np hp hM => ⟨p, _, rfl, .inl (SqL.of hp), _, _, rfl, rfl, ?_⟩⟩
  exact bl_true (by rw [List.length_map]; omega) (q _ fun b o e => hS4 _ _ (hS3 _ _ (hS2 _ _ e)))
end
end My
namespace My
open PySem L2 PyProof.Rows
theorem dp_strs {K : PySem.W.Frag} {H : Hp} : ∀ L : List Str, DpAll K H (L.map V.str) (L.map PyData.str)
  | [] => .nil
  | x :: r => .cons (.str x) (dp_strs r)
theorem dp_ls {K : PySem.W.Frag} {H : Hp} {p : Addr} {L : List Str} (h : H p = some (.lst (L.map V.str))) : Dp K H (.ref p) (.list (L.map PyData.str)) := .lst (SqL.of h) (dp_strs L)
theorem okT_str {x : Str} (h : OkT x) : PyData.strOk x = true := by
  unfold PyData.strOk
  rw [Array.all_eq_true']
  intro c hc
  have := h.let_ c (by simpa using hc)
  simp
  omega
theorem layAll_st : ∀ {L : List Str}, (∀ e ∈ L, OkT e) → PyData.canLayAll0 (L.map PyData.str) = true
  | [], _ => rfl
  | e :: r, h => by
    show (PyData.canLay0 (.str e) && PyData.canLayAll0 (r.map PyData.str)) = true
    rw [layAll_st fun f hf => h f (List.mem_cons_of_mem _ hf)]
    have hx := okT_str (h e List.mem_cons_self)
    simp only [PyData.canLay0, Bool.and_true]
    exact hx
theorem depthAll_st : ∀ L : List Str, PyData.depthAll (L.map PyData.str) = 0
  | [] => rfl
  | e :: r => by
    show max (PyData.depth (.str e)) (PyData.depthAll (r.map PyData.str)) = 0
    rw [depthAll_st r]
    rfl
theorem lay_st {L : List Str} (h : ∀ e ∈ L, OkT e) : PyData.canLay0 (.list (L.map PyData.str)) = true := by
  unfold PyData.canLay0
  exact layAll_st h
theorem shaped_st {L : List Str} (h : ∀ e ∈ L, OkT e) : SeqAt.shaped (.list (L.map PyData.str)) = true := by
  unfold SeqAt.shaped
  have h2 : PyData.depth (.list (L.map PyData.str)) = 1 := by
    unfold PyData.depth
    rw [depthAll_st]
  rw [lay_st h, h2]
  rfl
theorem eqvAll_s : ∀ L M : List Str, PyData.eqvAll (L.map PyData.str) (M.map PyData.str) = decide (L = M)
  | [], [] => rfl
  | [], _ :: _ => rfl
  | _ :: _, [] => rfl
  | a :: L, b :: M => by
    show ((a == b) && PyData.eqvAll (L.map PyData.str) (M.map PyData.str)) = _
    rw [eqvAll_s L M]
    by_cases h : a = b
    · subst h
      by_cases k : L = M
      · subst k; simp
      · simp [k]
    · have h2 : (a == b) = false := beq_eq_false_iff_ne.mpr h
      rw [h2, Bool.false_and]
      exact (decide_eq_false (fun z => h (List.cons.inj z).1)).symm
theorem eqv_s (L M : List Str) : PyData.eqv (.list (L.map PyData.str)) (.list (M.map PyData.str)) = decide (L = M) := eqvAll_s L M
theorem sorted_same {M L : List Str} (hM : M.Pairwise sLt) (hL : L.Nodup) : M = L.mergeSort leS ↔ ∀ k, k ∈ M ↔ k ∈ L := by
  constructor
  · rintro rfl k
    exact (List.mergeSort_perm _ _).mem_iff
  · intro h
    exact strict_ext (r := sLt) (fun a => sLt_irr a) (fun _ _ _ => sLt_trans) hM (texts_of hL) fun k => (h k).trans (List.mergeSort_perm _ _).mem_iff.symm
theorem rps_opened {l : List Nat} {s : Nat} (h0 : 0 < l.length) (hs : 1 ≤ s) : pcs (tS (rd l 0 (l.length + s - 1))) s = rps l s := by
  rw [pcs_opened h0 hs]
  unfold rps
  exact List.map_congr_left fun k _ => by rw [Nat.zero_add]
theorem rps_okT {l : List Nat} {s : Nat} (h : Wd l) (h0 : 0 < s) (h1 : s ≤ 8) : ∀ x ∈ rps l s, OkT x ∧ x.length = s := fun x hx => by
  obtain ⟨k, _, rfl⟩ := List.mem_map.mp hx
  exact ⟨(rd_wd h k s h0 (by omega)).okT, by rw [T_len, rd_len]⟩
theorem rps_len (l : List Nat) (s : Nat) : (rps l s).length = l.length := by
  unfold rps
  rw [List.length_map, List.length_range]
section
variable {P : Program} {w : World} {K : PySem.W.Frag} {mg : Str → Option Value} {base : Heap}
/-- pieces of one size, each once -/
def OkP (L : List Str) (s : Nat) : Prop := 1 ≤ L.length ∧ L.length ≤ 30 ∧ (∀ x ∈ L, OkT x ∧ x.length = s) ∧ 2 ≤ s ∧ s ≤ 8 ∧ L.Nodup
def spneed_pieces (_ : PySem.W.Frag) : Sp := fun vs H Q _ => ∃ l L s, vs = [.ref l] ∧ SqS H l L ∧ OkP L s ∧ ∀ H', Same H H' → Q .non H'
theorem okneed_pieces (D : Def K mg "need_pieces" sneed_pieces ["pieces"]) (B : Bs mg) (Glb : Glo mg)
    (hare_pieces : Good P w K mg base "are_pieces" sare_pieces ["value"] 4 (spare_pieces K)) :
    Good P w K mg base "need_pieces" sneed_pieces ["pieces"] 5 (spneed_pieces K) := by
  refine D.good fun f fd F => ?_
  obtain ⟨fare_pieces, dare_pieces, Oare_pieces, mare_pieces, kare_pieces, bare_pieces, Fare_pieces⟩ := hare_pieces
  refine F.ok scneed_pieces (fun vs H Q E h => ?_) (fun cdv A outer s H vs Q E hr h => ?_)
  · obtain ⟨l, L, s, rfl, hl, ⟨h1, h2, h3, h4, h5, h6⟩, q⟩ := h
    first | rfl | (rcases h with ⟨_, _, rfl, _⟩ | ⟨_, rfl, _⟩ <;> rfl)
  obtain ⟨l, L, s, rfl, hl, ⟨h1, h2, h3, h4, h5, h6⟩, q⟩ := h
  refine ⟨_, (pss_one (ps_if (pt_not (pt_val (pe_call Oare_pieces hr rfl mare_pieces kare_pieces bare_pieces .nil pass0 (pa_cons (pv 0) pa_nil))))
    (pss_one ps_never) pss_nil)), ?_⟩
  exact ⟨_, rfl, l, L, rfl, hl, h1, h2, fun x hx => (h3 x hx).1, ⟨s, h4, h5, fun x hx => (h3 x hx).2⟩, h6, fun H1 hS => ⟨_, rfl, iteF (q H1 hS)⟩⟩
def sphas_just (_ : PySem.W.Frag) : Sp := fun vs H Q _ => ∃ r l L s, vs = [T r, .ref l] ∧ Wd r ∧ SqS H l L ∧ OkP L s ∧ ∀ (b : Bool) H', (b = true ↔ ∀ k, k ∈ rps r s ↔ k ∈ L) → Same H H' → Q (.bl b) H'
theorem okhas_just (D : Def K mg "has_just" shas_just ["ring", "pieces"]) (B : Bs mg) (Glb : Glo mg)
    (hneed_ring : Good P w K mg base "need_ring" sneed_ring ["ring"] 4 (spneed_ring K))
    (hneed_pieces : Good P w K mg base "need_pieces" sneed_pieces ["pieces"] 5 (spneed_pieces K))
    (hpieces_along : Good P w K mg base "pieces_along" spieces_along ["text", "size"] 1 (sppieces_along K))
    (hopened : Good P w K mg base "opened" sopened ["ring", "size", "place"] 2 (spopened K)) :
    Good P w K mg base "has_just" shas_just ["ring", "pieces"] 6 (sphas_just K) := by
  refine D.good fun f fd F => ?_
  obtain ⟨fneed_ring, dneed_ring, Oneed_ring, mneed_ring, kneed_ring, bneed_ring, Fneed_ring⟩ := hneed_ring
  obtain ⟨fneed_pieces, dneed_pieces, Oneed_pieces, mneed_pieces, kneed_pieces, bneed_pieces, Fneed_pieces⟩ := hneed_pieces
  obtain ⟨fpieces_along, dpieces_along, Opieces_along, mpieces_along, kpieces_along, bpieces_along, Fpieces_along⟩ := hpieces_along
  obtain ⟨fopened, dopened, Oopened, mopened, kopened, bopened, Fopened⟩ := hopened
  refine F.ok schas_just (fun vs H Q E h => ?_) (fun cdv A outer s H vs Q E hr h => ?_)
  · obtain ⟨r, l, L, s, rfl, hwr, hl, hP, q⟩ := h
    first | rfl | (rcases h with ⟨_, _, rfl, _⟩ | ⟨_, rfl, _⟩ <;> rfl)
  obtain ⟨r, l, L, s, rfl, hwr, hl, hP, q⟩ := h
  refine ⟨_, (pss_cons (ps_expr (pe_call Oneed_ring (hr.mono (by decide)) rfl mneed_ring kneed_ring bneed_ring .nil pass0 (pa_cons (pv 0) pa_nil)))
  (pss_cons (ps_expr (pe_call Oneed_pieces hr rfl mneed_pieces kneed_pieces bneed_pieces .nil pass0 (pa_cons (pv 1) pa_nil)))
  (pss_cons (ps_set (i := 2) schas_just.nd rfl (by first | exact Or.inl rfl | exact Or.inr rfl) (pe_callB call_len_str (by rfl) B.len (by decide +kernel) (pa_cons (pe_ix ix_seq (pv 1) pe_int (fun _ _ => rfl)) pa_nil)))
  (pss_one (ps_ret (pe_cmpR (op_eqD hr.units) (pe_callB (cr_sortTx rfl hr.units) (by rfl) B.sorted (by decide +kernel) (pa_cons (pe_callTy (cr_setTx rfl) (by rfl) B.set (by decide +kernel) (pa_cons (pe_call Opieces_along (hr.mono (by decide)) rfl mpieces_along kpieces_along bpieces_along .nil pass0 (pa_cons (pe_call Oopened (hr.mono (by decide)) rfl mopened kopened bopened .nil pass0 (pa_cons (pv 0) (pa_cons (pv 2) (pa_cons pe_int pa_nil)))) (pa_cons (pv 2) pa_nil))) pa_nil)) pa_nil)) (pe_callB (cr_sortSq hr.units) (by rfl) B.sorted (by decide +kernel) (pa_cons (pv 1) pa_nil)) (nomark _))))))), ?_⟩
  have hlen := hwr.2.1
  obtain ⟨p1, p2, p3, p4, p5, p6⟩ := id hP
  obtain ⟨x0, hx0⟩ : ∃ x, L[0]? = some x := ⟨L[0]'(by omega), List.getElem?_eq_getElem _⟩
  have hs0 := (p3 x0 (List.mem_of_getElem? hx0)).2
  refine ⟨_, rfl, r, rfl, hwr, _, rfl, l, L, s, rfl, hl, hP, fun H1 hS1 => ?_⟩
  have hl1 : SqS H1 l L := hl.imp (hS1 _ _) (hS1 _ _)
  have hall := rps_okT hwr (by omega : 0 < s) p5
  suffices fin : _ by
    rcases id hl1 with hh | hh
    · exact ⟨_, rfl, .inl ⟨_, _, _, .str x0, rfl, rfl, SqL.of hh, atI_nat (j := 0) (by rw [List.getElem?_map, hx0]; rfl), x0, rfl, line400 (by omega), fin⟩⟩
    · exact ⟨_, rfl, .inr (.inl ⟨_, _, _, .str x0, rfl, rfl, SqT.of hh, atI_nat (j := 0) (by rw [List.getElem?_map, hx0]; rfl), x0, rfl, line400 (by omega), fin⟩)⟩
  rw [hs0]
  refine ⟨_, rfl, _, rfl, r, s, 0, rfl, hwr, by omega, p5, fun H2 hS2 => ?_⟩
  refine ⟨_, rfl, tS (rd r 0 (r.length + s - 1)), s, rfl, rd_line _ _ (by omega), by omega, fun H3 m hS3 nm hm => ?_⟩
  rw [rps_opened hwr.1 (by omega)] at hm
  have hS13 := hS2.trans hS3
  refine ⟨m, _, rfl, .inl (SqL.of hm), by rw [rps_len]; omega, fun sp n _ hle nsp => ⟨sp, _, n, rfl, upd_same, by rw [rps_len] at hle; omega, fun M mp hM hmem _ nmp => ?_⟩⟩
  have hS5 : ∀ o, Same H1 (upd (upd H3 sp o) mp (.lst (M.map V.str))) := fun o b u e => by
    have e3 := hS13 _ _ e
    rw [upd_ne (fun z => by rw [z] at e3; rw [upd_ne (fun y => by rw [y, nsp] at e3; cases e3), e3] at nmp; cases nmp), upd_ne (ne_of_none e3 nsp)]
    exact e3
  refine ⟨_, rfl, l, L, rfl, hl1.imp (fun h => SqL.of (hS5 _ _ _ h)) (fun h => SqT.of (hS5 _ _ _ h)), by omega, fun p2 np2 => ?_⟩
  have hmem2 : ∀ k, k ∈ M ↔ k ∈ rps r s := fun k => by
    rw [hmem]
    unfold hasT
    exact decide_eq_true_iff
  have okM : ∀ e ∈ M, OkT e := fun e he => (hall e ((hmem2 e).mp he)).1
  have okL : ∀ e ∈ L.mergeSort leS, OkT e := fun e he => (p3 e ((List.mergeSort_perm _ _).mem_iff.mp he)).1
  refine ⟨_, _, dp_ls (same_new np2 _ _ _ upd_same), dp_ls upd_same, shaped_st okM, shaped_st okL, q _ _ ?_ (fun b u e => same_new np2 _ _ _ (hS5 _ _ _ (hS1 _ _ e)))⟩
  rw [eqv_s, decide_eq_true_iff, sorted_same hM p6]
  exact ⟨fun h k => (hmem2 k).symm.trans (h k), fun h k => (hmem2 k).trans (h k)⟩
end
end My
namespace My
open PySem L2 PyProof.Rows
theorem told_mem {L : List (Str × Int)} {e : Str × Int} : e ∈ told L ↔ e ∈ L := (List.mergeSort_perm L _).mem_iff
/-- the dict's texts in sequence, each with its number -/
def inSeq (D : List (Str × Int)) : List (Str × Int) := ((D.map Prod.fst).mergeSort leS).map fun x => (x, getT D x)
theorem getT_mem {D : List (Str × Int)} (hn : (D.map Prod.fst).Nodup) {e : Str × Int} (h : e ∈ D) : getT D e.1 = e.2 := by
  induction D with
  | nil => cases h
  | cons f r ih =>
    have hn' := List.nodup_cons.mp (by simpa using hn : (f.1 :: r.map Prod.fst).Nodup)
    rcases List.mem_cons.mp h with z | z
    · subst z
      simp [getT]
    · have hne : ¬ f.1 = e.1 := fun q => hn'.1 (by rw [q]; exact List.mem_map.mpr ⟨e, z, rfl⟩)
      have s2 : getT (f :: r) e.1 = getT r e.1 := by simp [getT, List.find?_cons, hne]
      rw [s2]
      exact ih hn'.2 z
theorem inSeq_told {D : List (Str × Int)} (hn : (D.map Prod.fst).Nodup) : Told (inSeq D) := by
  unfold Told inSeq
  rw [List.pairwise_map]
  exact texts_of hn
theorem mem_inSeq {D : List (Str × Int)} (hn : (D.map Prod.fst).Nodup) (e : Str × Int) : e ∈ inSeq D ↔ e ∈ D := by
  unfold inSeq
  rw [List.mem_map]
  constructor
  · rintro ⟨x, hx, rfl⟩
    obtain ⟨f, hf, rfl⟩ := List.mem_map.mp ((List.mergeSort_perm _ leS).mem_iff.mp hx)
    rw [getT_mem hn hf]
    exact hf
  · intro h
    exact ⟨e.1, (List.mergeSort_perm _ leS).mem_iff.mpr (List.mem_map.mpr ⟨e, h, rfl⟩), by rw [getT_mem hn h]⟩
theorem told_inSeq {D : List (Str × Int)} (hn : (D.map Prod.fst).Nodup) : told D = inSeq D :=
  (told_of hn).unique (inSeq_told hn) fun e => told_mem.trans (mem_inSeq hn e).symm
/-- lots of the same numbers are told alike -/
theorem told_same {D E : List (Str × Int)} (hn : (D.map Prod.fst).Nodup) (kn : (E.map Prod.fst).Nodup) (h : ∀ e, e ∈ D ↔ e ∈ E) : told D = told E :=
  (told_of hn).unique (told_of kn) fun e => told_mem.trans ((h e).trans told_mem.symm)
theorem mem_get {D : List (Str × Int)} (hn : (D.map Prod.fst).Nodup) (e : Str × Int) : e ∈ D ↔ e.1 ∈ D.map Prod.fst ∧ getT D e.1 = e.2 := by
  constructor
  · intro h
    exact ⟨List.mem_map.mpr ⟨e, h, rfl⟩, getT_mem hn h⟩
  · rintro ⟨h1, h2⟩
    obtain ⟨f, hf, e1⟩ := List.mem_map.mp h1
    have e2 := getT_mem hn hf
    rw [e1, h2] at e2
    have : f = e := Prod.ext e1 e2.symm
    rw [← this]
    exact hf
/-- how often each text stands there -/
def cntT (L : List Str) (w : Str) : Nat := (L.filter fun x => decide (x = w)).length
theorem sumT_get (w : Str) : ∀ (L : List Str) (D : List (Str × Int)), getT (sumT D (L.map fun x => (x, 1))) w = getT D w + (cntT L w : Int)
  | [], D => by
    show getT D w = getT D w + ((([] : List Str).length : Nat) : Int)
    simp
  | x :: r, D => by
    have ih := sumT_get w r (addT D x 1)
    show getT (sumT (addT D x 1) (r.map fun x => (x, 1))) w = _
    rw [ih, addT_get]
    unfold cntT
    rw [List.filter_cons]
    by_cases c : w = x
    · subst c
      rw [if_pos rfl, if_pos (decide_eq_true rfl), List.length_cons]
      omega
    · rw [if_neg c, if_neg (fun z => c (of_decide_eq_true z).symm)]
theorem sumT_mem1 (w : Str) : ∀ (L : List Str) (D : List (Str × Int)), w ∈ (sumT D (L.map fun x => (x, 1))).map Prod.fst ↔ w ∈ D.map Prod.fst ∨ w ∈ L
  | [], D => by
    show w ∈ D.map Prod.fst ↔ _
    simp
  | x :: r, D => by
    show w ∈ (sumT (addT D x 1) (r.map fun x => (x, 1))).map Prod.fst ↔ _
    rw [sumT_mem1 w r, addT_mem, List.mem_cons, or_assoc]
/-- the texts of a list, rising, each with its number -/
theorem told_count {L M : List Str} (hM : M.Pairwise sLt) (hm : ∀ k, k ∈ M ↔ k ∈ L) : M.map (fun w => (w, (cntT L w : Int))) = told (sumT [] (L.map fun x => (x, 1))) := by
  have hn : ((sumT [] (L.map fun x => (x, 1))).map Prod.fst).Nodup := sumT_nodup _ (by simp)
  refine Told.unique ?_ (told_of hn) fun e => ?_
  · unfold Told
    rw [List.pairwise_map]
    exact hM
  · rw [told_mem, mem_get hn, sumT_mem1, sumT_get, List.mem_map]
    have g0 : getT [] e.1 = 0 := rfl
    rw [g0]
    constructor
    · rintro ⟨w, hw, rfl⟩
      exact ⟨.inr ((hm w).mp hw), by simp⟩
    · rintro ⟨h1, h2⟩
      have h1 : e.1 ∈ L := h1.elim (fun z => by simp at z) id
      exact ⟨e.1, (hm _).mpr h1, Prod.ext rfl (by rw [← h2]; simp)⟩
/-- keys put one by one -/
def onesT : List (Str × Int) → List Str → List (Str × Int)
  | D, [] => D
  | D, x :: r => onesT (addT D x (1 - getT D x)) r
theorem onesT_nodup : ∀ (L : List Str) {D : List (Str × Int)}, (D.map Prod.fst).Nodup → ((onesT D L).map Prod.fst).Nodup
  | [], _, h => h
  | _ :: r, _, h => onesT_nodup r (addT_nodup h)
theorem onesT_mem (w : Str) : ∀ (L : List Str) (D : List (Str × Int)), w ∈ (onesT D L).map Prod.fst ↔ w ∈ D.map Prod.fst ∨ w ∈ L
  | [], D => by
    show w ∈ D.map Prod.fst ↔ _
    simp
  | x :: r, D => by
    show w ∈ (onesT (addT D x (1 - getT D x)) r).map Prod.fst ↔ _
    rw [onesT_mem w r, addT_mem, List.mem_cons, or_assoc]
theorem onesT_len : ∀ (L : List Str) (D : List (Str × Int)), (onesT D L).length ≤ D.length + L.length
  | [], D => Nat.le_refl _
  | x :: r, D => by
    have h1 := onesT_len r (addT D x (1 - getT D x))
    have h2 := addT_len x (1 - getT D x) D
    show (onesT (addT D x (1 - getT D x)) r).length ≤ D.length + (r.length + 1)
    omega
theorem ones_merge : ∀ (L : List Str) {D : List (Str × Int)}, (D.map Prod.fst).Nodup → mergeK (dT D) (L.map fun x => ((Sum.inr x : Key), V.int 1)) = dT (onesT D L)
  | [], _, _ => rfl
  | x :: r, D, h => by
    show mergeK (putK (dT D) (Sum.inr x : Key) (V.int 1)) (r.map fun x => ((Sum.inr x : Key), V.int 1)) = _
    have e := dT_put (x := x) (n := 1 - getT D x) h
    rw [show getT D x + (1 - getT D x) = 1 by omega] at e
    rw [e, ones_merge r (addT_nodup h)]
    rfl
theorem rising_pw : ∀ (ss : List Str) (p : Str), risingS p ss = true → (p :: ss).Pairwise fun a b => ¬ sLt b a
  | [], p, _ => by simp
  | x :: r, p, h => by
    have hx : ¬ sLt x p ∧ risingS x r = true := by
      unfold risingS at h
      rw [ltCps_eq] at h
      obtain ⟨h1, h2⟩ := Bool.and_eq_true_iff.mp h
      refine ⟨fun z => ?_, h2⟩
      rw [decide_eq_true (show x.cps.toList < p.cps.toList from z)] at h1
      cases h1
    have ih := rising_pw r x hx.2
    refine List.pairwise_cons.mpr ⟨fun y hy => ?_, ih⟩
    rcases List.mem_cons.mp hy with z | z
    · rw [z]; exact hx.1
    · have h2 := (List.pairwise_cons.mp ih).1 y z
      intro h3
      rcases sLt_total x p with q | q | q
      · exact hx.1 q
      · rw [q] at h2; exact h2 h3
      · exact h2 (sLt_trans h3 q)
theorem sorted_pw {ys : List Str} (h : sortedS ys = true) (hn : ys.Nodup) : ys.Pairwise sLt := by
  cases ys with
  | nil => exact .nil
  | cons x r =>
    refine ((rising_pw r x h).and hn).imp fun {a b} z => ?_
    rcases sLt_total a b with q | q | q
    · exact q
    · exact absurd q z.2
    · exact absurd q z.1
theorem paired_end {α β : Type} {F : α → β → Prop} {a : α} {b : β} : ∀ {l1 : List α} {l2 : List β}, Paired F l1 l2 → F a b → Paired F (l1 ++ [a]) (l2 ++ [b])
  | _, _, .nil, k => .cons k .nil
  | _, _, .cons r t, k => .cons r (paired_end t k)
theorem RdAt.push {H : Hp} {l tp : Addr} {L : List (Str × Int)} {x : Str} {n : Int} (h : RdAt H l L) (nt : H tp = none) :
    ∃ xs, (upd H tp (.tup [.str x, .int n])) l = some (.lst xs) ∧ xs.length = L.length ∧ RdAt (upd (upd H tp (.tup [.str x, .int n])) l (.lst (xs ++ [.ref tp]))) l (L ++ [(x, n)]) := by
  obtain ⟨ts, h1, h2⟩ := h
  have nl : l ≠ tp := ne_of_none h1 nt
  refine ⟨ts.map V.ref, by rw [upd_ne nl]; exact h1, by rw [List.length_map]; exact paired_len h2, ts ++ [tp], by rw [upd_same, List.map_append]; rfl, paired_end (paired_mono (fun q e hq => ?_) h2) ?_⟩
  · have nq : q ≠ l := ne_of hq h1 (by intro z; cases z)
    show upd _ _ _ q = _
    rw [upd_ne nq, upd_ne (ne_of_none hq nt)]
    exact hq
  · show upd _ _ _ tp = _
    rw [upd_ne nl.symm, upd_same]
theorem pi_listK {X : Cx} {K : PySem.W.Frag} {tg l : Expr} {tl : TE} (h : X.K = K) (hl : PE X l tl) : PI X tg l (iList K tl) := h ▸ pi_list hl
theorem call_len_seqK {X : Cx} {K : PySem.W.Frag} (h : X.K = K) : CallR X (.builtin "len") (fun xs H Q => ∃ p ys, xs = [V.ref p] ∧ (SqL K H p ys ∨ SqT K H p ys) ∧ Q (.int (ys.length : Int)) H) := h ▸ call_len_seq
section
variable {P : Program} {w : World} {K : PySem.W.Frag} {mg : Str → Option Value} {base : Heap}
def sp_law_often (_ : PySem.W.Frag) : Sp := fun vs H Q _ => ∃ l, ∃ L : List Str, vs = [.ref l] ∧ H l = some (.lst (L.map V.str)) ∧ L.length ≤ 40 ∧ ∀ H' p, Same H H' → H p = none → RdAt H' p (told (sumT [] (L.map fun x => (x, 1)))) → Q (.ref p) H'
theorem ok_law_often (D : Def K mg "_law_often" s_law_often ["_law_words"]) (B : Bs mg) (Glb : Glo mg) :
    Good P w K mg base "_law_often" s_law_often ["_law_words"] 1 (sp_law_often K) := by
  refine D.good fun f fd F => ?_
  refine F.ok sc_law_often (fun vs H Q E h => ?_) (fun cdv A outer s H vs Q E hr h => ?_)
  · obtain ⟨l, L, rfl, hl, hlen, q⟩ := h
    first | rfl | (rcases h with ⟨_, _, rfl, _⟩ | ⟨_, rfl, _⟩ <;> rfl)
  obtain ⟨l, L, rfl, hl, hlen, q⟩ := h
  refine ⟨_, (pss_one (ps_ret (pe_lc (own := [("_law_word", 1)]) (g := gName 1) (by rfl) sc_law_often.nd (pi_list (pe_callB (call_sortedD rfl) (by rfl) B.sorted (by decide +kernel) (pa_cons (pe_callTy (call_dictP rfl) (by rfl) B.dict (by decide +kernel) (pa_cons (pe_lc (own := [("_law_word", 1)]) (g := gName 1) (by rfl) sc_law_often.nd (pi_list (pv 0)) (blkOk_by (own := [("_law_word", 1)]) (N := ["_law_words", "_law_word", "_law_one"]) (sc := defScope s_law_often) (by decide +kernel)) (fun _ _ _ _ _ => (pg_name (i := 1) sc_law_often.nd rfl (by first | exact Or.inl rfl | exact Or.inr rfl))) (fun _ _ _ _ _ => pts_nil) (fun _ _ _ _ _ => (pe_tup (pa_cons (pv 1) (pa_cons pe_int pa_nil))))) pa_nil)) pa_nil))) (blkOk_by (own := [("_law_word", 1)]) (N := ["_law_words", "_law_word", "_law_one"]) (sc := defScope s_law_often) (by decide +kernel)) (fun _ _ _ _ _ => (pg_name (i := 1) sc_law_often.nd rfl (by first | exact Or.inl rfl | exact Or.inr rfl))) (fun _ _ _ _ _ => pts_nil) (fun _ _ _ _ _ => (pe_tup (pa_cons (pv 1) (pa_cons (pe_callB (call_len_seqK (K := K) rfl) (by rfl) B.len (by decide +kernel) (pa_cons (pe_lc (own := [("_law_one", 2)]) (g := gName 2) (by rfl) sc_law_often.nd (pi_listK (K := K) rfl (pv 0)) (blkOk_by (own := [("_law_one", 2)]) (N := ["_law_words", "_law_word", "_law_one"]) (by rfl)) (fun _ _ _ _ _ => (pg_name (i := 2) sc_law_often.nd rfl (by first | exact Or.inl rfl | exact Or.inr rfl))) (fun _ _ _ _ _ => (pts_one (pt_cmpR op_eq (pv 2) (pv 1) (nomark _)))) (fun _ _ _ _ _ => (pv 2))) pa_nil)) pa_nil))))))), ?_⟩
  refine ⟨_, rfl, l, rfl, ⟨_, SqL.of hl⟩, fun D nD => ?_⟩
  refine lc_list (K := K) (a := l) (xs := L.map V.str) (fun i H' => Same H H' ∧ RdAt H' D ((L.take i).map fun x => (x, (1 : Int)))) ⟨same_new nD _, ⟨[], upd_same, .nil⟩⟩ (fun i H' _ ⟨hS', _⟩ => SqL.of (hS' _ _ hl)) ?_ ?_
  · rintro i y H1 hy ⟨hS1, hR1⟩
    obtain ⟨x, hx, rfl⟩ := str_at hy
    have hi := (List.getElem?_eq_some_iff.mp hx).1
    refine ⟨rfl, _, rfl, (by show 2 ≤ sizeLine; decide), fun tp ntp => ?_⟩
    obtain ⟨xs, k1, k2, k3⟩ := hR1.push (x := x) (n := 1) ntp
    refine ⟨xs, k1, ?_, same_upd (fun b o e => same_new ntp _ _ _ (hS1 _ _ e)) nD, ?_⟩
    · rw [k2, List.length_map, List.length_take]
      exact Nat.lt_of_le_of_lt (Nat.min_le_left _ _) (Nat.lt_of_lt_of_le (by omega : i < 1000) (by decide))
    · rw [take_snoc hx, List.map_append]
      exact k3
  rintro H1 ⟨hS1, hR1⟩
  rw [List.length_map, List.take_length] at hR1
  obtain ⟨ts, hD1, hP1⟩ := hR1
  have pair1 : ∀ {qs : List Addr} {M : List Str}, Paired (SIAt H1) qs (M.map fun x => (x, (1 : Int))) → Paired (fun (p : Addr) (kv : Key × V) => SqT K H1 p [kV kv.1, kv.2]) qs (M.map fun x => ((Sum.inr x : Key), V.int 1)) := by
    intro qs M hq
    induction M generalizing qs with
    | nil => cases hq; exact .nil
    | cons x r ih =>
      cases hq with
      | cons h t => exact .cons (SqT.of h) (ih t)
  refine ⟨D, ts, L.map fun x => ((Sum.inr x : Key), V.int 1), rfl, SqL.of hD1, pair1 hP1, fun dp ndp => ?_⟩
  have eD : mergeK [] (L.map fun x => ((Sum.inr x : Key), V.int 1)) = dT (onesT [] L) := ones_merge L (D := []) (by simp)
  rw [eD]
  have hnd : ((onesT [] L).map Prod.fst).Nodup := onesT_nodup L (by simp)
  have hol := onesT_len L []
  refine ⟨dp, _, (onesT [] L).map Prod.fst, rfl, .inl upd_same, ?_, ?_, fun ys mp hperm hsort nmp => ?_⟩
  · unfold dT
    rw [List.map_map, List.map_map]
    rfl
  · rw [List.length_map]
    simp at hol
    omega
  have hM := sorted_pw hsort ((hperm.nodup_iff).mpr hnd)
  have hmem : ∀ k, k ∈ ys ↔ k ∈ L := fun k => by rw [hperm.mem_iff, onesT_mem]; simp
  have hyl : ys.length ≤ 40 := by
    rw [hperm.length_eq, List.length_map]
    simp at hol
    omega
  have hS3 : Same H (upd (upd H1 dp (.dK (dT (onesT [] L)))) mp (.lst (ys.map V.str))) := fun b o e => same_new nmp _ _ _ (same_new ndp _ _ _ (hS1 _ _ e))
  have hm3 : (upd (upd H1 dp (.dK (dT (onesT [] L)))) mp (.lst (ys.map V.str))) mp = some (.lst (ys.map V.str)) := upd_same
  generalize upd (upd H1 dp (.dK (dT (onesT [] L)))) mp (.lst (ys.map V.str)) = H3 at hS3 hm3
  refine ⟨mp, rfl, ⟨_, SqL.of hm3⟩, fun R nR => ?_⟩
  refine lc_list (K := K) (a := mp) (xs := ys.map V.str) (fun i H' => Same H3 H' ∧ RdAt H' R ((ys.take i).map fun w => (w, (cntT L w : Int)))) ⟨same_new nR _, ⟨[], upd_same, .nil⟩⟩ (fun i H' _ ⟨hS', _⟩ => SqL.of (hS' _ _ hm3)) ?_ ?_
  · rintro i y H4 hy ⟨hS4, hR4⟩
    obtain ⟨x, hx, rfl⟩ := str_at hy
    have hi := (List.getElem?_eq_some_iff.mp hx).1
    have hl4 := hS4 _ _ (hS3 _ _ hl)
    refine ⟨rfl, _, rfl, _, rfl, l, rfl, ⟨_, SqL.of hl4⟩, fun D2 nD2 => ?_⟩
    refine lc_list (K := K) (a := l) (xs := L.map V.str) (fun j H' => Same H4 H' ∧ H' D2 = some (.lst (((L.take j).filter fun z => decide (z = x)).map V.str))) ⟨same_new nD2 _, upd_same⟩ (fun j H' _ ⟨hS', _⟩ => SqL.of (hS' _ _ hl4)) ?_ ?_
    · rintro j y5 H5 hy5 ⟨hS5, hD5⟩
      obtain ⟨z, hz, rfl⟩ := str_at hy5
      have hj := (List.getElem?_eq_some_iff.mp hz).1
      refine ⟨rfl, _, rfl, _, rfl, rfl, _, rfl, ?_⟩
      rw [take_snoc hz, List.filter_append, List.filter_cons, List.filter_nil]
      by_cases c : z = x
      · rw [if_pos (decide_eq_true c)]
        refine iteYes (by rw [c]) ⟨_, rfl, _, hD5, ?_, same_upd hS5 nD2, ?_⟩
        · rw [List.length_map]
          refine Nat.lt_of_le_of_lt (Nat.le_trans (List.length_filter_le _ _) (List.length_take_le _ _)) (Nat.lt_of_lt_of_le (by omega : j < 1000) (by decide))
        · rw [upd_same, List.map_append]
          rfl
      · rw [if_neg (fun e => c (of_decide_eq_true e)), List.append_nil]
        exact iteNo (fun e => c (V.str.inj e)) ⟨hS5, hD5⟩
    rintro H5 ⟨hS5, hD5⟩
    rw [List.length_map, List.take_length] at hD5
    refine ⟨D2, _, rfl, .inl (SqL.of hD5), (by show 2 ≤ sizeLine; decide), fun tp ntp => ?_⟩
    rw [show (((L.filter fun z => decide (z = x)).map V.str).length : Int) = (cntT L x : Int) by rw [List.length_map]; rfl]
    obtain ⟨xs, k1, k2, k3⟩ := (hR4.same hS5).push (x := x) (n := (cntT L x : Int)) ntp
    refine ⟨xs, k1, ?_, same_upd (fun b o e => same_new ntp _ _ _ (hS5 _ _ (hS4 _ _ e))) nR, ?_⟩
    · rw [k2, List.length_map, List.length_take]
      exact Nat.lt_of_le_of_lt (Nat.min_le_left _ _) (Nat.lt_of_lt_of_le (by omega : i < 1000) (by decide))
    · rw [take_snoc hx, List.map_append]
      exact k3
  · rintro H4 ⟨hS4, hR4⟩
    rw [List.length_map, List.take_length, told_count hM hmem] at hR4
    exact q H4 R (hS3.trans hS4) (hS3.free nR) hR4
end
end My
namespace My
open PySem L2 PyProof.Rows
theorem dp_si {K : PySem.W.Frag} {H : Hp} : ∀ {ts : List Addr} {L : List (Str × Int)}, Paired (SIAt H) ts L → DpAll K H (ts.map V.ref) (L.map encSI)
  | _, _, .nil => .nil
  | _, _, .cons h r => .cons (.tup (SqT.of h) (.cons (.str _) (.cons (.int _) .nil))) (dp_si r)
theorem told_len (L : List (Str × Int)) : (told L).length = L.length := (List.mergeSort_perm L _).length_eq
theorem layAll_si : ∀ {L : List (Str × Int)}, (∀ e ∈ L, OkT e.1) → PyData.canLayAll0 (L.map encSI) = true
  | [], _ => rfl
  | e :: r, h => by
    show (PyData.canLay0 (encSI e) && PyData.canLayAll0 (r.map encSI)) = true
    rw [layAll_si fun f hf => h f (List.mem_cons_of_mem _ hf)]
    have hx := okT_str (h e List.mem_cons_self)
    simp only [encSI, PyData.canLay0, PyData.canLayAll0, Bool.and_true]
    exact hx
theorem depthAll_si (e : Str × Int) : ∀ r : List (Str × Int), PyData.depthAll ((e :: r).map encSI) = 1
  | [] => rfl
  | f :: r => by
    show max (PyData.depth (encSI e)) (PyData.depthAll ((f :: r).map encSI)) = 1
    rw [depthAll_si f r]
    rfl
theorem shaped_si : ∀ {L : List (Str × Int)}, (∀ e ∈ L, OkT e.1) → SeqAt.shaped (.list (L.map encSI)) = true
  | [], _ => shaped_iz []
  | e :: r, h => by
    unfold SeqAt.shaped
    have h1 : PyData.canLay0 (.list ((e :: r).map encSI)) = true := by
      unfold PyData.canLay0
      exact layAll_si h
    have h2 : PyData.depth (.list ((e :: r).map encSI)) = 2 := by
      unfold PyData.depth
      rw [depthAll_si]
    rw [h1, h2]
    rfl
theorem dp_rd {K : PySem.W.Frag} {H : Hp} {l : Addr} {L : List (Str × Int)} (h : RdAt H l L) : Dp K H (.ref l) (.list (L.map encSI)) := by
  obtain ⟨ts, h1, h2⟩ := h
  exact .lst (SqL.of h1) (dp_si h2)
theorem eqv_e (e f : Str × Int) : PyData.eqv (encSI e) (encSI f) = decide (e = f) := by
  obtain ⟨x, n⟩ := e
  obtain ⟨y, m⟩ := f
  by_cases h : x = y
  · subst h
    by_cases k : n = m
    · subst k
      simp [encSI, PyData.eqv, PyData.eqvAll]
    · simp [encSI, PyData.eqv, PyData.eqvAll, k]
  · simp [encSI, PyData.eqv, PyData.eqvAll, h]
theorem eqvAll_si : ∀ M N : List (Str × Int), PyData.eqvAll (M.map encSI) (N.map encSI) = decide (M = N)
  | [], [] => rfl
  | [], _ :: _ => rfl
  | _ :: _, [] => rfl
  | e :: M, f :: N => by
    have ih := eqvAll_si M N
    show PyData.eqvAll (encSI e :: M.map encSI) (encSI f :: N.map encSI) = _
    rw [PyData.eqvAll, eqv_e, ih]
    by_cases h : e = f
    · subst h
      by_cases k : M = N
      · subst k; simp
      · simp [k]
    · simp [h]
theorem eqv_si (M N : List (Str × Int)) : PyData.eqv (.list (M.map encSI)) (.list (N.map encSI)) = decide (M = N) := by
  rw [PyData.eqv]
  exact eqvAll_si M N
/-! ### pieces of a ring, wherever one begins -/
abbrev cnts (L : List Str) : List (Str × Int) := told (sumT [] (L.map fun x => (x, 1)))
theorem cnts_perm {L M : List Str} (h : L.Perm M) : cnts L = cnts M := by
  have hn : ∀ Z : List Str, ((sumT [] (Z.map fun x => (x, 1))).map Prod.fst).Nodup := fun Z => sumT_nodup _ (by simp)
  refine told_same (hn L) (hn M) fun e => ?_
  rw [mem_get (hn L), mem_get (hn M), sumT_mem1, sumT_mem1, sumT_get, sumT_get, h.mem_iff]
  have : cntT L e.1 = cntT M e.1 := (h.filter _).length_eq
  rw [this]
theorem turn_perm (n p : Nat) (h : 0 < n) : ((List.range n).map fun k => (p + k) % n).Perm (List.range n) := by
  have hnd : ((List.range n).map fun k => (p + k) % n).Nodup := by
    rw [List.Nodup, List.pairwise_map]
    refine List.Pairwise.imp_of_mem ?_ (List.pairwise_lt_range (n := n))
    intro a b ha hb hab e
    have ha := List.mem_range.mp ha
    have hb := List.mem_range.mp hb
    have h1 := Nat.div_add_mod (p + a) n
    have h2 := Nat.div_add_mod (p + b) n
    rw [e] at h1
    have h3 : n * ((p + b) / n) = n * ((p + a) / n) + (b - a) := by omega
    have h4 : (p + b) / n = (p + a) / n ∨ (p + a) / n + 1 ≤ (p + b) / n := by
      have := Nat.div_le_div_right (c := n) (show p + a ≤ p + b by omega)
      omega
    rcases h4 with z | z
    · rw [z] at h3
      omega
    · have := Nat.mul_le_mul (Nat.le_refl n) z
      rw [Nat.mul_add] at this
      omega
  refine (List.perm_ext_iff_of_nodup hnd List.nodup_range).mpr fun x => ?_
  rw [List.mem_map, List.mem_range]
  constructor
  · rintro ⟨k, _, rfl⟩
    exact Nat.mod_lt _ h
  · intro hx
    have h1 := Nat.mod_lt p h
    by_cases c : p % n ≤ x
    · refine ⟨x - p % n, List.mem_range.mpr (by omega), ?_⟩
      rw [← Nat.mod_add_mod, show p % n + (x - p % n) = x by omega]
      exact Nat.mod_eq_of_lt hx
    · refine ⟨x + n - p % n, List.mem_range.mpr (by omega), ?_⟩
      rw [← Nat.mod_add_mod, show p % n + (x + n - p % n) = x + n by omega, Nat.add_mod_right]
      exact Nat.mod_eq_of_lt hx
theorem rps_turn (l : List Nat) (p s : Nat) (h : 0 < l.length) : ((List.range l.length).map fun k => tS (rd l (p + k) s)).Perm (rps l s) := by
  have e : ((List.range l.length).map fun k => tS (rd l (p + k) s)) = ((List.range l.length).map fun k => (p + k) % l.length).map fun k => tS (rd l k s) := by
    rw [List.map_map]
    exact List.map_congr_left fun k _ => by show _ = tS (rd l ((p + k) % l.length) s); rw [rd_mod]
  rw [e]
  exact (turn_perm l.length p h).map _
theorem pcsT_one (x : Str) (s : Nat) : pcsT s [(x, 1)] = (pcs x s).map fun z => (z, 1) := by
  unfold pcsT
  simp
theorem told_ring {l : List Nat} {s : Nat} (p : Nat) (h0 : 0 < l.length) (hs : 1 ≤ s) : told (sumT [] (pcsT s [(tS (rd l p (l.length + s - 1)), 1)])) = cnts (rps l s) := by
  rw [pcsT_one, pcs_opened h0 hs]
  exact cnts_perm (rps_turn l p s h0)
theorem rps_turned {l : List Nat} {s : Nat} (b : Nat) (h0 : 0 < l.length) : cnts (rps (rd l b l.length) s) = cnts (rps l s) := by
  have e : rps (rd l b l.length) s = (List.range l.length).map fun k => tS (rd l (b + k) s) := by
    unfold rps
    rw [rd_len]
    exact List.map_congr_left fun k _ => by rw [rd_turned l b k s h0]
  rw [e]
  exact cnts_perm (rps_turn l b s h0)
theorem sum_told : ∀ (L : List Str) (D : List (Str × Int)), ((sumT D (L.map fun x => (x, 1))).map Prod.snd).sum = (D.map Prod.snd).sum + (L.length : Int) := by
  have add1 : ∀ (x : Str) (D : List (Str × Int)), ((addT D x 1).map Prod.snd).sum = (D.map Prod.snd).sum + 1 := by
    intro x D
    induction D with
    | nil => rfl
    | cons e r ih =>
      unfold addT
      split
      · simp only [List.map_cons, List.sum_cons]
        omega
      · simp only [List.map_cons, List.sum_cons, ih]
        omega
  intro L
  induction L with
  | nil => intro D; show (D.map Prod.snd).sum = _; simp
  | cons x r ih =>
    intro D
    show ((sumT (addT D x 1) (r.map fun x => (x, 1))).map Prod.snd).sum = _
    rw [ih, add1, List.length_cons]
    omega
theorem sum_perm {L M : List Int} (h : L.Perm M) : L.sum = M.sum := by
  induction h with
  | nil => rfl
  | cons x _ ih => rw [List.sum_cons, List.sum_cons, ih]
  | swap x y l =>
    rw [List.sum_cons, List.sum_cons, List.sum_cons, List.sum_cons]
    omega
  | trans _ _ h1 h2 => exact h1.trans h2
theorem paired_rev {α β : Type} {F : α → β → Prop} : ∀ {l1 : List α} {l2 : List β}, Paired F l1 l2 → Paired F l1.reverse l2.reverse
  | _, _, .nil => .nil
  | _, _, .cons r t => by
    rw [List.reverse_cons, List.reverse_cons]
    exact paired_end (paired_rev t) r
/-- all keywords, turned about -/
def gR {α : Type} : List α → List α → List α | [], ws => ws.reverse | _ :: _, _ => []
theorem gR_inv3 {α : Type} {us ws : List α} (h : (gR us ws).length = 3) : us = [] ∧ ∃ a b c, ws = [a, b, c] := by
  match us, ws, h with
  | [], [a, b, c], _ => exact ⟨rfl, a, b, c, rfl⟩
  | [], [], h => exact absurd h (by simp [gR])
  | [], [_], h => exact absurd h (by simp [gR])
  | [], [_, _], h => exact absurd h (by simp [gR])
  | [], _ :: _ :: _ :: _ :: _, h => exact absurd h (by simp [gR])
  | _ :: _, _, h => exact absurd h (by simp [gR])
theorem relR {vs : List V} {us : List Value} {zs : List V} {ws : List Value} (a : Vals vs us) (b : Vals zs ws) : Vals (gR vs zs) (gR us ws) := by
  cases a with
  | nil => exact paired_rev b
  | cons r a => exact .nil
theorem sum_cnts (L : List Str) : ((cnts L).map Prod.snd).sum = (L.length : Int) := by
  have hp : ((cnts L).map Prod.snd).Perm ((sumT [] (L.map fun x => (x, 1))).map Prod.snd) := (List.mergeSort_perm _ _).map _
  rw [sum_perm hp, sum_told]
  simp
theorem cnts_ok {L : List Str} (h : ∀ x ∈ L, OkT x) : ∀ e ∈ cnts L, OkT e.1 := fun e he => by
  have he := told_mem.mp he
  have := (sumT_mem1 e.1 L []).mp (List.mem_map.mpr ⟨e, he, rfl⟩)
  simp at this
  exact h _ this
theorem cnts_len (L : List Str) : (cnts L).length ≤ L.length := by
  have := sumT_len (L.map fun x => (x, (1 : Int))) []
  rw [List.length_map] at this
  rw [told_len]
  simpa using this
section
variable {P : Program} {w : World} {K : PySem.W.Frag} {mg : Str → Option Value} {base : Heap}
def sp_law_pieces_right (_ : PySem.W.Frag) : Sp := fun vs H Q _ => ∃ l, ∃ s b : Nat, vs = [T l, .int (s : Int), .int (b : Int)] ∧ Wd l ∧ l.length ≤ 20 ∧ 2 ≤ s ∧ s ≤ 8 ∧ ∀ H', Same H H' → Q (.bl true) H'
theorem ok_law_pieces_right (D : Def K mg "_law_pieces_right" s_law_pieces_right ["_law_ring_here", "_law_size", "_law_by"]) (B : Bs mg) (Glb : Glo mg)
    (h_law_often : Good P w K mg base "_law_often" s_law_often ["_law_words"] 1 (sp_law_often K))
    (hring_pieces : Good P w K mg base "ring_pieces" sring_pieces ["ring", "size"] 5 (spring_pieces K))
    (hcut_at : Good P w K mg base "cut_at" scut_at ["ring", "size", "place"] 5 (spcut_at K))
    (h_law_round : Good P w K mg base "_law_round" s_law_round ["_law_ring_here", "_law_place", "_law_many"] 1 (sp_law_round K))
    (hline_pieces : Good P w K mg base "line_pieces" sline_pieces ["text", "size"] 5 (spline_pieces K))
    (hturned : Good P w K mg base "turned" sturned ["ring", "by"] 5 (spturned K)) :
    Good P w K mg base "_law_pieces_right" s_law_pieces_right ["_law_ring_here", "_law_size", "_law_by"] 6 (sp_law_pieces_right K) := by
  refine D.good fun f fd F => ?_
  obtain ⟨f_law_often, d_law_often, O_law_often, m_law_often, k_law_often, b_law_often, F_law_often⟩ := h_law_often
  obtain ⟨fring_pieces, dring_pieces, Oring_pieces, mring_pieces, kring_pieces, bring_pieces, Fring_pieces⟩ := hring_pieces
  obtain ⟨fcut_at, dcut_at, Ocut_at, mcut_at, kcut_at, bcut_at, Fcut_at⟩ := hcut_at
  obtain ⟨f_law_round, d_law_round, O_law_round, m_law_round, k_law_round, b_law_round, F_law_round⟩ := h_law_round
  obtain ⟨fline_pieces, dline_pieces, Oline_pieces, mline_pieces, kline_pieces, bline_pieces, Fline_pieces⟩ := hline_pieces
  obtain ⟨fturned, dturned, Oturned, mturned, kturned, bturned, Fturned⟩ := hturned
  have kb_cut_at_place_size_ring : KBinds K dcut_at ["ring", "size", "place"] ["place", "size", "ring"] gR gR := fun_kbinds Fcut_at gR gR relR (fun _ _ _ _ _ _ us ws hl => by
    obtain ⟨rfl, a0, a1, a2, rfl⟩ := gR_inv3 hl
    rfl)
  have kb_ring_pieces_ring_size : KBinds K dring_pieces ["ring", "size"] ["ring", "size"] g12 g12 := fun_kbinds Fring_pieces g12 g12 rel12 (fun _ _ _ _ _ _ us ws hl => by
    obtain ⟨rfl, a0, a1, rfl⟩ := g12_inv hl
    rfl)
  refine F.ok sc_law_pieces_right (fun vs H Q E h => ?_) (fun cdv A outer s H vs Q E hr h => ?_)
  · obtain ⟨l, s, b, rfl, hwl, hl20, hs1, hs, q⟩ := h
    first | rfl | (rcases h with ⟨_, _, rfl, _⟩ | ⟨_, rfl, _⟩ <;> rfl)
  obtain ⟨l, s, b, rfl, hwl, hl20, hs1, hs, q⟩ := h
  refine ⟨_, (pss_cons (ps_set (i := 3) sc_law_pieces_right.nd rfl (by first | exact Or.inl rfl | exact Or.inr rfl) (pe_call O_law_often (hr.mono (by decide)) rfl m_law_often k_law_often b_law_often .nil pass0 (pa_cons (pe_lc (own := [("_law_place", 5)]) (g := gName 5) (by rfl) sc_law_pieces_right.nd (pi_range1 (by rfl) B.range (pa_cons (pe_callB call_len_str (by rfl) B.len (by decide +kernel) (pa_cons (pv 0) pa_nil)) pa_nil)) (blkOk_by (own := [("_law_place", 5)]) (N := ["_law_ring_here", "_law_size", "_law_by", "_law_due", "_law_told", "_law_place", "_law_cut", "_law_piece", "_law_many"]) (sc := defScope s_law_pieces_right) (by decide +kernel)) (fun _ _ _ _ _ => (pg_name (i := 5) sc_law_pieces_right.nd rfl (by first | exact Or.inl rfl | exact Or.inr rfl))) (fun _ _ _ _ _ => pts_nil) (fun _ _ _ _ _ => (pe_call O_law_round (hr.mono (by decide)) rfl m_law_round k_law_round b_law_round .nil pass0 (pa_cons (pv 0) (pa_cons (pv 5) (pa_cons (pv 1) pa_nil)))))) pa_nil)))
  (pss_cons (ps_set (i := 4) sc_law_pieces_right.nd rfl (by first | exact Or.inl rfl | exact Or.inr rfl) (pe_call Oring_pieces hr rfl mring_pieces kring_pieces bring_pieces .nil pass0 (pa_cons (pv 0) (pa_cons (pv 1) pa_nil))))
  (pss_cons (ps_if (PW.pt (pw_or (pt_cmpR (op_neD hr.units) (pv 4) (pv 3) (nomark _)) (pw_or1 (pt_cmpR op_ne (pe_callB (cr_sum rfl) (by rfl) B.sum (by decide +kernel) (pa_cons (pe_lc (own := [("_law_piece", 7), ("_law_many", 8)]) (g := gTup K 2 (gCons (gName 7) (gCons (gName 8) gNil))) (by rfl) sc_law_pieces_right.nd (pi_list (pv 4)) (blkOk_by (own := [("_law_piece", 7), ("_law_many", 8)]) (N := ["_law_ring_here", "_law_size", "_law_by", "_law_due", "_law_told", "_law_place", "_law_cut", "_law_piece", "_law_many"]) (sc := defScope s_law_pieces_right) (by decide +kernel)) (fun _ _ _ _ _ => (pg_tup rfl (pgs_cons (pg_name (i := 7) sc_law_pieces_right.nd rfl (by first | exact Or.inl rfl | exact Or.inr rfl)) (pgs_cons (pg_name (i := 8) sc_law_pieces_right.nd rfl (by first | exact Or.inl rfl | exact Or.inr rfl)) pgs_nil)))) (fun _ _ _ _ _ => pts_nil) (fun _ _ _ _ _ => (pv 8))) pa_nil)) (pe_callB call_len_str (by rfl) B.len (by decide +kernel) (pa_cons (pv 0) pa_nil)) (nomark _)))))
    (pss_one (ps_ret pe_bl)) pss_nil)
  (pss_cons (ps_expr (pe_bm PySem.F.plainAttrs_list PySem.F.slot_list_append PySem.F.type_list_append mt_append (pv 4) (pa_cons pe_non pa_nil)))
  (pss_cons (ps_if (pt_cmpR (op_neD hr.units) (pe_callKK Oring_pieces hr (by rfl) mring_pieces kring_pieces kb_ring_pieces_ring_size pass0 (pk_cons (pe_call Oturned hr rfl mturned kturned bturned .nil pass0 (pa_cons (pv 0) (pa_cons (pv 2) pa_nil))) (pk_cons (pv 1) pk_nil))) (pv 3) (nomark _))
    (pss_one (ps_ret pe_bl)) pss_nil)
  (pss_cons (ps_set (i := 5) sc_law_pieces_right.nd rfl (by first | exact Or.inl rfl | exact Or.inr rfl) (pe_op op_mod (pv 2) (pe_callB call_len_str (by rfl) B.len (by decide +kernel) (pa_cons (pv 0) pa_nil))))
  (pss_cons (ps_set (i := 6) sc_law_pieces_right.nd rfl (by first | exact Or.inl rfl | exact Or.inr rfl) (pe_call Ocut_at hr rfl mcut_at kcut_at bcut_at .nil pass0 (pa_cons (pv 0) (pa_cons (pv 1) (pa_cons (pv 5) pa_nil)))))
  (pss_cons (ps_if (PW.pt (pw_or (pt_cmpR op_ne (pv 6) (pe_call O_law_round (hr.mono (by decide)) rfl m_law_round k_law_round b_law_round .nil pass0 (pa_cons (pv 0) (pa_cons (pv 5) (pa_cons (pe_op op_sub (pe_op op_add (pe_callB call_len_str (by rfl) B.len (by decide +kernel) (pa_cons (pv 0) pa_nil)) (pv 1)) pe_int) pa_nil)))) (nomark _)) (pw_or1 (pt_cmpR (op_neD hr.units) (pe_call Oline_pieces hr rfl mline_pieces kline_pieces bline_pieces .nil pass0 (pa_cons (pv 6) (pa_cons (pv 1) pa_nil))) (pv 3) (nomark _)))))
    (pss_one (ps_ret pe_bl)) pss_nil)
  (pss_one (ps_ret (pe_cmpR op_eq (pe_callKK Ocut_at hr (by rfl) mcut_at kcut_at kb_cut_at_place_size_ring pass0 (pk_cons (pv 5) (pk_cons (pv 1) (pk_cons (pv 0) pk_nil)))) (pv 6) (nomark _)))))))))))), ?_⟩
  have hl2 := hwl.2.1
  have h0 := hwl.1
  have hok : ∀ x ∈ rps l s, OkT x := fun x hx => (rps_okT hwl (by omega : 0 < s) hs x hx).1
  have hckt := cnts_ok hok
  have same : PyData.eqv (.list ((cnts (rps l s)).map encSI)) (.list ((cnts (rps l s)).map encSI)) = true := by rw [eqv_si]; exact decide_eq_true rfl
  refine ⟨_, rfl, _, rfl, T_line (by omega), _, rfl, by omega, by rw [T_len]; omega, fun D nD => ?_⟩
  rw [show (((⟨l.toArray⟩ : Str).length : Nat) : Int).toNat = l.length by rw [T_len]; rfl]
  refine lc_range (lo := 0) (n := l.length) (fun i H' => Same H H' ∧ H' D = some (.lst (((List.range i).map fun p => tS (rd l p s)).map V.str))) ⟨same_new nD _, upd_same⟩ ?_ ?_
  · rintro i H1 hi ⟨hS1, hD1⟩
    rw [Int.zero_add]
    refine ⟨rfl, _, rfl, _, rfl, _, rfl, l, i, s, rfl, hwl, by omega, _, hD1, ?_, same_upd hS1 nD, ?_⟩
    · rw [List.length_map, List.length_map, List.length_range]
      exact Nat.lt_of_lt_of_le (by omega : i < 1000) (by decide)
    · rw [upd_same, List.range_succ, List.map_append, List.map_append]
      rfl
  rintro H1 ⟨hS1, hD1⟩
  refine ⟨D, rps l s, rfl, hD1, by rw [rps_len]; omega, fun H2 du hS2 ndu hdu => ?_⟩
  refine ⟨_, rfl, _, rfl, l, s, rfl, hwl, hs1, hs, fun H3 tl hS3 ntl htl => ?_⟩
  rw [told_ring 0 h0 (by omega)] at htl
  refine ⟨_, rfl, _, rfl, _, _, dp_rd htl, dp_rd (hdu.same hS3), shaped_si hckt, shaped_si hckt, _, rfl, iteNb same ?_⟩
  obtain ⟨ts, g1, g2⟩ := id htl
  refine ⟨_, rfl, tl, rfl, ⟨_, SqL.of g1⟩, fun D2 nD2 => ?_⟩
  refine lc_list (K := K) (a := tl) (xs := ts.map V.ref) (fun i H' => Same H3 H' ∧ H' D2 = some (.lst ((((cnts (rps l s)).take i).map Prod.snd).map V.int))) ⟨same_new nD2 _, upd_same⟩ (fun i H' _ ⟨hS', _⟩ => SqL.of (hS' _ _ g1)) ?_ ?_
  · rintro i v H4 hv ⟨hS4, hD4⟩
    obtain ⟨p, e, rfl, he, hpe⟩ := si_at g2 hv
    have hp4 : H4 p = some (.tup [.str e.1, .int e.2]) := hS4 _ _ hpe
    have hi := (List.getElem?_eq_some_iff.mp he).1
    have hcl := cnts_len (rps l s)
    rw [rps_len] at hcl
    refine ⟨p, _, rfl, SqT.of hp4, rfl, _, _, rfl, _, _, rfl, rfl, rfl, _, rfl, _, hD4, ?_, same_upd hS4 nD2, ?_⟩
    · rw [List.length_map, List.length_map]
      exact Nat.lt_of_le_of_lt (List.length_take_le _ _) (Nat.lt_of_lt_of_le (by omega : i < 1000) (by decide))
    · rw [upd_same, take_snoc he, List.map_append, List.map_append]
      rfl
  rintro H4 ⟨hS4, hD4⟩
  rw [List.length_map, paired_len g2, List.take_length] at hD4
  refine ⟨D2, _, rfl, SqL.of hD4, _, rfl, _, rfl, T_line (by omega), rfl, _, rfl, iteNot' (by rw [sum_cnts, rps_len, T_len]) ?_⟩
  have g4 := hS4 _ _ g1
  have hcl := cnts_len (rps l s)
  rw [rps_len] at hcl
  refine ⟨_, rfl, .inl ⟨rfl, _, SqL.of g4⟩, tl, _, _, rfl, rfl, g4, ?_, ?_⟩
  · rw [List.length_map, paired_len g2]
    exact Nat.lt_of_le_of_lt hcl (Nat.lt_of_lt_of_le (by omega : l.length < 1000) (by decide))
  have hS5 : Same H2 (upd H4 tl (.lst (ts.map V.ref ++ [.non]))) := fun b o e => by
    rw [upd_ne (ne_of_none e ntl)]
    exact hS4 _ _ (hS3 _ _ e)
  generalize upd H4 tl (.lst (ts.map V.ref ++ [.non])) = H5 at hS5
  have hwr := rd_wd hwl b l.length h0 (by omega)
  refine ⟨_, rfl, _, rfl, l, b, rfl, hwl, _, rfl, rd l b l.length, s, rfl, hwr, hs1, hs, fun H6 p6 hS6 np6 h6 => ?_⟩
  rw [told_ring 0 hwr.1 (by omega), rps_turned b h0] at h6
  have hS26 : Same H2 H6 := fun x o e => hS6 _ _ (hS5 _ _ e)
  have hmod : (b : Int) % (((⟨l.toArray⟩ : Str).length : Nat) : Int) = ((b % l.length : Nat) : Int) := by rw [T_len]; rfl
  refine ⟨_, rfl, _, _, dp_rd h6, dp_rd (hdu.same hS26), shaped_si hckt, shaped_si hckt, _, rfl, iteNb same ?_⟩
  refine ⟨_, rfl, _, rfl, _, rfl, T_line (by omega), _, _, rfl, rfl, (by rw [T_len]; omega), ?_⟩
  refine ⟨_, rfl, _, rfl, _, rfl, l, s, b % l.length, ?_, hwl, hs1, hs, Nat.mod_lt _ h0, fun H7 hS7 => ?_⟩
  · rw [T_len]
    rfl
  refine ⟨_, rfl, _, rfl, _, rfl, _, rfl, _, rfl, T_line (by omega), _, rfl, _, _, rfl, rfl, _, _, rfl, rfl, l, b % l.length, l.length + s - 1, ?_, hwl, by omega, ?_⟩
  · rw [T_len]
    have e : ((l.length : Int) + (s : Int)) - 1 = ((l.length + s - 1 : Nat) : Int) := by omega
    show [T l, V.int _, V.int _] = _
    rw [e]
    rfl
  refine ⟨rfl, _, rfl, iteNot' rfl ?_⟩
  refine ⟨_, rfl, _, rfl, _, s, rfl, (rd_wd hwl _ _ (by omega) (by omega)).okT, hs1, hs, fun H8 p8 hS8 np8 h8 => ?_⟩
  rw [told_ring (b % l.length) h0 (by omega)] at h8
  have hS28 : Same H2 H8 := fun x o e => hS8 _ _ (hS7 _ _ (hS26 _ _ e))
  refine ⟨_, rfl, _, _, dp_rd h8, dp_rd (hdu.same hS28), shaped_si hckt, shaped_si hckt, _, rfl, iteNb same ?_⟩
  refine ⟨_, rfl, _, rfl, _, rfl, l, s, b % l.length, rfl, hwl, hs1, hs, Nat.mod_lt _ h0, fun H9 hS9 => ?_⟩
  have hS : Same H H9 := fun x o e => hS9 _ _ (hS28 _ _ (hS2 _ _ (hS1 _ _ e)))
  exact ⟨_, rfl, rfl, bl_true rfl (q H9 hS)⟩
end
end My
namespace My
open PySem L2 PyProof.Rows
theorem pcs_ok {a : List Nat} {s : Nat} (h : Lt a) (n : Nat) : ∀ x ∈ pcsN (tS a) s n, OkT x := fun x hx => by
  rw [pcsN_map] at hx
  obtain ⟨k, _, rfl⟩ := List.mem_map.mp hx
  rw [cutS_at]
  refine Lt.okT ⟨?_, fun c hc => h.2 c (List.mem_of_mem_drop (List.mem_of_mem_take hc))⟩
  have := h.1
  rw [List.length_take, List.length_drop]
  omega
/-- what fits, below n -/
def fits (a b : List Nat) (n : Nat) : List Nat := ((List.range n).map (· + 1)).filter fun k => decide (Fit a b k)
theorem fits_snoc (a b : List Nat) (n : Nat) : fits a b (n + 1) = fits a b n ++ (if Fit a b (n + 1) then [n + 1] else []) := by
  unfold fits
  rw [List.range_succ, List.map_append, List.filter_append]
  congr 1
  by_cases c : Fit a b (n + 1)
  · rw [if_pos c]; simp [c]
  · rw [if_neg c]; simp [c]
theorem fits_len (a b : List Nat) (n : Nat) : (fits a b n).length ≤ n := by
  unfold fits
  exact Nat.le_trans (List.length_filter_le _ _) (by simp)
theorem fits_ov {a b : List Nat} {k : Nat} (h1 : k ∈ 0 :: fits a b (min a.length b.length - 1)) (h2 : ∀ j ∈ 0 :: fits a b (min a.length b.length - 1), j ≤ k) : IsOv a b k := by
  refine ⟨?_, fun j g1 g2 g3 => ?_⟩
  · rcases List.mem_cons.mp h1 with rfl | h
    · exact .inl rfl
    · unfold fits at h
      have hh := List.mem_filter.mp h
      obtain ⟨i, hi, rfl⟩ := List.mem_map.mp hh.1
      have hi := List.mem_range.mp hi
      exact .inr ⟨by omega, of_decide_eq_true hh.2⟩
  · have hj : j ∈ fits a b (min a.length b.length - 1) := by
      unfold fits
      exact List.mem_filter.mpr ⟨List.mem_map.mpr ⟨j - 1, List.mem_range.mpr (by omega), by omega⟩, decide_eq_true g3⟩
    have := h2 j (List.mem_cons_of_mem _ hj)
    omega
theorem ov_none {a : List Nat} {k : Nat} (h : IsOv a [] k) : k = 0 := by
  rcases h.1 with z | z
  · exact z
  · simp at z
section
variable {P : Program} {w : World} {K : PySem.W.Frag} {mg : Str → Option Value} {base : Heap}
def sp_law_line_right (_ : PySem.W.Frag) : Sp := fun vs H Q _ => ∃ a b, ∃ s : Nat, vs = [T a, .int (s : Int), T b] ∧ Lt a ∧ a.length ≤ 40 ∧ Lt b ∧ 2 ≤ s ∧ s ≤ 8 ∧ ∀ H', Same H H' → Q (.bl true) H'
theorem ok_law_line_right (D : Def K mg "_law_line_right" s_law_line_right ["_law_text", "_law_size", "_law_other"]) (B : Bs mg) (Glb : Glo mg)
    (h_law_often : Good P w K mg base "_law_often" s_law_often ["_law_words"] 1 (sp_law_often K))
    (hline_pieces : Good P w K mg base "line_pieces" sline_pieces ["text", "size"] 5 (spline_pieces K))
    (hoverlap : Good P w K mg base "overlap" soverlap ["text", "next_text"] 4 (spoverlap K)) :
    Good P w K mg base "_law_line_right" s_law_line_right ["_law_text", "_law_size", "_law_other"] 6 (sp_law_line_right K) := by
  refine D.good fun f fd F => ?_
  obtain ⟨f_law_often, d_law_often, O_law_often, m_law_often, k_law_often, b_law_often, F_law_often⟩ := h_law_often
  obtain ⟨fline_pieces, dline_pieces, Oline_pieces, mline_pieces, kline_pieces, bline_pieces, Fline_pieces⟩ := hline_pieces
  obtain ⟨foverlap, doverlap, Ooverlap, moverlap, koverlap, boverlap, Foverlap⟩ := hoverlap
  have kb_line_pieces_text_size : KBinds K dline_pieces ["text", "size"] ["text", "size"] g12 g12 := fun_kbinds Fline_pieces g12 g12 rel12 (fun _ _ _ _ _ _ us ws hl => by
    obtain ⟨rfl, a0, a1, rfl⟩ := g12_inv hl
    rfl)
  have kb_overlap_text_next_text : KBinds K doverlap ["text", "next_text"] ["text", "next_text"] g12 g12 := fun_kbinds Foverlap g12 g12 rel12 (fun _ _ _ _ _ _ us ws hl => by
    obtain ⟨rfl, a0, a1, rfl⟩ := g12_inv hl
    rfl)
  refine F.ok sc_law_line_right (fun vs H Q E h => ?_) (fun cdv A outer s H vs Q E hr h => ?_)
  · obtain ⟨a, b, s, rfl, ha, ha40, hb, hs1, hs, q⟩ := h
    first | rfl | (rcases h with ⟨_, _, rfl, _⟩ | ⟨_, rfl, _⟩ <;> rfl)
  obtain ⟨a, b, s, rfl, ha, ha40, hb, hs1, hs, q⟩ := h
  refine ⟨_, (pss_cons (ps_set (i := 3) sc_law_line_right.nd rfl (by first | exact Or.inl rfl | exact Or.inr rfl) (pe_call O_law_often (hr.mono (by decide)) rfl m_law_often k_law_often b_law_often .nil pass0 (pa_cons (pe_lc (own := [("_law_at", 6)]) (g := gName 6) (by rfl) sc_law_line_right.nd (pi_range1 (by rfl) B.range (pa_cons (pe_callB call_len_str (by rfl) B.len (by decide +kernel) (pa_cons (pv 0) pa_nil)) pa_nil)) (blkOk_by (own := [("_law_at", 6)]) (N := ["_law_text", "_law_size", "_law_other", "_law_due", "_law_least", "_law_fits", "_law_at", "_law_many"]) (sc := defScope s_law_line_right) (by decide +kernel)) (fun _ _ _ _ _ => (pg_name (i := 6) sc_law_line_right.nd rfl (by first | exact Or.inl rfl | exact Or.inr rfl))) (fun _ _ _ _ _ => (pts_one (pt_cmpR op_le (pe_op op_add (pv 6) (pv 1)) (pe_callB call_len_str (by rfl) B.len (by decide +kernel) (pa_cons (pv 0) pa_nil)) (nomark _)))) (fun _ _ _ _ _ => (pe_slice sl_str (pv 0) (po_some (pv 6)) (po_some (pe_op op_add (pv 6) (pv 1)))))) pa_nil)))
  (pss_cons (ps_if (pt_cmpR (op_neD hr.units) (pe_callKK Oline_pieces hr (by rfl) mline_pieces kline_pieces kb_line_pieces_text_size pass0 (pk_cons (pv 0) (pk_cons (pv 1) pk_nil))) (pv 3) (nomark _))
    (pss_one (ps_ret pe_bl)) pss_nil)
  (pss_cons (ps_set (i := 4) sc_law_line_right.nd rfl (by first | exact Or.inl rfl | exact Or.inr rfl) (pe_callB (call_min2 rfl) (by rfl) B.min (by decide +kernel) (pa_cons (pe_callB call_len_str (by rfl) B.len (by decide +kernel) (pa_cons (pv 0) pa_nil)) (pa_cons (pe_callB call_len_str (by rfl) B.len (by decide +kernel) (pa_cons (pv 2) pa_nil)) pa_nil))))
  (pss_cons (ps_setLc (i := 5) (own := [("_law_many", 7)]) (g := gName 7) (by rfl) sc_law_line_right.nd rfl rfl (sw_true rfl rfl rfl (by decide +kernel)) (pi_range2 (by rfl) B.range (pa_cons pe_int (pa_cons (pv 4) pa_nil))) (blkOk_by (own := [("_law_many", 7)]) (N := ["_law_text", "_law_size", "_law_other", "_law_due", "_law_least", "_law_fits", "_law_at", "_law_many"]) (sc := defScope s_law_line_right) (by decide +kernel)) (fun _ _ _ _ _ => (pg_name (i := 7) sc_law_line_right.nd rfl (by first | exact Or.inl rfl | exact Or.inr rfl))) (fun _ _ _ _ _ => (pts_one (pt_cmpR op_eq (pe_slice sl_str (pv 0) (po_some (pe_op op_sub (pe_callB call_len_str (by rfl) B.len (by decide +kernel) (pa_cons (pv 0) pa_nil)) (pv 7))) po_none) (pe_slice sl_str (pv 2) po_none (po_some (pv 7))) (nomark _)))) (fun _ _ _ _ _ => (pv 7)))
  (pss_one (ps_ret (pe_and (pe_cmpR op_eq (pe_call Ooverlap (hr.mono (by decide)) rfl moverlap koverlap boverlap .nil pass0 (pa_cons (pv 0) (pa_cons (pv 2) pa_nil))) (pe_callB (cr_max rfl) (by rfl) B.max (by decide +kernel) (pa_cons (pe_op op_cat (pe_lst (pa_cons pe_int pa_nil)) (pv 5)) pa_nil)) (nomark _)) (pe_one (pe_cmpR op_eq (pe_callKK Ooverlap (hr.mono (by decide)) (by rfl) moverlap koverlap kb_overlap_text_next_text pass0 (pk_cons (pv 0) (pk_cons pe_str pk_nil))) pe_int (nomark _)))))))))), ?_⟩
  have la := ha.1
  have lb := hb.1
  refine ⟨_, rfl, _, rfl, T_line (by omega), _, rfl, by omega, by rw [T_len]; omega, fun D nD => ?_⟩
  rw [show (((⟨a.toArray⟩ : Str).length : Nat) : Int).toNat = a.length by rw [T_len]; rfl]
  refine lc_range (lo := 0) (n := a.length) (fun i H' => Same H H' ∧ H' D = some (.lst ((pcsN (tS a) s (min i (a.length + 1 - s))).map V.str))) ⟨same_new nD _, by rw [Nat.zero_min]; exact upd_same⟩ ?_ ?_
  · rintro i H1 hi ⟨hS1, hD1⟩
    rw [Int.zero_add]
    refine ⟨rfl, _, rfl, _, rfl, _, _, rfl, rfl, _, rfl, _, rfl, T_line (by omega), _, _, rfl, rfl, _, rfl, ?_⟩
    by_cases c : i + s ≤ a.length
    · refine iteYes (by rw [T_len]; omega) ?_
      refine ⟨_, rfl, _, rfl, _, rfl, _, rfl, _, rfl, _, _, rfl, rfl, _, rfl, _, rfl, T_line (by omega), _, hD1, ?_, same_upd hS1 nD, ?_⟩
      · rw [List.length_map, pcsN_len]
        exact Nat.lt_of_le_of_lt (by omega : _ ≤ 1000) (by decide)
      · rw [upd_same, show min (i + 1) (a.length + 1 - s) = i + 1 by omega, show min i (a.length + 1 - s) = i by omega, show pcsN (tS a) s (i + 1) = pcsN (tS a) s i ++ [pc (tS a) s i] from rfl, List.map_append]
        rfl
    · refine iteNo (by rw [T_len]; omega) ⟨hS1, ?_⟩
      rw [hD1, show min (i + 1) (a.length + 1 - s) = min i (a.length + 1 - s) by omega]
  rintro H1 ⟨hS1, hD1⟩
  rw [show min a.length (a.length + 1 - s) = a.length + 1 - s by omega] at hD1
  refine ⟨D, pcsN (tS a) s (a.length + 1 - s), rfl, hD1, by rw [pcsN_len]; omega, fun H2 du hS2 ndu hdu => ?_⟩
  refine ⟨_, rfl, _, rfl, tS a, s, rfl, ha.okT, hs1, hs, fun H3 tl hS3 ntl htl => ?_⟩
  rw [pcsT_one, show pcs (tS a) s = pcsN (tS a) s (a.length + 1 - s) by unfold pcs; rw [T_len]] at htl
  have hckt := cnts_ok (pcs_ok (s := s) ha (a.length + 1 - s))
  have same : PyData.eqv (.list ((cnts (pcsN (tS a) s (a.length + 1 - s))).map encSI)) (.list ((cnts (pcsN (tS a) s (a.length + 1 - s))).map encSI)) = true := by rw [eqv_si]; exact decide_eq_true rfl
  refine ⟨_, rfl, _, _, dp_rd htl, dp_rd (hdu.same hS3), shaped_si hckt, shaped_si hckt, _, rfl, iteNb same ?_⟩
  have em : (if (((⟨b.toArray⟩ : Str).length : Nat) : Int) < (((⟨a.toArray⟩ : Str).length : Nat) : Int) then (((⟨b.toArray⟩ : Str).length : Nat) : Int) else (((⟨a.toArray⟩ : Str).length : Nat) : Int)) = ((min a.length b.length : Nat) : Int) := by
    rw [T_len, T_len]
    split <;> omega
  refine ⟨_, rfl, _, rfl, T_line (by omega), _, rfl, _, rfl, T_line (by omega), _, _, rfl, ?_⟩
  rw [em]
  refine ⟨_, rfl, _, _, rfl, ⟨by omega, by omega, by omega, by omega⟩, fun D2 nD2 => ?_⟩
  rw [show (((min a.length b.length : Nat) : Int) - 1).toNat = min a.length b.length - 1 by omega]
  refine lc_range (lo := 1) (n := min a.length b.length - 1) (fun i H' => Same H3 H' ∧ H' D2 = some (.lst (((fits a b i).map fun k : Nat => (k : Int)).map V.int))) ⟨same_new nD2 _, upd_same⟩ ?_ ?_
  · rintro i H4 hi ⟨hS4, hD4⟩
    rw [show (1 : Int) + (i : Int) = ((i + 1 : Nat) : Int) by omega]
    refine ⟨rfl, ?_⟩
    refine ⟨_, rfl, _, rfl, _, rfl, T_line (by omega), _, rfl, _, _, rfl, rfl, ?_⟩
    refine ⟨_, rfl, _, rfl, T_line (by omega), _, rfl, _, rfl, _, rfl, _, rfl, T_line (by omega), rfl, _, rfl, ?_⟩
    have hle : i + 1 ≤ a.length := by omega
    have e1 : (((⟨a.toArray⟩ : Str).length : Nat) : Int) - ((i + 1 : Nat) : Int) = ((a.length - (i + 1) : Nat) : Int) := by rw [T_len]; omega
    rw [e1, cut_from, cut_to]
    have hfl := fits_len a b i
    by_cases c : Fit a b (i + 1)
    · refine iteYes (congrArg V.str (congrArg tS c)) ⟨_, rfl, _, hD4, ?_, same_upd hS4 nD2, ?_⟩
      · rw [List.length_map, List.length_map]
        exact Nat.lt_of_le_of_lt (by omega : _ ≤ 1000) (by decide)
      · rw [upd_same, fits_snoc, if_pos c, List.map_append, List.map_append]
        rfl
    · refine iteNo (fun e => c ?_) ⟨hS4, ?_⟩
      · have e := congrArg (fun v => v.cps.toList) (V.str.inj e)
        show a.drop _ = b.take _
        simpa using e
      · rw [hD4, fits_snoc, if_neg c, List.append_nil]
  rintro H4 ⟨hS4, hD4⟩
  refine ⟨_, rfl, _, rfl, a, b, rfl, ha, hb, fun k hk => ?_⟩
  refine ⟨(by show 1 ≤ sizeLine; decide), fun z nz => ⟨_, rfl, z, D2, _, _, rfl, rfl, upd_same, same_new nz _ _ _ hD4, ?_, fun r nr => ?_⟩⟩
  · have := fits_len a b (min a.length b.length - 1)
    rw [List.length_map, List.length_map]
    exact Nat.le_trans (by show 1 + _ ≤ 1000; omega) (by decide)
  refine ⟨r, (0 :: fits a b (min a.length b.length - 1)).map fun k : Nat => (k : Int), rfl, SqL.of upd_same, by rw [List.length_map, List.length_cons]; omega, fun m hm hle => ?_⟩
  obtain ⟨m, hmm, rfl⟩ := List.mem_map.mp hm
  have hov : IsOv a b m := fits_ov hmm fun j hj => by
    have := hle _ (List.mem_map.mpr ⟨j, hj, rfl⟩)
    omega
  rw [hov.unique hk]
  refine ⟨rfl, _, rfl, iteYes rfl ?_⟩
  have hS : Same H (upd (upd H4 z (.lst [.int 0])) r (.lst ([.int 0] ++ List.map V.int (List.map (fun k : Nat => (k : Int)) (fits a b (min a.length b.length - 1)))))) := fun x o e => same_new nr _ x o (same_new nz _ x o (hS4 _ _ (hS3 _ _ (hS2 _ _ (hS1 _ _ e)))))
  refine ⟨_, rfl, a, [], rfl, ha, ⟨by simp, by simp⟩, fun k hk => ?_⟩
  rw [ov_none hk]
  exact ⟨rfl, bl_true rfl (q _ hS)⟩
end
end My
namespace My
open PySem L2 PyProof.Rows
theorem hu70 {k : Nat} {A : Around} (h : Room k A) : A.units + 70 < cLine := by
  have := h.un
  omega
section
variable {P : Program} {w : World} {K : PySem.W.Frag} {mg : Str → Option Value} {base : Heap}
def GoodG (P : Program) (w : World) (K : PySem.W.Frag) (mg : Str → Option Value) (base : Heap) (x : Str) (st : Stmt) (ps : List Str) (k : Nat) (sp : Sp) : Prop := ∃ (f : Addr) (fd : FuncData), FnG P w K mg base k f fd ps sp ∧ mg x = some (.ref f) ∧ PySem.W.keepIn K (.ref f) = true ∧ Binds K fd ps [] ∧ Fun K x x st f fd
theorem Def.goodG {x : Str} {st : Stmt} {ps : List Str} {k : Nat} {sp : Sp} (D : Def K mg x st ps) (h : ∀ f fd, Fun K x x st f fd → FnG P w K mg base k f fd ps sp) : GoodG P w K mg base x st ps k sp := by
  obtain ⟨f, fd, F, m, b⟩ := D
  exact ⟨f, fd, h f fd F, m, F.kp, b, F⟩
theorem ones_pair {K : PySem.W.Frag} {H : Hp} : ∀ {qs : List Addr} {M : List Str}, Paired (SIAt H) qs (M.map fun x => (x, (1 : Int))) → Paired (fun (p : Addr) (kv : Key × V) => SqT K H p [kV kv.1, kv.2]) qs (M.map fun x => ((Sum.inr x : Key), V.int 1)) := by
  intro qs M hq
  induction M generalizing qs with
  | nil => cases hq; exact .nil
  | cons x r ih =>
    cases hq with
    | cons h t => exact .cons (SqT.of h) (ih t)
theorem ones_told (L : List Str) : mergeK [] (L.map fun x => ((Sum.inr x : Key), V.int 1)) = dT (onesT [] L) := ones_merge L (D := []) (by simp)
theorem ones_keys (L : List Str) : (dT (onesT [] L)).map (fun x => x.fst) = ((onesT [] L).map Prod.fst).map Sum.inr := by
  unfold dT
  rw [List.map_map, List.map_map]
  rfl
theorem ones_small (L : List Str) : ((onesT [] L).map Prod.fst).length ≤ L.length := by
  have := onesT_len L []
  rw [List.length_map]
  simpa using this
theorem ones_sorted {L ys : List Str} (hp : ys.Perm ((onesT [] L).map Prod.fst)) (hs : sortedS ys = true) : ys.Pairwise sLt ∧ ∀ k, k ∈ ys ↔ k ∈ L :=
  ⟨sorted_pw hs ((hp.nodup_iff).mpr (onesT_nodup L (by simp))), fun k => by rw [hp.mem_iff, onesT_mem]; simp⟩
theorem cnts_fst {L ys : List Str} (hM : ys.Pairwise sLt) (hm : ∀ k, k ∈ ys ↔ k ∈ L) : (cnts L).map Prod.fst = ys := by
  have e : cnts L = ys.map fun w => (w, (cntT L w : Int)) := (told_count hM hm).symm
  rw [e, List.map_map]
  exact List.map_id _
theorem cut_one (L : List Str) : cutV (L.map V.str) (some 1) none = (L.drop 1).map V.str := by
  unfold cutV
  rw [show (1 : Int) = ((1 : Nat) : Int) from rfl, HT.sIx_nat, HT.sIx_none]
  cases L with
  | nil => rfl
  | cons x r =>
    rw [List.length_map, List.length_cons, Nat.min_eq_left (by omega), List.take_of_length_le (by rw [List.length_drop, List.length_map, List.length_cons]; omega)]
    rfl
def LotAt (H : Hp) (t : Addr) (e : List Str × V) : Prop := ∃ q, H t = some (.tup [.ref q, e.2]) ∧ (H q = some (.lst (e.1.map V.str)) ∨ (H q = some (.tup (e.1.map V.str)) ∧ e.1 ≠ []))
theorem LotAt.same {H H' : Hp} {t : Addr} {e : List Str × V} (h : LotAt H t e) (s : Same H H') : LotAt H' t e := by
  obtain ⟨q, h1, h2⟩ := h
  exact ⟨q, s _ _ h1, h2.imp (s _ _) (fun z => ⟨s _ _ z.1, z.2⟩)⟩
theorem wd_two {l : List Nat} (h : Wd l) (h2 : l.length ≤ 50) : Wd (l ++ l) := ⟨by have := h.1; rw [List.length_append]; omega, by rw [List.length_append]; omega, fun c hc => h.2.2 c (by rcases List.mem_append.mp hc with z | z <;> exact z)⟩
theorem rps_two {l : List Nat} {s : Nat} (h0 : 0 < l.length) (k : Str) : k ∈ rps (l ++ l) s ↔ k ∈ rps l s := by
  have e : ∀ p, rd (l ++ l) p s = rd l p s := fun p => by
    unfold rd
    refine List.map_congr_left fun k _ => ?_
    rw [List.length_append]
    have hd : (p + k) % (l.length + l.length) % l.length = (p + k) % l.length := Nat.mod_mod_of_dvd _ ⟨2, by omega⟩
    have hlt : (p + k) % (l.length + l.length) < l.length + l.length := Nat.mod_lt _ (by omega)
    rw [← hd]
    generalize (p + k) % (l.length + l.length) = j at hlt
    rw [List.getD_eq_getElem?_getD, List.getD_eq_getElem?_getD]
    by_cases c : j < l.length
    · rw [List.getElem?_append_left c, Nat.mod_eq_of_lt c]
    · rw [List.getElem?_append_right (by omega), Nat.mod_eq_sub_mod (by omega), Nat.mod_eq_of_lt (by omega)]
  unfold rps
  rw [List.length_append]
  constructor
  · intro h
    obtain ⟨p, hp, rfl⟩ := List.mem_map.mp h
    rw [e, ← rd_mod]
    exact List.mem_map.mpr ⟨p % l.length, List.mem_range.mpr (Nat.mod_lt _ h0), rfl⟩
  · intro h
    obtain ⟨p, hp, rfl⟩ := List.mem_map.mp h
    have := List.mem_range.mp hp
    rw [← e]
    exact List.mem_map.mpr ⟨p, List.mem_range.mpr (by omega), rfl⟩
theorem dp_tu {K : PySem.W.Frag} {H : Hp} {p : Addr} {L : List Str} (h : H p = some (.tup (L.map V.str))) : Dp K H (.ref p) (.tuple (L.map PyData.str)) := .tup (SqT.of h) (dp_strs L)
theorem lay_tu {L : List Str} (h : ∀ e ∈ L, OkT e) : PyData.canLay0 (.tuple (L.map PyData.str)) = true := by
  unfold PyData.canLay0
  exact layAll_st h
theorem shaped_tu {L : List Str} (h : ∀ e ∈ L, OkT e) : SeqAt.shaped (.tuple (L.map PyData.str)) = true := by
  unfold SeqAt.shaped
  have h2 : PyData.depth (.tuple (L.map PyData.str)) = 1 := by
    unfold PyData.depth
    rw [depthAll_st]
  rw [lay_tu h, h2]
  rfl
def LotOk (own : List Str) (s : Nat) (e : List Str × V) : Prop := (∀ x ∈ e.1, OkT x ∧ x.length = s) ∧ e.1.length ≤ 21 ∧ (e.2 = V.non ∨ (e.2 = .bl true ∧ ∀ k, k ∈ own ↔ k ∈ e.1))
theorem lot_at {H : Hp} : ∀ {ts : List Addr} {E : List (List Str × V)} {i : Nat} {t : Addr}, Paired (LotAt H) ts E → ts[i]? = some t → ∃ e, E[i]? = some e ∧ LotAt H t e
  | _, _, _, _, .nil, h => by simp at h
  | _, _, 0, _, .cons r _, h => ⟨_, rfl, by simp at h; rw [← h]; exact r⟩
  | _, _, i + 1, _, .cons _ t, h => lot_at (i := i) t (by simpa using h)
def sp_law_explains_right (_ : PySem.W.Frag) : Sp := fun vs H Q _ => ∃ a : Addr, ∃ l, ∃ s : Nat, vs = [.ref a, T l, .int (s : Int)] ∧ PotAt H a ∧ Wd l ∧ l.length ≤ 20 ∧ 2 ≤ s ∧ s ≤ 8 ∧ ∀ H', Kept a H H' → PotAt H' a → Q (.bl true) H'
theorem ok_law_explains_right (D : Def K mg "_law_explains_right" s_law_explains_right ["_law_pot_here", "_law_ring_here", "_law_size"]) (B : Bs mg) (Glb : Glo mg)
    (h_law_round : Good P w K mg base "_law_round" s_law_round ["_law_ring_here", "_law_place", "_law_many"] 1 (sp_law_round K))
    (h_law_pick : Good P w K mg base "_law_pick" s_law_pick ["_law_pot_here", "_law_some"] 2 (sp_law_pick K))
    (hring_pieces : Good P w K mg base "ring_pieces" sring_pieces ["ring", "size"] 5 (spring_pieces K))
    (hhas_just : Good P w K mg base "has_just" shas_just ["ring", "pieces"] 6 (sphas_just K))
    (hturned : Good P w K mg base "turned" sturned ["ring", "by"] 5 (spturned K)) :
    GoodG P w K mg base "_law_explains_right" s_law_explains_right ["_law_pot_here", "_law_ring_here", "_law_size"] 7 (sp_law_explains_right K) := by
  refine D.goodG fun f fd F => ?_
  obtain ⟨f_law_round, d_law_round, O_law_round, m_law_round, k_law_round, b_law_round, F_law_round⟩ := h_law_round
  obtain ⟨f_law_pick, d_law_pick, O_law_pick, m_law_pick, k_law_pick, b_law_pick, F_law_pick⟩ := h_law_pick
  obtain ⟨fring_pieces, dring_pieces, Oring_pieces, mring_pieces, kring_pieces, bring_pieces, Fring_pieces⟩ := hring_pieces
  obtain ⟨fhas_just, dhas_just, Ohas_just, mhas_just, khas_just, bhas_just, Fhas_just⟩ := hhas_just
  obtain ⟨fturned, dturned, Oturned, mturned, kturned, bturned, Fturned⟩ := hturned
  have kb_has_just_ring_pieces : KBinds K dhas_just ["ring", "pieces"] ["ring", "pieces"] g12 g12 := fun_kbinds Fhas_just g12 g12 rel12 (fun _ _ _ _ _ _ us ws hl => by
    obtain ⟨rfl, a0, a1, rfl⟩ := g12_inv hl
    rfl)
  refine FnG.ofBody F sc_law_explains_right (fun vs H Q E h => ?_) (fun cdv A outer s H vs Q E hr quiet h => ?_)
  · obtain ⟨a, l, s, rfl, hp, hwl, hl20, hs1, hs, q⟩ := h
    first | rfl | (rcases h with ⟨_, _, rfl, _⟩ | ⟨_, rfl, _⟩ <;> rfl)
  obtain ⟨a, l, s, rfl, hp, hwl, hl20, hs1, hs, q⟩ := h
  have hur := hu70 hr
  refine ⟨_, (pss_cons (ps_setLc (i := 3) (own := [("_law_piece", 10), ("_law_many", 11)]) (g := gTup K 2 (gCons (gName 10) (gCons (gName 11) gNil))) (by rfl) sc_law_explains_right.nd rfl rfl (sw_true rfl rfl rfl (by decide +kernel)) (pi_list (pe_call Oring_pieces (hr.mono (by decide)) rfl mring_pieces kring_pieces bring_pieces .nil pass0 (pa_cons (pv 1) (pa_cons (pv 2) pa_nil)))) (blkOk_by (own := [("_law_piece", 10), ("_law_many", 11)]) (N := ["_law_pot_here", "_law_ring_here", "_law_size", "_law_pieces", "_law_own", "_law_more", "_law_lots", "_law_lot", "_law_due", "_law_other", "_law_piece", "_law_many", "_law_place", "_law_one"]) (sc := defScope s_law_explains_right) (by decide +kernel)) (fun _ _ _ _ _ => (pg_tup rfl (pgs_cons (pg_name (i := 10) sc_law_explains_right.nd rfl (by first | exact Or.inl rfl | exact Or.inr rfl)) (pgs_cons (pg_name (i := 11) sc_law_explains_right.nd rfl (by first | exact Or.inl rfl | exact Or.inr rfl)) pgs_nil)))) (fun _ _ _ _ _ => pts_nil) (fun _ _ _ _ _ => (pv 10)))
  (pss_cons (ps_set (i := 4) sc_law_explains_right.nd rfl (by first | exact Or.inl rfl | exact Or.inr rfl) (pe_callB (call_sortedD rfl) (by rfl) B.sorted (by decide +kernel) (pa_cons (pe_callTy (call_dictP rfl) (by rfl) B.dict (by decide +kernel) (pa_cons (pe_lc (own := [("_law_place", 12)]) (g := gName 12) (by rfl) sc_law_explains_right.nd (pi_range1 (by rfl) B.range (pa_cons (pe_callB call_len_str (by rfl) B.len (by decide +kernel) (pa_cons (pv 1) pa_nil)) pa_nil)) (blkOk_by (own := [("_law_place", 12)]) (N := ["_law_pot_here", "_law_ring_here", "_law_size", "_law_pieces", "_law_own", "_law_more", "_law_lots", "_law_lot", "_law_due", "_law_other", "_law_piece", "_law_many", "_law_place", "_law_one"]) (sc := defScope s_law_explains_right) (by decide +kernel)) (fun _ _ _ _ _ => (pg_name (i := 12) sc_law_explains_right.nd rfl (by first | exact Or.inl rfl | exact Or.inr rfl))) (fun _ _ _ _ _ => pts_nil) (fun _ _ _ _ _ => (pe_tup (pa_cons (pe_call O_law_round (hr.mono (by decide)) rfl m_law_round k_law_round b_law_round .nil pass0 (pa_cons (pv 1) (pa_cons (pv 12) (pa_cons (pv 2) pa_nil)))) (pa_cons pe_int pa_nil))))) pa_nil)) pa_nil)))
  (pss_cons (ps_if (pt_cmpR (op_neD hr.units) (pv 3) (pv 4) (nomark _))
    (pss_one (ps_ret pe_bl)) pss_nil)
  (pss_cons (ps_set (i := 5) sc_law_explains_right.nd rfl (by first | exact Or.inl rfl | exact Or.inr rfl) (pe_call O_law_round (hr.mono (by decide)) rfl m_law_round k_law_round b_law_round .nil pass0 (pa_cons (pe_call O_law_pick (hr.mono (by decide)) rfl m_law_pick k_law_pick b_law_pick .nil pass0 (pa_cons (pv 0) (pa_cons (pe_lst (pa_cons pe_str (pa_cons pe_str (pa_cons pe_str (pa_cons pe_str pa_nil))))) pa_nil))) (pa_cons pe_int (pa_cons (pv 2) pa_nil)))))
  (pss_cons (ps_set (i := 6) sc_law_explains_right.nd rfl (by first | exact Or.inl rfl | exact Or.inr rfl) (pe_lst (pa_cons (pe_tup (pa_cons (pe_revL (pv 4)) (pa_cons pe_bl pa_nil))) (pa_cons (pe_tup (pa_cons (pe_callTy call_tuple_of (by rfl) B.tuple (by decide +kernel) (pa_cons (pv 4) pa_nil)) (pa_cons pe_bl pa_nil))) (pa_cons (pe_tup (pa_cons (pe_op op_cat (pv 4) (pe_lst (pa_cons (pv 5) pa_nil))) (pa_cons pe_non pa_nil))) (pa_cons (pe_tup (pa_cons (pe_slice sl_list (pv 4) (po_some pe_int) po_none) (pa_cons pe_non pa_nil))) (pa_cons (pe_tup (pa_cons (pe_lst (pa_cons (pv 5) pa_nil)) (pa_cons pe_non pa_nil))) pa_nil)))))))
  (pss_cons (ps_for PassesOwn.never rfl (pi_list (pv 6)) (pg_tup rfl (pgs_cons (pg_name (i := 7) sc_law_explains_right.nd rfl (by first | exact Or.inl rfl | exact Or.inr rfl)) (pgs_cons (pg_name (i := 8) sc_law_explains_right.nd rfl (by first | exact Or.inl rfl | exact Or.inr rfl)) pgs_nil)))
    (pss_cons (ps_if (pt_cmpR op_isN (pv 8) pe_non (nomark _))
    (pss_one (ps_set (i := 8) sc_law_explains_right.nd rfl (by first | exact Or.inl rfl | exact Or.inr rfl) (pe_cmpR (op_eqD hr.units) (pe_callB (cr_sortSq hr.units) (by rfl) B.sorted (by decide +kernel) (pa_cons (pv 7) pa_nil)) (pv 4) (nomark _)))) pss_nil)
  (pss_one (ps_if (PW.pt (pw_and (pt_cmpR (op_neD hr.units) (pv 7) (pe_lst pa_nil) (nomark _)) (pw_and1 (pt_cmpR (op_eqD hr.units) (pe_callB (call_sortedD rfl) (by rfl) B.sorted (by decide +kernel) (pa_cons (pe_callTy (call_dictP rfl) (by rfl) B.dict (by decide +kernel) (pa_cons (pe_lc (own := [("_law_one", 13)]) (g := gName 13) (by rfl) sc_law_explains_right.nd (pi_or (pi_list (pv 7)) (pi_tup (pv 7))) (blkOk_by (own := [("_law_one", 13)]) (N := ["_law_pot_here", "_law_ring_here", "_law_size", "_law_pieces", "_law_own", "_law_more", "_law_lots", "_law_lot", "_law_due", "_law_other", "_law_piece", "_law_many", "_law_place", "_law_one"]) (sc := defScope s_law_explains_right) (by decide +kernel)) (fun _ _ _ _ _ => (pg_name (i := 13) sc_law_explains_right.nd rfl (by first | exact Or.inl rfl | exact Or.inr rfl))) (fun _ _ _ _ _ => pts_nil) (fun _ _ _ _ _ => (pe_tup (pa_cons (pv 13) (pa_cons pe_int pa_nil))))) pa_nil)) pa_nil)) (pe_callB (cr_sortSq hr.units) (by rfl) B.sorted (by decide +kernel) (pa_cons (pv 7) pa_nil)) (nomark _)))))
    (pss_one (ps_if (pt_cmpR op_ne (pe_callB call_repr_bl (by rfl) B.repr (by decide +kernel) (pa_cons (pe_call Ohas_just hr rfl mhas_just khas_just bhas_just .nil pass0 (pa_cons (pv 1) (pa_cons (pv 7) pa_nil))) pa_nil)) (pe_callB call_repr_bl (by rfl) B.repr (by decide +kernel) (pa_cons (pv 8) pa_nil)) (nomark _))
    (pss_one (ps_ret pe_bl)) pss_nil)) pss_nil))))
  (pss_cons (ps_set (i := 9) sc_law_explains_right.nd rfl (by first | exact Or.inl rfl | exact Or.inr rfl) (pe_op op_add_str (pv 1) (pv 1)))
  (pss_one (ps_ret (pe_and (pe_cmpR op_isBl (pe_call Ohas_just hr rfl mhas_just khas_just bhas_just .nil pass0 (pa_cons (pv 9) (pa_cons (pv 4) pa_nil))) pe_bl (nomark _)) (pe_one (pe_cmpR op_isBl (pe_callKK Ohas_just hr (by rfl) mhas_just khas_just kb_has_just_ring_pieces pass0 (pk_cons (pe_call Oturned (hr.mono (by decide)) rfl mturned kturned bturned .nil pass0 (pa_cons (pv 1) (pa_cons pe_int pa_nil))) (pk_cons (pv 4) pk_nil))) pe_bl (nomark _))))))))))))), ?_⟩
  have hl2 := hwl.2.1
  have h0 := hwl.1
  have hok : ∀ x ∈ rps l s, OkT x := fun x hx => (rps_okT hwl (by omega : 0 < s) hs x hx).1
  have hcl := cnts_len (rps l s)
  rw [rps_len] at hcl
  refine ⟨_, rfl, _, rfl, l, s, rfl, hwl, hs1, hs, fun H1 tl hS1 ntl htl => ?_⟩
  rw [told_ring 0 h0 (by omega)] at htl
  obtain ⟨ts, g1, g2⟩ := id htl
  refine ⟨tl, rfl, ⟨_, SqL.of g1⟩, fun D nD => ?_⟩
  refine lc_list (K := K) (a := tl) (xs := ts.map V.ref) (fun i H' => Same H1 H' ∧ H' D = some (.lst ((((cnts (rps l s)).take i).map Prod.fst).map V.str))) ⟨same_new nD _, upd_same⟩ (fun i H' _ ⟨hS', _⟩ => SqL.of (hS' _ _ g1)) ?_ ?_
  · rintro i v H2 hv ⟨hS2, hD2⟩
    obtain ⟨p, e, rfl, he, hpe⟩ := si_at g2 hv
    have hp2 : H2 p = some (.tup [.str e.1, .int e.2]) := hS2 _ _ hpe
    have hi := (List.getElem?_eq_some_iff.mp he).1
    refine ⟨p, _, rfl, SqT.of hp2, rfl, _, _, rfl, _, _, rfl, rfl, rfl, _, rfl, _, hD2, ?_, same_upd hS2 nD, ?_⟩
    · rw [List.length_map, List.length_map]
      exact Nat.lt_of_le_of_lt (List.length_take_le _ _) (Nat.lt_of_lt_of_le (by omega : i < 1000) (by decide))
    · rw [upd_same, take_snoc he, List.map_append, List.map_append]
      rfl
  rintro H2 ⟨hS2, hD2⟩
  rw [List.length_map, paired_len g2, List.take_length] at hD2
  refine ⟨_, rfl, _, rfl, T_line (by omega), _, rfl, by omega, by rw [T_len]; omega, fun D2 nD2 => ?_⟩
  rw [show (((⟨l.toArray⟩ : Str).length : Nat) : Int).toNat = l.length by rw [T_len]; rfl]
  refine lc_range (lo := 0) (n := l.length) (fun i H' => Same H2 H' ∧ RdAt H' D2 (((List.range i).map fun p => tS (rd l p s)).map fun x => (x, (1 : Int)))) ⟨same_new nD2 _, ⟨[], upd_same, .nil⟩⟩ ?_ ?_
  · rintro i H3 hi ⟨hS3, hR3⟩
    rw [Int.zero_add]
    refine ⟨rfl, _, rfl, _, rfl, _, rfl, l, i, s, rfl, hwl, by omega, (by show 2 ≤ sizeLine; decide), fun tp ntp => ?_⟩
    obtain ⟨xs, k1, k2, k3⟩ := hR3.push (x := tS (rd l i s)) (n := 1) ntp
    refine ⟨xs, k1, ?_, same_upd (fun b o e => same_new ntp _ _ _ (hS3 _ _ e)) nD2, ?_⟩
    · rw [k2, List.length_map, List.length_map, List.length_range]
      exact Nat.lt_of_lt_of_le (by omega : i < 1000) (by decide)
    · rw [List.range_succ, List.map_append, List.map_append]
      exact k3
  rintro H3 ⟨hS3, hR3⟩
  obtain ⟨qs, j1, j2⟩ := hR3
  refine ⟨D2, qs, (rps l s).map fun x => ((Sum.inr x : Key), V.int 1), rfl, SqL.of j1, ones_pair j2, fun dp ndp => ?_⟩
  rw [ones_told]
  have hsm := ones_small (rps l s)
  rw [rps_len] at hsm
  refine ⟨dp, _, (onesT [] (rps l s)).map Prod.fst, rfl, .inl upd_same, ones_keys _, by omega, fun own op hperm hsort nop => ?_⟩
  obtain ⟨hpw, hmem⟩ := ones_sorted hperm hsort
  have hne : own ≠ [] := fun z => by
    have : tS (rd l 0 s) ∈ own := (hmem _).mpr (List.mem_map.mpr ⟨0, List.mem_range.mpr h0, rfl⟩)
    rw [z] at this
    cases this
  have hol : own.length ≤ 20 := by rw [hperm.length_eq]; omega
  have hS4 : Same H2 (upd (upd H3 dp (.dK (dT (onesT [] (rps l s))))) op (.lst (own.map V.str))) := fun b o e => same_new nop _ _ _ (same_new ndp _ _ _ (hS3 _ _ e))
  have ho4 : (upd (upd H3 dp (.dK (dT (onesT [] (rps l s))))) op (.lst (own.map V.str))) op = some (.lst (own.map V.str)) := upd_same
  have hoa : op ≠ a := fun z => by
    obtain ⟨x, y, hx, _⟩ := hp
    have := same_new ndp (.dK (dT (onesT [] (rps l s)))) _ _ (hS3 _ _ (hS2 _ _ (hS1 _ _ hx)))
    rw [← z, nop] at this
    cases this
  generalize upd (upd H3 dp (.dK (dT (onesT [] (rps l s))))) op (.lst (own.map V.str)) = H4 at hS4 ho4
  have okO : ∀ e ∈ own, OkT e := fun e he => hok e ((hmem e).mp he)
  rw [cnts_fst hpw hmem] at hD2
  refine ⟨_, rfl, _, rfl, _, _, dp_ls (hS4 _ _ hD2), dp_ls ho4, shaped_st okO, shaped_st okO, _, rfl, iteNb (by rw [eqv_s]; exact decide_eq_true rfl) ?_⟩
  have hS04 : Same H H4 := fun b o e => hS4 _ _ (hS2 _ _ (hS1 _ _ e))
  have hp4 : PotAt H4 a := by
    obtain ⟨x, y, hx, hy⟩ := hp
    exact ⟨x, y, hS04 _ _ hx, hy⟩
  refine ⟨_, rfl, (by show 4 ≤ sizeLine; decide), fun ll nll => ⟨a, .inl ⟨ll, _, rfl, upd_same, ?_, by decide, by decide, ?_, fun v H5 hv hk5 hp5 => ?_⟩⟩⟩
  · rintro rfl
    obtain ⟨x, y, hx, _⟩ := hp4
    rw [nll] at hx
    cases hx
  · obtain ⟨x, y, hx, hy⟩ := hp4
    exact ⟨x, y, same_new nll _ _ _ hx, hy⟩
  obtain ⟨m, rfl, hwm, hml⟩ : ∃ m, v = T m ∧ Wd m ∧ m.length ≤ 3 := by
    have w1 : ∀ m : List Nat, 0 < m.length → m.length ≤ 3 → (∀ c ∈ m, 97 ≤ c ∧ c ≤ 122) → Wd m := fun m h1 h2 h3 => ⟨h1, by omega, h3⟩
    simp only [List.mem_cons, List.not_mem_nil, or_false] at hv
    rcases hv with rfl | rfl | rfl | rfl
    · exact ⟨[97, 98], rfl, w1 _ (by decide) (by decide) (by decide), by decide⟩
    · exact ⟨[97, 98, 99], rfl, w1 _ (by decide) (by decide) (by decide), by decide⟩
    · exact ⟨[122], rfl, w1 _ (by decide) (by decide) (by decide), by decide⟩
    · exact ⟨[98, 97], rfl, w1 _ (by decide) (by decide) (by decide), by decide⟩
  refine ⟨_, rfl, m, 0, s, rfl, hwm, by omega, ?_⟩
  have hwx := rd_wd hwm 0 s (by omega) (by omega)
  have hxl : (tS (rd m 0 s)).length = s := by rw [T_len, rd_len]
  have ho5 : H5 op = some (.lst (own.map V.str)) := hk5 _ _ (same_new nll _ _ _ ho4) hoa
  have hK5 : Kept a H H5 := fun b o e n => hk5 _ _ (same_new nll _ _ _ (hS04 _ _ e)) n
  refine ⟨_, rfl, op, _, rfl, SqL.of ho5, fun p1 np1 => ⟨(by show 2 ≤ sizeLine; decide), fun t1 nt1 => ?_⟩⟩
  have hS6 : Same H5 (upd (upd H5 p1 (.lst (own.map V.str).reverse)) t1 (.tup [.ref p1, .bl true])) := fun b o e => same_new nt1 _ _ _ (same_new np1 _ _ _ e)
  have ht1 : LotAt (upd (upd H5 p1 (.lst (own.map V.str).reverse)) t1 (.tup [.ref p1, .bl true])) t1 (own.reverse, .bl true) := ⟨p1, upd_same, .inl (same_new nt1 _ _ _ (by rw [upd_same, List.map_reverse]))⟩
  generalize upd (upd H5 p1 (.lst (own.map V.str).reverse)) t1 (.tup [.ref p1, .bl true]) = H6 at hS6 ht1
  have ho6 := hS6 _ _ ho5
  refine ⟨_, rfl, op, _, rfl, .inl ⟨SqL.of ho6, fun p2 np2 => ⟨(by show 2 ≤ sizeLine; decide), fun t2 nt2 => ?_⟩⟩⟩
  have hS7 : Same H6 (upd (upd H6 p2 (.tup (own.map V.str))) t2 (.tup [.ref p2, .bl true])) := fun b o e => same_new nt2 _ _ _ (same_new np2 _ _ _ e)
  have ht2 : LotAt (upd (upd H6 p2 (.tup (own.map V.str))) t2 (.tup [.ref p2, .bl true])) t2 (own, .bl true) := ⟨p2, upd_same, .inr ⟨same_new nt2 _ _ _ upd_same, hne⟩⟩
  generalize upd (upd H6 p2 (.tup (own.map V.str))) t2 (.tup [.ref p2, .bl true]) = H7 at hS7 ht2
  have ho7 := hS7 _ _ ho6
  refine ⟨_, rfl, _, rfl, (by show 1 ≤ sizeLine; decide), fun z3 nz3 => ⟨op, z3, _, _, rfl, rfl, same_new nz3 _ _ _ ho7, upd_same, ?_, fun p3 np3 => ⟨(by show 2 ≤ sizeLine; decide), fun t3 nt3 => ?_⟩⟩⟩
  · rw [List.length_map]
    exact Nat.le_trans (by show own.length + 1 ≤ 1000; omega) (by decide)
  have hS8 : Same H7 (upd (upd (upd H7 z3 (.lst [T (rd m 0 s)])) p3 (.lst (own.map V.str ++ [T (rd m 0 s)]))) t3 (.tup [.ref p3, .non])) := fun b o e => same_new nt3 _ _ _ (same_new np3 _ _ _ (same_new nz3 _ _ _ e))
  have ht3 : LotAt (upd (upd (upd H7 z3 (.lst [T (rd m 0 s)])) p3 (.lst (own.map V.str ++ [T (rd m 0 s)]))) t3 (.tup [.ref p3, .non])) t3 (own ++ [tS (rd m 0 s)], .non) := ⟨p3, upd_same, .inl (same_new nt3 _ _ _ (by rw [upd_same, List.map_append]; rfl))⟩
  generalize upd (upd (upd H7 z3 (.lst [T (rd m 0 s)])) p3 (.lst (own.map V.str ++ [T (rd m 0 s)]))) t3 (.tup [.ref p3, .non]) = H8 at hS8 ht3
  have ho8 := hS8 _ _ ho7
  refine ⟨_, rfl, _, rfl, op, _, rfl, SqL.of ho8, fun p4 np4 => ⟨(by show 2 ≤ sizeLine; decide), fun t4 nt4 => ?_⟩⟩
  rw [show cutV (own.map V.str) (some 1) none = (own.drop 1).map V.str from cut_one own] at nt4 ⊢
  have hS9 : Same H8 (upd (upd H8 p4 (.lst ((own.drop 1).map V.str))) t4 (.tup [.ref p4, .non])) := fun b o e => same_new nt4 _ _ _ (same_new np4 _ _ _ e)
  have ht4 : LotAt (upd (upd H8 p4 (.lst ((own.drop 1).map V.str))) t4 (.tup [.ref p4, .non])) t4 (own.drop 1, .non) := ⟨p4, upd_same, .inl (same_new nt4 _ _ _ upd_same)⟩
  generalize upd (upd H8 p4 (.lst ((own.drop 1).map V.str))) t4 (.tup [.ref p4, .non]) = H9 at hS9 ht4
  refine ⟨_, rfl, (by show 1 ≤ sizeLine; decide), fun p5 np5 => ⟨(by show 2 ≤ sizeLine; decide), fun t5 nt5 => ?_⟩⟩
  have hSA : Same H9 (upd (upd H9 p5 (.lst [T (rd m 0 s)])) t5 (.tup [.ref p5, .non])) := fun b o e => same_new nt5 _ _ _ (same_new np5 _ _ _ e)
  have ht5 : LotAt (upd (upd H9 p5 (.lst [T (rd m 0 s)])) t5 (.tup [.ref p5, .non])) t5 ([tS (rd m 0 s)], .non) := ⟨p5, upd_same, .inl (same_new nt5 _ _ _ upd_same)⟩
  generalize upd (upd H9 p5 (.lst [T (rd m 0 s)])) t5 (.tup [.ref p5, .non]) = HA at hSA ht5
  refine ⟨(by show 5 ≤ sizeLine; decide), fun LL nLL => ?_⟩
  have hSB := same_new nLL (.lst [.ref t1, .ref t2, .ref t3, .ref t4, .ref t5])
  have hLL : upd HA LL (.lst [.ref t1, .ref t2, .ref t3, .ref t4, .ref t5]) LL = some (.lst ([t1, t2, t3, t4, t5].map V.ref)) := upd_same
  have hlots : Paired (LotAt (upd HA LL (.lst [.ref t1, .ref t2, .ref t3, .ref t4, .ref t5]))) [t1, t2, t3, t4, t5] [(own.reverse, .bl true), (own, .bl true), (own ++ [tS (rd m 0 s)], .non), (own.drop 1, .non), ([tS (rd m 0 s)], .non)] :=
    .cons (((((ht1.same hS7).same hS8).same hS9).same hSA).same hSB) (.cons ((((ht2.same hS8).same hS9).same hSA).same hSB) (.cons (((ht3.same hS9).same hSA).same hSB) (.cons ((ht4.same hSA).same hSB) (.cons (ht5.same hSB) .nil))))
  have hoB := hSB _ _ (hSA _ _ (hS9 _ _ ho8))
  have hS5B : Same H5 (upd HA LL (.lst [.ref t1, .ref t2, .ref t3, .ref t4, .ref t5])) := fun b o e => hSB _ _ (hSA _ _ (hS9 _ _ (hS8 _ _ (hS7 _ _ (hS6 _ _ e)))))
  generalize upd HA LL (.lst [.ref t1, .ref t2, .ref t3, .ref t4, .ref t5]) = HB at hLL hlots hoB hS5B
  have hKB : Kept a H HB := fun b o e n => hS5B _ _ (hK5 _ _ e n)
  have hpB : PotAt HB a := by
    obtain ⟨x, y, hx, hy⟩ := hp5
    exact ⟨x, y, hS5B _ _ hx, hy⟩
  have hcn : own.Nodup := (hperm.nodup_iff).mpr (onesT_nodup (rps l s) (by simp))
  have hXo : OkT (tS (rd m 0 s)) ∧ (tS (rd m 0 s)).length = s := ⟨hwx.okT, hxl⟩
  have hoo : ∀ x ∈ own, OkT x ∧ x.length = s := fun x hx => rps_okT hwl (by omega : 0 < s) hs x ((hmem x).mp hx)
  have hgood : ∀ e ∈ [(own.reverse, V.bl true), (own, .bl true), (own ++ [tS (rd m 0 s)], .non), (own.drop 1, .non), ([tS (rd m 0 s)], .non)], LotOk own s e := by
    intro e he
    simp only [List.mem_cons, List.not_mem_nil, or_false] at he
    rcases he with rfl | rfl | rfl | rfl | rfl
    · exact ⟨fun x hx => hoo x (List.mem_reverse.mp hx), by show own.reverse.length ≤ 21; rw [List.length_reverse]; omega, .inr ⟨rfl, fun k => List.mem_reverse.symm⟩⟩
    · exact ⟨hoo, by show own.length ≤ 21; omega, .inr ⟨rfl, fun k => Iff.rfl⟩⟩
    · refine ⟨fun x hx => ?_, by show (own ++ [_]).length ≤ 21; rw [List.length_append]; show own.length + 1 ≤ 21; omega, .inl rfl⟩
      rcases List.mem_append.mp hx with h | h
      · exact hoo x h
      · rw [List.mem_singleton.mp h]; exact hXo
    · exact ⟨fun x hx => hoo x (List.mem_of_mem_drop hx), by show (own.drop 1).length ≤ 21; rw [List.length_drop]; omega, .inl rfl⟩
    · exact ⟨fun x hx => by rw [List.mem_singleton.mp hx]; exact hXo, by show 1 ≤ 21; decide, .inl rfl⟩
  generalize hE : [(own.reverse, V.bl true), (own, .bl true), (own ++ [tS (rd m 0 s)], .non), (own.drop 1, .non), ([tS (rd m 0 s)], .non)] = E5 at hlots hgood
  generalize hT : [t1, t2, t3, t4, t5] = T5 at hLL hlots
  refine ⟨_, rfl, LL, rfl, ⟨_, SqL.of hLL⟩, ?_⟩
  refine for_list (K := K) (a := LL) (xs := T5.map V.ref) (fun i σ H' => ∃ v7 v8 : Option V, σ = [some (.ref a), some (T l), some (.int (s : Int)), some (.ref D), some (.ref op), some (T (rd m 0 s)), some (.ref LL), v7, v8, none, none, none, none, none] ∧ Same HB H') ⟨none, none, rfl, fun b o e => e⟩ (fun i σ H' _ ⟨_, _, _, hS'⟩ => SqL.of (hS' _ _ hLL)) ?_ ?_
  · rintro i v σ HC hv ⟨v7, v8, rfl, hSC⟩
    obtain ⟨t, rfl, hvt⟩ : ∃ t, v = .ref t ∧ T5[i]? = some t := by
      obtain ⟨t, h1, h2⟩ := ref_at hv
      exact ⟨t, h2, h1⟩
    obtain ⟨⟨L, d⟩, he, hte⟩ := lot_at hlots hvt
    obtain ⟨x1, x2, x3⟩ := hgood _ (List.mem_of_getElem? he)
    obtain ⟨q7, y1, y2⟩ := hte
    have up : ∀ {H' : Hp}, Same HB H' → SqS H' q7 L := fun hs => y2.imp (hs _ _) (fun z => hs _ _ z.1)
    refine ⟨t, _, rfl, SqT.of (hSC _ _ y1), rfl, _, _, rfl, _, _, rfl, rfl, ?_⟩
    suffices fin : ∀ (b : Bool) (H' : Hp), Same HB H' → (L.Nodup → (b = true ↔ ∀ k, k ∈ own ↔ k ∈ L)) → _ by
      rcases id x3 with x3 | ⟨x3, x4⟩
      · refine ⟨_, rfl, rfl, _, rfl, iteYes x3 ?_⟩
        have okL : ∀ e ∈ L.mergeSort leS, OkT e := fun e he => (x1 e ((List.mergeSort_perm _ _).mem_iff.mp he)).1
        refine ⟨_, rfl, q7, L, rfl, (up hSC).imp SqL.of SqT.of, Nat.le_trans x2 (by decide), fun ps nps => ⟨_, rfl, _, _, dp_ls upd_same, dp_ls (same_new nps _ _ _ (hSC _ _ hoB)), shaped_st okL, shaped_st okO, ?_⟩⟩
        have hb1 : L.Nodup → (PyData.eqv (.list ((L.mergeSort leS).map PyData.str)) (.list (own.map PyData.str)) = true ↔ ∀ k, k ∈ own ↔ k ∈ L) := fun hn => by
          rw [eqv_s, decide_eq_true_iff, eq_comm, sorted_same hpw hn]
        generalize PyData.eqv (.list ((L.mergeSort leS).map PyData.str)) (.list (own.map PyData.str)) = b at hb1 ⊢
        have hS1 : Same HB (upd HC ps (.lst ((L.mergeSort leS).map V.str))) := fun b o e => same_new nps _ _ _ (hSC _ _ e)
        generalize upd HC ps (.lst ((L.mergeSort leS).map V.str)) = H' at hS1 ⊢
        exact fin b H' hS1 hb1
      · have x3' : d = V.bl true := x3
        subst x3'
        refine ⟨_, rfl, rfl, _, rfl, iteNo (by simp) ?_⟩
        exact fin true HC hSC (fun _ => ⟨fun _ => x4, fun _ => rfl⟩)
    intro b HD hSD hb
    have okL0 : ∀ e ∈ L, OkT e := fun e he => (x1 e he).1
    refine ⟨_, rfl, Nat.zero_le _, fun p0 np0 => ?_⟩
    have hSE : ∀ o, Same HB (upd HD p0 o) := fun o b u e => same_new np0 _ _ _ (hSD _ _ e)
    suffices go : ∀ HE : Hp, Same HB HE → L ≠ [] → _ by
      have hz : upd HD p0 (.lst []) p0 = some (.lst (([] : List Str).map V.str)) := upd_same
      rcases id y2 with z | ⟨z, zn⟩
      · refine ⟨_, _, dp_ls (hSE _ _ _ z), dp_ls hz, shaped_st okL0, shaped_st (L := []) (fun e he => by cases he), _, rfl, ?_⟩
        have hq := hSE (.lst [])
        generalize upd HD p0 (.lst []) = HE at hq hz
        rw [eqv_s]
        by_cases c : L = []
        · trace_state
          exact iteNot' c ⟨_, _, rfl, hq⟩
        · exact iteNot c (go HE hq c)
      · refine ⟨_, _, dp_tu (hSE _ _ _ z), dp_ls hz, shaped_tu okL0, shaped_st (L := []) (fun e he => by cases he), _, rfl, ?_⟩
        have hq := hSE (.lst [])
        generalize upd HD p0 (.lst []) = HE at hq hz
        exact go HE hq zn
    intro HE hSE hL
    have hone : ∀ {HF : Hp} {Dx : Addr} {i : Nat} {x : Str}, L[i]? = some x → RdAt HF Dx ((L.take i).map fun x => (x, (1 : Int))) → ∀ {tp : Addr}, HF tp = none → ∃ xs, upd HF tp (.tup [.str x, .int 1]) Dx = some (.lst xs) ∧ xs.length < sizeLine ∧ RdAt (upd (upd HF tp (.tup [.str x, .int 1])) Dx (.lst (xs ++ [.ref tp]))) Dx ((L.take (i + 1)).map fun x => (x, (1 : Int))) := by
      intro HF Dx i x hx hR tp ntp
      have hi := (List.getElem?_eq_some_iff.mp hx).1
      obtain ⟨xs, k1, k2, k3⟩ := hR.push (x := x) (n := 1) ntp
      refine ⟨xs, k1, ?_, ?_⟩
      · rw [k2, List.length_map, List.length_take]
        exact Nat.lt_of_le_of_lt (Nat.min_le_left _ _) (Nat.lt_of_lt_of_le (by have := x2; simp only at this; omega : i < 1000) (by decide))
      · rw [take_snoc hx, List.map_append]
        exact k3
    suffices go2 : ∀ (HF : Hp) (Dx : Addr), Same HE HF → RdAt HF Dx (L.map fun x => (x, (1 : Int))) → _ by
      rcases id y2 with z | ⟨z, zn⟩
      · have hz := hSE _ _ z
        refine .inl ⟨_, rfl, q7, rfl, ⟨_, SqL.of hz⟩, fun Dx nDx => ?_⟩
        refine lc_list (K := K) (a := q7) (xs := L.map V.str) (fun i H' => Same HE H' ∧ RdAt H' Dx ((L.take i).map fun x => (x, (1 : Int)))) ⟨same_new nDx _, ⟨[], upd_same, .nil⟩⟩ (fun i H' _ ⟨hS', _⟩ => SqL.of (hS' _ _ hz)) ?_ ?_
        · rintro i y HF hy ⟨hSF, hRF⟩
          obtain ⟨x, hx, rfl⟩ := str_at hy
          refine ⟨rfl, _, rfl, (by show 2 ≤ sizeLine; decide), fun tp ntp => ?_⟩
          obtain ⟨xs, k1, k2, k3⟩ := hone hx hRF ntp
          exact ⟨xs, k1, k2, same_upd (fun b o e => same_new ntp _ _ _ (hSF _ _ e)) nDx, k3⟩
        rintro HF ⟨hSF, hRF⟩
        rw [List.length_map, List.take_length] at hRF
        exact go2 HF Dx hSF hRF
      · have hz := hSE _ _ z
        refine .inr ⟨_, rfl, q7, rfl, ⟨_, SqT.of hz⟩, fun Dx nDx => ?_⟩
        refine lc_tup (K := K) (a := q7) (xs := L.map V.str) (fun i H' => Same HE H' ∧ RdAt H' Dx ((L.take i).map fun x => (x, (1 : Int)))) ⟨same_new nDx _, ⟨[], upd_same, .nil⟩⟩ (fun i H' _ ⟨hS', _⟩ => SqT.of (hS' _ _ hz)) ?_ ?_
        · rintro i y HF hy ⟨hSF, hRF⟩
          obtain ⟨x, hx, rfl⟩ := str_at hy
          refine ⟨rfl, _, rfl, (by show 2 ≤ sizeLine; decide), fun tp ntp => ?_⟩
          obtain ⟨xs, k1, k2, k3⟩ := hone hx hRF ntp
          exact ⟨xs, k1, k2, same_upd (fun b o e => same_new ntp _ _ _ (hSF _ _ e)) nDx, k3⟩
        rintro HF ⟨hSF, hRF⟩
        rw [List.length_map, List.take_length] at hRF
        exact go2 HF Dx hSF hRF
    intro HF Dx hSF hRF
    obtain ⟨ws, j1, j2⟩ := hRF
    refine ⟨Dx, ws, L.map fun x => ((Sum.inr x : Key), V.int 1), rfl, SqL.of j1, ones_pair j2, fun dp ndp => ?_⟩
    rw [ones_told] at *
    have hsm2 := ones_small L
    have hL21 : L.length ≤ 21 := x2
    refine ⟨dp, _, (onesT [] L).map Prod.fst, rfl, .inl upd_same, ones_keys _, by omega, fun ys yp hpm hst nyp => ?_⟩
    obtain ⟨gpw, gmem⟩ := ones_sorted hpm hst
    have hgn : ys.Nodup := (hpm.nodup_iff).mpr (onesT_nodup L (by simp))
    have hSG : Same HB (upd (upd HF dp (.dK (dT (onesT [] L)))) yp (.lst (ys.map V.str))) := fun b o e => same_new nyp _ _ _ (same_new ndp _ _ _ (hSF _ _ (hSE _ _ e)))
    have hy : (upd (upd HF dp (.dK (dT (onesT [] L)))) yp (.lst (ys.map V.str))) yp = some (.lst (ys.map V.str)) := upd_same
    generalize upd (upd HF dp (.dK (dT (onesT [] L)))) yp (.lst (ys.map V.str)) = HG at hSG hy
    have okY : ∀ e ∈ ys, OkT e := fun e he => okL0 e ((gmem e).mp he)
    have okM : ∀ e ∈ L.mergeSort leS, OkT e := fun e he => okL0 e ((List.mergeSort_perm _ _).mem_iff.mp he)
    refine ⟨_, rfl, q7, L, rfl, (up hSG).imp SqL.of SqT.of, Nat.le_trans x2 (by decide), fun ps nps => ⟨_, _, dp_ls (same_new nps _ _ _ hy), dp_ls upd_same, shaped_st okY, shaped_st okM, _, rfl, ?_⟩⟩
    have hSI : Same HB (upd HG ps (.lst ((L.mergeSort leS).map V.str))) := fun b o e => same_new nps _ _ _ (hSG _ _ e)
    generalize upd HG ps (.lst ((L.mergeSort leS).map V.str)) = HI at hSI
    rw [eqv_s]
    by_cases c : ys = L.mergeSort leS
    · have hLn : L.Nodup := by
        rw [c] at hgn
        exact ((List.mergeSort_perm L leS).nodup_iff).mp hgn
      refine iteYes c ⟨_, rfl, _, rfl, l, q7, L, s, rfl, hwl, up hSI, ⟨List.length_pos_iff.mpr hL, by omega, x1, hs1, by omega, hLn⟩, fun b1 HJ hb1 hSJ => ?_⟩
      have e1 : b1 = b := Bool.eq_iff_iff.mpr (hb1.trans (Iff.trans ⟨fun h k => (hmem k).trans (h k), fun h k => (hmem k).symm.trans (h k)⟩ (hb hLn).symm))
      subst e1
      exact ⟨_, rfl, _, rfl, _, rfl, rfl, _, rfl, iteNot' rfl ⟨_, _, rfl, fun x o e => hSJ _ _ (hSI _ _ e)⟩⟩
    · exact iteNo c ⟨_, _, rfl, hSI⟩
  rintro σ HC ⟨v7, v8, rfl, hSC⟩
  have hoC : HC op = some (.lst (own.map V.str)) := hSC _ _ hoB
  have hP : OkP own s := ⟨List.length_pos_iff.mpr hne, by omega, hoo, hs1, by omega, hcn⟩
  refine ⟨_, rfl, _, rfl, _, _, rfl, rfl, ?_, ?_⟩
  · rw [T_len]
    exact Nat.le_trans (by omega : _ ≤ 1000) (by decide)
  rw [T_app]
  refine ⟨_, rfl, _, rfl, l ++ l, op, own, s, rfl, wd_two hwl (by omega), .inl hoC, hP, fun b1 HE hb1 hSE => ?_⟩
  have e1 : b1 = true := hb1.mpr fun k => (rps_two h0 k).trans (hmem k).symm
  subst e1
  refine ⟨true, true, rfl, rfl, _, rfl, iteYes rfl ?_⟩
  refine ⟨_, rfl, l, 1, rfl, hwl, ?_⟩
  refine ⟨_, rfl, rd l 1 l.length, op, own, s, rfl, rd_wd hwl _ _ h0 (by omega), .inl (hSE _ _ hoC), hP, fun b2 HF hb2 hSF => ?_⟩
  have e2 : b2 = true := hb2.mpr fun k => by
    have e : rps (rd l 1 l.length) s = (List.range l.length).map fun k => tS (rd l (1 + k) s) := by
      unfold rps
      rw [rd_len]
      exact List.map_congr_left fun k _ => by rw [rd_turned l 1 k s h0]
    rw [e, (rps_turn l 1 s h0).mem_iff]
    exact (hmem k).symm
  subst e2
  have hSBF : Same HB HF := fun b o e => hSF _ _ (hSE _ _ (hSC _ _ e))
  refine ⟨true, true, rfl, rfl, bl_true rfl (q _ (fun b o e n => hSBF _ _ (hKB _ _ e n)) ?_)⟩
  obtain ⟨x, y, hx, hy⟩ := hpB
  exact ⟨x, y, hSBF _ _ hx, hy⟩
end
end My
namespace My
open PySem L2 PyProof.Rows
theorem PotAt.same {H H' : Hp} {a : Addr} (h : PotAt H a) (s : Same H H') : PotAt H' a := by
  obtain ⟨x, y, e, r⟩ := h
  exact ⟨x, y, s _ _ e, r⟩
section
variable {P : Program} {w : World} {K : PySem.W.Frag} {mg : Str → Option Value} {base : Heap}
def splaw (K : PySem.W.Frag) : Sp := fun vs H Q _ => ∃ a, ∃ ns : List Int, vs = [.ref a] ∧ SqL K H a (ns.map V.int) ∧ ns.length ≤ 63 ∧ ∀ H', Q (.bl true) H'
theorem oklaw (D : Def K mg "law" slaw ["_law_script"]) (B : Bs mg) (Glb : Glo mg)
    (h_law_pot : Good P w K mg base "_law_pot" s_law_pot ["_law_script", "_law_k"] 1 (sp_law_pot K))
    (h_law_ring : Good P w K mg base "_law_ring" s_law_ring ["_law_pot_here", "_law_most"] 3 (sp_law_ring K))
    (h_law_draw : Good P w K mg base "_law_draw" s_law_draw ["_law_pot_here", "_law_size"] 1 (sp_law_draw K))
    (h_law_line_right : Good P w K mg base "_law_line_right" s_law_line_right ["_law_text", "_law_size", "_law_other"] 6 (sp_law_line_right K))
    (h_law_pieces_right : Good P w K mg base "_law_pieces_right" s_law_pieces_right ["_law_ring_here", "_law_size", "_law_by"] 6 (sp_law_pieces_right K))
    (h_law_explains_right : GoodG P w K mg base "_law_explains_right" s_law_explains_right ["_law_pot_here", "_law_ring_here", "_law_size"] 7 (sp_law_explains_right K)) :
    GoodG P w K mg base "law" slaw ["_law_script"] 8 (splaw K) := by
  refine D.goodG fun f fd F => ?_
  obtain ⟨f_law_pot, d_law_pot, O_law_pot, m_law_pot, k_law_pot, b_law_pot, F_law_pot⟩ := h_law_pot
  obtain ⟨f_law_ring, d_law_ring, O_law_ring, m_law_ring, k_law_ring, b_law_ring, F_law_ring⟩ := h_law_ring
  obtain ⟨f_law_draw, d_law_draw, O_law_draw, m_law_draw, k_law_draw, b_law_draw, F_law_draw⟩ := h_law_draw
  obtain ⟨f_law_line_right, d_law_line_right, O_law_line_right, m_law_line_right, k_law_line_right, b_law_line_right, F_law_line_right⟩ := h_law_line_right
  obtain ⟨f_law_pieces_right, d_law_pieces_right, O_law_pieces_right, m_law_pieces_right, k_law_pieces_right, b_law_pieces_right, F_law_pieces_right⟩ := h_law_pieces_right
  obtain ⟨f_law_explains_right, d_law_explains_right, O_law_explains_right, m_law_explains_right, k_law_explains_right, b_law_explains_right, F_law_explains_right⟩ := h_law_explains_right
  refine FnG.ofBody F sclaw (fun vs H Q E h => ?_) (fun cdv A outer s H vs Q E hr quiet h => ?_)
  · obtain ⟨a, ns, rfl, hns, h63, q⟩ := h
    first | rfl | (rcases h with ⟨_, _, rfl, _⟩ | ⟨_, rfl, _⟩ <;> rfl)
  obtain ⟨a, ns, rfl, hns, h63, q⟩ := h
  have hur := hu70 hr
  refine ⟨_, (pss_cons (ps_set (i := 1) sclaw.nd rfl (by first | exact Or.inl rfl | exact Or.inr rfl) (pe_call O_law_pot (hr.mono (by decide)) rfl m_law_pot k_law_pot b_law_pot .nil pass0 (pa_cons (pv 0) (pa_cons pe_int pa_nil))))
  (pss_cons (ps_for PassesOwn.never rfl (pi_range1 (by rfl) B.range (pa_cons pe_int pa_nil)) (pg_name (i := 2) sclaw.nd rfl (by first | exact Or.inl rfl | exact Or.inr rfl))
    (pss_cons (ps_par (i := 3) (j := 4) (by rfl) sclaw.nd rfl rfl (by decide) rfl rfl (pa_cons (pe_call O_law_ring (hr.mono (by decide)) rfl m_law_ring k_law_ring b_law_ring .nil pass0 (pa_cons (pv 1) (pa_cons pe_int pa_nil))) (pa_cons (pe_op op_add pe_int (pe_call O_law_draw (hr.mono (by decide)) rfl m_law_draw k_law_draw b_law_draw .nil pass0 (pa_cons (pv 1) (pa_cons pe_int pa_nil)))) pa_nil)) (by rfl))
  (pss_cons (ps_par (i := 5) (j := 6) (by rfl) sclaw.nd rfl rfl (by decide) rfl rfl (pa_cons (pe_call O_law_ring (hr.mono (by decide)) rfl m_law_ring k_law_ring b_law_ring .nil pass0 (pa_cons (pv 1) (pa_cons pe_int pa_nil))) (pa_cons (pe_call O_law_draw (hr.mono (by decide)) rfl m_law_draw k_law_draw b_law_draw .nil pass0 (pa_cons (pv 1) (pa_cons pe_int pa_nil))) pa_nil)) (by rfl))
  (pss_cons (ps_if (PW.pt (pw_or (pt_not (pt_val (pe_call O_law_pieces_right (hr.mono (by decide)) rfl m_law_pieces_right k_law_pieces_right b_law_pieces_right .nil pass0 (pa_cons (pv 3) (pa_cons (pv 4) (pa_cons (pv 6) pa_nil)))))) (pw_or1 (pt_not (pt_val (pe_callG O_law_explains_right hr quiet rfl m_law_explains_right k_law_explains_right b_law_explains_right (pa_cons (pv 1) (pa_cons (pv 3) (pa_cons (pv 4) pa_nil)))))))))
    (pss_one (ps_ret pe_bl)) pss_nil)
  (pss_cons (ps_set (i := 7) sclaw.nd rfl (by first | exact Or.inl rfl | exact Or.inr rfl) (pe_op op_add_str (pe_slice sl_str (pv 5) (po_some (pe_op op_mod (pe_call O_law_draw (hr.mono (by decide)) rfl m_law_draw k_law_draw b_law_draw .nil pass0 (pa_cons (pv 1) (pa_cons pe_int pa_nil))) (pe_callB call_len_str (by rfl) B.len (by decide +kernel) (pa_cons (pv 5) pa_nil)))) po_none) (pe_call O_law_ring (hr.mono (by decide)) rfl m_law_ring k_law_ring b_law_ring .nil pass0 (pa_cons (pv 1) (pa_cons pe_int pa_nil)))))
  (pss_cons (ps_for PassesOwn.never rfl (pi_list (pe_lst (pa_cons (pv 7) (pa_cons (pv 5) (pa_cons (pe_call O_law_ring (hr.mono (by decide)) rfl m_law_ring k_law_ring b_law_ring .nil pass0 (pa_cons (pv 1) (pa_cons pe_int pa_nil))) (pa_cons (pv 3) pa_nil)))))) (pg_name (i := 8) sclaw.nd rfl (by first | exact Or.inl rfl | exact Or.inr rfl))
    (pss_one (ps_if (PW.pt (pw_or (pt_not (pt_val (pe_call O_law_line_right (hr.mono (by decide)) rfl m_law_line_right k_law_line_right b_law_line_right .nil pass0 (pa_cons (pv 5) (pa_cons (pv 4) (pa_cons (pv 8) pa_nil)))))) (pw_or1 (pt_not (pt_val (pe_call O_law_line_right (hr.mono (by decide)) rfl m_law_line_right k_law_line_right b_law_line_right .nil pass0 (pa_cons (pv 8) (pa_cons (pv 4) (pa_cons (pv 5) pa_nil)))))))))
    (pss_one (ps_ret pe_bl)) pss_nil)))
  (pss_one (ps_if (pt_not (pt_val (pe_call O_law_line_right (hr.mono (by decide)) rfl m_law_line_right k_law_line_right b_law_line_right .nil pass0 (pa_cons pe_str (pa_cons (pv 4) (pa_cons (pv 5) pa_nil))))))
    (pss_one (ps_ret pe_bl)) pss_nil))))))))
  (pss_one (ps_ret pe_bl)))), ?_⟩
  refine ⟨_, rfl, a, ns, rfl, hns, fun p H0 hp0 hS0 np => ?_⟩
  refine ⟨_, rfl, by decide, by decide, ?_⟩
  refine for_range (lo := 0) (n := 3) (fun i σ H' => PotAt H' p ∧ ∃ v2 v3 v4 v5 v6 v7 v8 : Option V, σ = [some (.ref a), some (.ref p), v2, v3, v4, v5, v6, v7, v8]) ⟨hp0, none, none, none, none, none, none, none, rfl⟩ ?_ ?_
  · rintro i0 σ H1 hi ⟨hp1, v2, v3, v4, v5, v6, v7, v8, rfl⟩
    refine ⟨_, rfl, p, 9, rfl, hp1, by decide, by decide, fun l H2 hwl hl20 hk2 hp2 => ?_⟩
    refine ⟨_, rfl, p, 7, rfl, hp2, by decide, by decide, fun d H3 hd hk3 hp3 => ⟨_, _, rfl, rfl, _, _, rfl, ?_⟩⟩
    refine ⟨_, rfl, p, 9, rfl, hp3, by decide, by decide, fun t H4 hwt ht20 hk4 hp4 => ?_⟩
    refine ⟨_, rfl, p, 30, rfl, hp4, by decide, by decide, fun e H5 he hk5 hp5 => ⟨_, _, rfl, ?_⟩⟩
    have h0t := hwt.1
    refine ⟨_, rfl, _, rfl, _, rfl, l, 2 + d, e, rfl, hwl, hl20, by omega, by omega, fun H6 hS6 => ⟨_, rfl, iteF ?_⟩⟩
    have hp6 := hp5.same hS6
    refine ⟨_, rfl, _, rfl, _, rfl, p, l, 2 + d, rfl, hp6, hwl, hl20, by omega, by omega, fun H7 hk7 hp7 => ⟨_, rfl, iteF ?_⟩⟩
    refine ⟨_, rfl, _, rfl, p, 24, rfl, hp7, by decide, by decide, fun k H8 hkk hk8 hp8 => ?_⟩
    refine ⟨_, rfl, _, rfl, T_line (by omega), _, _, rfl, rfl, by rw [T_len]; omega, ?_⟩
    refine ⟨_, rfl, _, rfl, T_line (by omega), ?_⟩
    refine ⟨_, rfl, p, 4, rfl, hp8, by decide, by decide, fun l2 H9 hwl2 hl220 hk9 hp9 => ?_⟩
    have ek : (k : Int) % (((⟨t.toArray⟩ : Str).length : Nat) : Int) = ((k % t.length : Nat) : Int) := by
      rw [T_len]
      rfl
    have hl220' := hl220
    refine ⟨_, _, rfl, rfl, ?_, ?_⟩
    · rw [ek, cut_from, T_len, T_len]
      have : (t.drop (k % t.length)).length ≤ t.length := by rw [List.length_drop]; omega
      exact Nat.le_of_lt (small1000 (by omega))
    rw [ek, cut_from, T_app]
    generalize ej : k % t.length = j
    have ltt : Lt (t.drop j ++ l2) := ⟨by rw [List.length_append, List.length_drop]; omega, fun c hc => (List.mem_append.mp hc).elim (fun z => hwt.2.2 c (List.mem_of_mem_drop z)) (fun z => hwl2.2.2 c z)⟩
    have ltl : (t.drop j ++ l2).length ≤ 40 := by rw [List.length_append, List.length_drop]; omega
    generalize t.drop j ++ l2 = tl at ltt ltl
    refine ⟨_, rfl, _, rfl, _, rfl, p, 5, rfl, hp9, by decide, by decide, fun l3 H10 hwl3 hl320 hk10 hp10 => ?_⟩
    refine ⟨_, rfl, (by show 4 ≤ sizeLine; decide), fun D nD => ?_⟩
    have wl : ∀ {z : List Nat}, Wd z → z.length ≤ 20 → Lt z := fun h h2 => ⟨by omega, h.2.2⟩
    have all4 : ∀ z ∈ [tl, t, l3, l], Lt z ∧ z.length ≤ 40 := fun z hz => by
      simp only [List.mem_cons, List.not_mem_nil, or_false] at hz
      rcases hz with rfl | rfl | rfl | rfl
      · exact ⟨ltt, ltl⟩
      · exact ⟨wl hwt ht20, by omega⟩
      · exact ⟨wl hwl3 hl320, by omega⟩
      · exact ⟨wl hwl hl20, by omega⟩
    have ltT : Lt t := wl hwt ht20
    have hD : upd H10 D (.lst [T tl, T t, T l3, T l]) D = some (.lst [T tl, T t, T l3, T l]) := upd_same
    have hp11 : PotAt (upd H10 D (.lst [T tl, T t, T l3, T l])) p := hp10.new nD
    generalize upd H10 D (.lst [T tl, T t, T l3, T l]) = H11 at hD hp11
    refine ⟨_, rfl, ⟨_, SqL.of hD⟩, for_list (K := K) (a := D) (xs := [T tl, T t, T l3, T l]) (fun i σ H' => Same H11 H' ∧ ∃ v, σ = [some (.ref a), some (.ref p), some (.int (0 + (i0 : Int))), some (T l), some (.int ((2 : Int) + (d : Int))), some (T t), some (.int (e : Int)), some (T tl), v]) ⟨fun _ _ h => h, v8, rfl⟩ (fun i σ H' _ ⟨hS', _⟩ => SqL.of (hS' _ _ hD)) ?_ ?_⟩
    · rintro i' y σ H12 hy ⟨hS12, v, rfl⟩
      obtain ⟨z, hz, rfl⟩ : ∃ z, z ∈ [tl, t, l3, l] ∧ y = T z := by
        have hm := List.mem_of_getElem? hy
        simp only [List.mem_cons, List.not_mem_nil, or_false] at hm
        rcases hm with rfl | rfl | rfl | rfl
        · exact ⟨tl, by simp, rfl⟩
        · exact ⟨t, by simp, rfl⟩
        · exact ⟨l3, by simp, rfl⟩
        · exact ⟨l, by simp, rfl⟩
      obtain ⟨hzl, hz40⟩ := all4 z hz
      refine ⟨_, rfl, _, rfl, _, rfl, t, z, 2 + d, rfl, ltT, by omega, hzl, by omega, by omega, fun H13 hS13 => ⟨_, rfl, iteF ?_⟩⟩
      refine ⟨_, rfl, _, rfl, _, rfl, z, t, 2 + d, rfl, hzl, hz40, ltT, by omega, by omega, fun H14 hS14 => ⟨_, rfl, iteF ?_⟩⟩
      exact ⟨(hS12.trans hS13).trans hS14, _, rfl⟩
    rintro σ H12 ⟨hS12, v, rfl⟩
    refine ⟨_, rfl, _, rfl, [], t, 2 + d, ?_, ⟨by simp, by simp⟩, by simp, ltT, by omega, by omega, fun H13 hS13 => ⟨_, rfl, iteF ?_⟩⟩
    · show [V.str (Str.ofString ""), V.int ((2 : Int) + (d : Int)), T t] = _
      rw [T_nil]
      rfl
    exact ⟨(hp11.same hS12).same hS13, _, _, _, _, _, _, _, rfl⟩
  rintro σ H1 ⟨hp1, v2, v3, v4, v5, v6, v7, v8, rfl⟩
  exact q H1
end
end My
namespace My
open PySem L2 PyProof.Rows
/-! ### the end -/
theorem fd_is {K : PySem.W.Frag} {x : Str} {st : Stmt} {f : Addr} {fd fe : FuncData} {oc : Value} {od : Option Addr} {sl : Array (Option Value)} (F : Fun K x x st f fd) (l : K.lookup f = some ⟨oc, od, .func fe, sl⟩) : fd = fe := by
  obtain ⟨oc2, od2, kV, doc, pm, an, cdv, ct, osl, e, lk, c⟩ := F.ex
  rw [lk] at l
  have := Option.some.inj l
  injection this with _ _ h3 _
  injection h3
set_option maxHeartbeats 4000000 in
theorem all_mk {l : PySem.W.OpenLaw} {w : World} {K : PySem.W.Frag} {h : Heap} {mg : Str → Option Value} {fa : Addr} (X : K.In h) (G : h.Ns mainGlobals mg) (hfa : mg "law" = some (.ref fa))
    {f0 : Addr} {od0 an0 : Option Addr} {sl0 : Array (Option Value)} {oc0 kV0 dc0 pm0 cd0 ct0 : Value} {f1 : Addr} {od1 an1 : Option Addr} {sl1 : Array (Option Value)} {oc1 kV1 dc1 pm1 cd1 ct1 : Value} {f2 : Addr} {od2 an2 : Option Addr} {sl2 : Array (Option Value)} {oc2 kV2 dc2 pm2 cd2 ct2 : Value} {f3 : Addr} {od3 an3 : Option Addr} {sl3 : Array (Option Value)} {oc3 kV3 dc3 pm3 cd3 ct3 : Value} {f4 : Addr} {od4 an4 : Option Addr} {sl4 : Array (Option Value)} {oc4 kV4 dc4 pm4 cd4 ct4 : Value} {f5 : Addr} {od5 an5 : Option Addr} {sl5 : Array (Option Value)} {oc5 kV5 dc5 pm5 cd5 ct5 : Value} {f6 : Addr} {od6 an6 : Option Addr} {sl6 : Array (Option Value)} {oc6 kV6 dc6 pm6 cd6 ct6 : Value} {f7 : Addr} {od7 an7 : Option Addr} {sl7 : Array (Option Value)} {oc7 kV7 dc7 pm7 cd7 ct7 : Value} {f8 : Addr} {od8 an8 : Option Addr} {sl8 : Array (Option Value)} {oc8 kV8 dc8 pm8 cd8 ct8 : Value} {f9 : Addr} {od9 an9 : Option Addr} {sl9 : Array (Option Value)} {oc9 kV9 dc9 pm9 cd9 ct9 : Value} {f10 : Addr} {od10 an10 : Option Addr} {sl10 : Array (Option Value)} {oc10 kV10 dc10 pm10 cd10 ct10 : Value} {f11 : Addr} {od11 an11 : Option Addr} {sl11 : Array (Option Value)} {oc11 kV11 dc11 pm11 cd11 ct11 : Value} {f12 : Addr} {od12 an12 : Option Addr} {sl12 : Array (Option Value)} {oc12 kV12 dc12 pm12 cd12 ct12 : Value} {f13 : Addr} {od13 an13 : Option Addr} {sl13 : Array (Option Value)} {oc13 kV13 dc13 pm13 cd13 ct13 : Value} {f14 : Addr} {od14 an14 : Option Addr} {sl14 : Array (Option Value)} {oc14 kV14 dc14 pm14 cd14 ct14 : Value} {f15 : Addr} {od15 an15 : Option Addr} {sl15 : Array (Option Value)} {oc15 kV15 dc15 pm15 cd15 ct15 : Value} {f16 : Addr} {od16 an16 : Option Addr} {sl16 : Array (Option Value)} {oc16 kV16 dc16 pm16 cd16 ct16 : Value} {f17 : Addr} {od17 an17 : Option Addr} {sl17 : Array (Option Value)} {oc17 kV17 dc17 pm17 cd17 ct17 : Value} {f18 : Addr} {od18 an18 : Option Addr} {sl18 : Array (Option Value)} {oc18 kV18 dc18 pm18 cd18 ct18 : Value} {f19 : Addr} {od19 an19 : Option Addr} {sl19 : Array (Option Value)} {oc19 kV19 dc19 pm19 cd19 ct19 : Value} {f20 : Addr} {od20 an20 : Option Addr} {sl20 : Array (Option Value)} {oc20 kV20 dc20 pm20 cd20 ct20 : Value} {f21 : Addr} {od21 an21 : Option Addr} {sl21 : Array (Option Value)} {oc21 kV21 dc21 pm21 cd21 ct21 : Value} {f22 : Addr} {od22 an22 : Option Addr} {sl22 : Array (Option Value)} {oc22 kV22 dc22 pm22 cd22 ct22 : Value} {f23 : Addr} {od23 an23 : Option Addr} {sl23 : Array (Option Value)} {oc23 kV23 dc23 pm23 cd23 ct23 : Value} {f24 : Addr} {od24 an24 : Option Addr} {sl24 : Array (Option Value)} {oc24 kV24 dc24 pm24 cd24 ct24 : Value} {f25 : Addr} {od25 an25 : Option Addr} {sl25 : Array (Option Value)} {oc25 kV25 dc25 pm25 cd25 ct25 : Value} {f26 : Addr} {od26 an26 : Option Addr} {sl26 : Array (Option Value)} {oc26 kV26 dc26 pm26 cd26 ct26 : Value} {f27 : Addr} {od27 an27 : Option Addr} {sl27 : Array (Option Value)} {oc27 kV27 dc27 pm27 cd27 ct27 : Value} {f28 : Addr} {od28 an28 : Option Addr} {sl28 : Array (Option Value)} {oc28 kV28 dc28 pm28 cd28 ct28 : Value} {f29 : Addr} {od29 an29 : Option Addr} {sl29 : Array (Option Value)} {oc29 kV29 dc29 pm29 cd29 ct29 : Value} {f30 : Addr} {od30 an30 : Option Addr} {sl30 : Array (Option Value)} {oc30 kV30 dc30 pm30 cd30 ct30 : Value} {f31 : Addr} {od31 an31 : Option Addr} {sl31 : Array (Option Value)} {oc31 kV31 dc31 pm31 cd31 ct31 : Value} {f32 : Addr} {od32 an32 : Option Addr} {sl32 : Array (Option Value)} {oc32 kV32 dc32 pm32 cd32 ct32 : Value} {f33 : Addr} {od33 an33 : Option Addr} {sl33 : Array (Option Value)} {oc33 kV33 dc33 pm33 cd33 ct33 : Value} {f34 : Addr} {od34 an34 : Option Addr} {sl34 : Array (Option Value)} {oc34 kV34 dc34 pm34 cd34 ct34 : Value} {f35 : Addr} {od35 an35 : Option Addr} {sl35 : Array (Option Value)} {oc35 kV35 dc35 pm35 cd35 ct35 : Value} {t0 : Tok} {t1 : Tok} {t2 : Tok}
    (a0 : PySem.W.nsIn K mainGlobals "is_integer" = some (some (.ref f0))) (l0 : K.lookup f0 = some ⟨oc0, od0, .func (PySem.W.fnOf "is_integer" "is_integer" (defArgs sis_integer) (defBody sis_integer) (defScope sis_integer) .none kV0 dc0 pm0 an0 cd0 ct0), sl0⟩) (c0 : PySem.W.codeIn K cd0 "is_integer" = true) (k0 : PySem.W.keepIn K (.ref f0) = true)
    (a1 : PySem.W.nsIn K mainGlobals "is_count" = some (some (.ref f1))) (l1 : K.lookup f1 = some ⟨oc1, od1, .func (PySem.W.fnOf "is_count" "is_count" (defArgs sis_count) (defBody sis_count) (defScope sis_count) .none kV1 dc1 pm1 an1 cd1 ct1), sl1⟩) (c1 : PySem.W.codeIn K cd1 "is_count" = true) (k1 : PySem.W.keepIn K (.ref f1) = true)
    (a2 : PySem.W.nsIn K mainGlobals "is_between" = some (some (.ref f2))) (l2 : K.lookup f2 = some ⟨oc2, od2, .func (PySem.W.fnOf "is_between" "is_between" (defArgs sis_between) (defBody sis_between) (defScope sis_between) .none kV2 dc2 pm2 an2 cd2 ct2), sl2⟩) (c2 : PySem.W.codeIn K cd2 "is_between" = true) (k2 : PySem.W.keepIn K (.ref f2) = true)
    (a3 : PySem.W.nsIn K mainGlobals "is_below" = some (some (.ref f3))) (l3 : K.lookup f3 = some ⟨oc3, od3, .func (PySem.W.fnOf "is_below" "is_below" (defArgs sis_below) (defBody sis_below) (defScope sis_below) .none kV3 dc3 pm3 an3 cd3 ct3), sl3⟩) (c3 : PySem.W.codeIn K cd3 "is_below" = true) (k3 : PySem.W.keepIn K (.ref f3) = true)
    (a4 : PySem.W.nsIn K mainGlobals "is_size" = some (some (.ref f4))) (l4 : K.lookup f4 = some ⟨oc4, od4, .func (PySem.W.fnOf "is_size" "is_size" (defArgs sis_size) (defBody sis_size) (defScope sis_size) .none kV4 dc4 pm4 an4 cd4 ct4), sl4⟩) (c4 : PySem.W.codeIn K cd4 "is_size" = true) (k4 : PySem.W.keepIn K (.ref f4) = true)
    (a5 : PySem.W.nsIn K mainGlobals "is_listed" = some (some (.ref f5))) (l5 : K.lookup f5 = some ⟨oc5, od5, .func (PySem.W.fnOf "is_listed" "is_listed" (defArgs sis_listed) (defBody sis_listed) (defScope sis_listed) .none kV5 dc5 pm5 an5 cd5 ct5), sl5⟩) (c5 : PySem.W.codeIn K cd5 "is_listed" = true) (k5 : PySem.W.keepIn K (.ref f5) = true)
    (a6 : PySem.W.nsIn K mainGlobals "is_letter" = some (some (.ref f6))) (l6 : K.lookup f6 = some ⟨oc6, od6, .func (PySem.W.fnOf "is_letter" "is_letter" (defArgs sis_letter) (defBody sis_letter) (defScope sis_letter) .none kV6 dc6 pm6 an6 cd6 ct6), sl6⟩) (c6 : PySem.W.codeIn K cd6 "is_letter" = true) (k6 : PySem.W.keepIn K (.ref f6) = true)
    (a7 : PySem.W.nsIn K mainGlobals "need_size" = some (some (.ref f7))) (l7 : K.lookup f7 = some ⟨oc7, od7, .func (PySem.W.fnOf "need_size" "need_size" (defArgs sneed_size) (defBody sneed_size) (defScope sneed_size) .none kV7 dc7 pm7 an7 cd7 ct7), sl7⟩) (c7 : PySem.W.codeIn K cd7 "need_size" = true) (k7 : PySem.W.keepIn K (.ref f7) = true)
    (a8 : PySem.W.nsIn K mainGlobals "is_text" = some (some (.ref f8))) (l8 : K.lookup f8 = some ⟨oc8, od8, .func (PySem.W.fnOf "is_text" "is_text" (defArgs sis_text) (defBody sis_text) (defScope sis_text) .none kV8 dc8 pm8 an8 cd8 ct8), sl8⟩) (c8 : PySem.W.codeIn K cd8 "is_text" = true) (k8 : PySem.W.keepIn K (.ref f8) = true)
    (a9 : PySem.W.nsIn K mainGlobals "is_ring" = some (some (.ref f9))) (l9 : K.lookup f9 = some ⟨oc9, od9, .func (PySem.W.fnOf "is_ring" "is_ring" (defArgs sis_ring) (defBody sis_ring) (defScope sis_ring) .none kV9 dc9 pm9 an9 cd9 ct9), sl9⟩) (c9 : PySem.W.codeIn K cd9 "is_ring" = true) (k9 : PySem.W.keepIn K (.ref f9) = true)
    (a10 : PySem.W.nsIn K mainGlobals "need_text" = some (some (.ref f10))) (l10 : K.lookup f10 = some ⟨oc10, od10, .func (PySem.W.fnOf "need_text" "need_text" (defArgs sneed_text) (defBody sneed_text) (defScope sneed_text) .none kV10 dc10 pm10 an10 cd10 ct10), sl10⟩) (c10 : PySem.W.codeIn K cd10 "need_text" = true) (k10 : PySem.W.keepIn K (.ref f10) = true)
    (a11 : PySem.W.nsIn K mainGlobals "need_ring" = some (some (.ref f11))) (l11 : K.lookup f11 = some ⟨oc11, od11, .func (PySem.W.fnOf "need_ring" "need_ring" (defArgs sneed_ring) (defBody sneed_ring) (defScope sneed_ring) .none kV11 dc11 pm11 an11 cd11 ct11), sl11⟩) (c11 : PySem.W.codeIn K cd11 "need_ring" = true) (k11 : PySem.W.keepIn K (.ref f11) = true)
    (a12 : PySem.W.nsIn K mainGlobals "turned" = some (some (.ref f12))) (l12 : K.lookup f12 = some ⟨oc12, od12, .func (PySem.W.fnOf "turned" "turned" (defArgs sturned) (defBody sturned) (defScope sturned) .none kV12 dc12 pm12 an12 cd12 ct12), sl12⟩) (c12 : PySem.W.codeIn K cd12 "turned" = true) (k12 : PySem.W.keepIn K (.ref f12) = true)
    (a13 : PySem.W.nsIn K mainGlobals "_turned_to" = some (some (.ref f13))) (l13 : K.lookup f13 = some ⟨oc13, od13, .func (PySem.W.fnOf "_turned_to" "_turned_to" (defArgs s_turned_to) (defBody s_turned_to) (defScope s_turned_to) .none kV13 dc13 pm13 an13 cd13 ct13), sl13⟩) (c13 : PySem.W.codeIn K cd13 "_turned_to" = true) (k13 : PySem.W.keepIn K (.ref f13) = true)
    (a14 : PySem.W.nsIn K mainGlobals "read_on" = some (some (.ref f14))) (l14 : K.lookup f14 = some ⟨oc14, od14, .func (PySem.W.fnOf "read_on" "read_on" (defArgs sread_on) (defBody sread_on) (defScope sread_on) .none kV14 dc14 pm14 an14 cd14 ct14), sl14⟩) (c14 : PySem.W.codeIn K cd14 "read_on" = true) (k14 : PySem.W.keepIn K (.ref f14) = true)
    (a15 : PySem.W.nsIn K mainGlobals "overlap" = some (some (.ref f15))) (l15 : K.lookup f15 = some ⟨oc15, od15, .func (PySem.W.fnOf "overlap" "overlap" (defArgs soverlap) (defBody soverlap) (defScope soverlap) .none kV15 dc15 pm15 an15 cd15 ct15), sl15⟩) (c15 : PySem.W.codeIn K cd15 "overlap" = true) (k15 : PySem.W.keepIn K (.ref f15) = true)
    (a16 : PySem.W.nsIn K mainGlobals "words_of" = some (some (.ref f16))) (l16 : K.lookup f16 = some ⟨oc16, od16, .func (PySem.W.fnOf "words_of" "words_of" (defArgs swords_of) (defBody swords_of) (defScope swords_of) .none kV16 dc16 pm16 an16 cd16 ct16), sl16⟩) (c16 : PySem.W.codeIn K cd16 "words_of" = true) (k16 : PySem.W.keepIn K (.ref f16) = true)
    (a17 : PySem.W.nsIn K mainGlobals "are_pieces" = some (some (.ref f17))) (l17 : K.lookup f17 = some ⟨oc17, od17, .func (PySem.W.fnOf "are_pieces" "are_pieces" (defArgs sare_pieces) (defBody sare_pieces) (defScope sare_pieces) .none kV17 dc17 pm17 an17 cd17 ct17), sl17⟩) (c17 : PySem.W.codeIn K cd17 "are_pieces" = true) (k17 : PySem.W.keepIn K (.ref f17) = true)
    (a18 : PySem.W.nsIn K mainGlobals "need_pieces" = some (some (.ref f18))) (l18 : K.lookup f18 = some ⟨oc18, od18, .func (PySem.W.fnOf "need_pieces" "need_pieces" (defArgs sneed_pieces) (defBody sneed_pieces) (defScope sneed_pieces) .none kV18 dc18 pm18 an18 cd18 ct18), sl18⟩) (c18 : PySem.W.codeIn K cd18 "need_pieces" = true) (k18 : PySem.W.keepIn K (.ref f18) = true)
    (a19 : PySem.W.nsIn K mainGlobals "opened" = some (some (.ref f19))) (l19 : K.lookup f19 = some ⟨oc19, od19, .func (PySem.W.fnOf "opened" "opened" (defArgs sopened) (defBody sopened) (defScope sopened) .none kV19 dc19 pm19 an19 cd19 ct19), sl19⟩) (c19 : PySem.W.codeIn K cd19 "opened" = true) (k19 : PySem.W.keepIn K (.ref f19) = true)
    (a20 : PySem.W.nsIn K mainGlobals "pieces_along" = some (some (.ref f20))) (l20 : K.lookup f20 = some ⟨oc20, od20, .func (PySem.W.fnOf "pieces_along" "pieces_along" (defArgs spieces_along) (defBody spieces_along) (defScope spieces_along) .none kV20 dc20 pm20 an20 cd20 ct20), sl20⟩) (c20 : PySem.W.codeIn K cd20 "pieces_along" = true) (k20 : PySem.W.keepIn K (.ref f20) = true)
    (a21 : PySem.W.nsIn K mainGlobals "pieces_often" = some (some (.ref f21))) (l21 : K.lookup f21 = some ⟨oc21, od21, .func (PySem.W.fnOf "pieces_often" "pieces_often" (defArgs spieces_often) (defBody spieces_often) (defScope spieces_often) .none kV21 dc21 pm21 an21 cd21 ct21), sl21⟩) (c21 : PySem.W.codeIn K cd21 "pieces_often" = true) (k21 : PySem.W.keepIn K (.ref f21) = true)
    (a22 : PySem.W.nsIn K mainGlobals "ring_pieces" = some (some (.ref f22))) (l22 : K.lookup f22 = some ⟨oc22, od22, .func (PySem.W.fnOf "ring_pieces" "ring_pieces" (defArgs sring_pieces) (defBody sring_pieces) (defScope sring_pieces) .none kV22 dc22 pm22 an22 cd22 ct22), sl22⟩) (c22 : PySem.W.codeIn K cd22 "ring_pieces" = true) (k22 : PySem.W.keepIn K (.ref f22) = true)
    (a23 : PySem.W.nsIn K mainGlobals "line_pieces" = some (some (.ref f23))) (l23 : K.lookup f23 = some ⟨oc23, od23, .func (PySem.W.fnOf "line_pieces" "line_pieces" (defArgs sline_pieces) (defBody sline_pieces) (defScope sline_pieces) .none kV23 dc23 pm23 an23 cd23 ct23), sl23⟩) (c23 : PySem.W.codeIn K cd23 "line_pieces" = true) (k23 : PySem.W.keepIn K (.ref f23) = true)
    (a24 : PySem.W.nsIn K mainGlobals "has_just" = some (some (.ref f24))) (l24 : K.lookup f24 = some ⟨oc24, od24, .func (PySem.W.fnOf "has_just" "has_just" (defArgs shas_just) (defBody shas_just) (defScope shas_just) .none kV24 dc24 pm24 an24 cd24 ct24), sl24⟩) (c24 : PySem.W.codeIn K cd24 "has_just" = true) (k24 : PySem.W.keepIn K (.ref f24) = true)
    (a25 : PySem.W.nsIn K mainGlobals "cut_at" = some (some (.ref f25))) (l25 : K.lookup f25 = some ⟨oc25, od25, .func (PySem.W.fnOf "cut_at" "cut_at" (defArgs scut_at) (defBody scut_at) (defScope scut_at) .none kV25 dc25 pm25 an25 cd25 ct25), sl25⟩) (c25 : PySem.W.codeIn K cd25 "cut_at" = true) (k25 : PySem.W.keepIn K (.ref f25) = true)
    (a26 : PySem.W.nsIn K mainGlobals "_law_pot" = some (some (.ref f26))) (l26 : K.lookup f26 = some ⟨oc26, od26, .func (PySem.W.fnOf "_law_pot" "_law_pot" (defArgs s_law_pot) (defBody s_law_pot) (defScope s_law_pot) .none kV26 dc26 pm26 an26 cd26 ct26), sl26⟩) (c26 : PySem.W.codeIn K cd26 "_law_pot" = true) (k26 : PySem.W.keepIn K (.ref f26) = true)
    (a27 : PySem.W.nsIn K mainGlobals "_law_draw" = some (some (.ref f27))) (l27 : K.lookup f27 = some ⟨oc27, od27, .func (PySem.W.fnOf "_law_draw" "_law_draw" (defArgs s_law_draw) (defBody s_law_draw) (defScope s_law_draw) .none kV27 dc27 pm27 an27 cd27 ct27), sl27⟩) (c27 : PySem.W.codeIn K cd27 "_law_draw" = true) (k27 : PySem.W.keepIn K (.ref f27) = true)
    (a28 : PySem.W.nsIn K mainGlobals "_law_pick" = some (some (.ref f28))) (l28 : K.lookup f28 = some ⟨oc28, od28, .func (PySem.W.fnOf "_law_pick" "_law_pick" (defArgs s_law_pick) (defBody s_law_pick) (defScope s_law_pick) .none kV28 dc28 pm28 an28 cd28 ct28), sl28⟩) (c28 : PySem.W.codeIn K cd28 "_law_pick" = true) (k28 : PySem.W.keepIn K (.ref f28) = true)
    (a29 : PySem.W.nsIn K mainGlobals "_law_ring" = some (some (.ref f29))) (l29 : K.lookup f29 = some ⟨oc29, od29, .func (PySem.W.fnOf "_law_ring" "_law_ring" (defArgs s_law_ring) (defBody s_law_ring) (defScope s_law_ring) .none kV29 dc29 pm29 an29 cd29 ct29), sl29⟩) (c29 : PySem.W.codeIn K cd29 "_law_ring" = true) (k29 : PySem.W.keepIn K (.ref f29) = true)
    (a30 : PySem.W.nsIn K mainGlobals "_law_round" = some (some (.ref f30))) (l30 : K.lookup f30 = some ⟨oc30, od30, .func (PySem.W.fnOf "_law_round" "_law_round" (defArgs s_law_round) (defBody s_law_round) (defScope s_law_round) .none kV30 dc30 pm30 an30 cd30 ct30), sl30⟩) (c30 : PySem.W.codeIn K cd30 "_law_round" = true) (k30 : PySem.W.keepIn K (.ref f30) = true)
    (a31 : PySem.W.nsIn K mainGlobals "_law_often" = some (some (.ref f31))) (l31 : K.lookup f31 = some ⟨oc31, od31, .func (PySem.W.fnOf "_law_often" "_law_often" (defArgs s_law_often) (defBody s_law_often) (defScope s_law_often) .none kV31 dc31 pm31 an31 cd31 ct31), sl31⟩) (c31 : PySem.W.codeIn K cd31 "_law_often" = true) (k31 : PySem.W.keepIn K (.ref f31) = true)
    (a32 : PySem.W.nsIn K mainGlobals "_law_pieces_right" = some (some (.ref f32))) (l32 : K.lookup f32 = some ⟨oc32, od32, .func (PySem.W.fnOf "_law_pieces_right" "_law_pieces_right" (defArgs s_law_pieces_right) (defBody s_law_pieces_right) (defScope s_law_pieces_right) .none kV32 dc32 pm32 an32 cd32 ct32), sl32⟩) (c32 : PySem.W.codeIn K cd32 "_law_pieces_right" = true) (k32 : PySem.W.keepIn K (.ref f32) = true)
    (a33 : PySem.W.nsIn K mainGlobals "_law_explains_right" = some (some (.ref f33))) (l33 : K.lookup f33 = some ⟨oc33, od33, .func (PySem.W.fnOf "_law_explains_right" "_law_explains_right" (defArgs s_law_explains_right) (defBody s_law_explains_right) (defScope s_law_explains_right) .none kV33 dc33 pm33 an33 cd33 ct33), sl33⟩) (c33 : PySem.W.codeIn K cd33 "_law_explains_right" = true) (k33 : PySem.W.keepIn K (.ref f33) = true)
    (a34 : PySem.W.nsIn K mainGlobals "_law_line_right" = some (some (.ref f34))) (l34 : K.lookup f34 = some ⟨oc34, od34, .func (PySem.W.fnOf "_law_line_right" "_law_line_right" (defArgs s_law_line_right) (defBody s_law_line_right) (defScope s_law_line_right) .none kV34 dc34 pm34 an34 cd34 ct34), sl34⟩) (c34 : PySem.W.codeIn K cd34 "_law_line_right" = true) (k34 : PySem.W.keepIn K (.ref f34) = true)
    (a35 : PySem.W.nsIn K mainGlobals "law" = some (some (.ref f35))) (l35 : K.lookup f35 = some ⟨oc35, od35, .func (PySem.W.fnOf "law" "law" (defArgs slaw) (defBody slaw) (defScope slaw) .none kV35 dc35 pm35 an35 cd35 ct35), sl35⟩) (c35 : PySem.W.codeIn K cd35 "law" = true) (k35 : PySem.W.keepIn K (.ref f35) = true)
    (z0 : PySem.W.nsIn K mainGlobals "isinstance" = some none)
    (z1 : PySem.W.nsIn K mainGlobals "int" = some none)
    (z2 : PySem.W.nsIn K mainGlobals "bool" = some none)
    (z3 : PySem.W.nsIn K mainGlobals "str" = some none)
    (z4 : PySem.W.nsIn K mainGlobals "list" = some none)
    (z5 : PySem.W.nsIn K mainGlobals "tuple" = some none)
    (z6 : PySem.W.nsIn K mainGlobals "len" = some none)
    (z7 : PySem.W.nsIn K mainGlobals "range" = some none)
    (z8 : PySem.W.nsIn K mainGlobals "abs" = some none)
    (z9 : PySem.W.nsIn K mainGlobals "max" = some none)
    (z10 : PySem.W.nsIn K mainGlobals "min" = some none)
    (z11 : PySem.W.nsIn K mainGlobals "divmod" = some none)
    (z12 : PySem.W.nsIn K mainGlobals "sorted" = some none)
    (z13 : PySem.W.nsIn K mainGlobals "dict" = some none)
    (z14 : PySem.W.nsIn K mainGlobals "set" = some none)
    (z15 : PySem.W.nsIn K mainGlobals "sum" = some none)
    (z16 : PySem.W.nsIn K mainGlobals "repr" = some none)
    (z17 : PySem.W.nsIn K mainGlobals "all" = some none)
    (y0 : PySem.W.nsIn K mainGlobals "MOST_LETTERS" = some (some (.int 400 t0)))
    (y1 : PySem.W.nsIn K mainGlobals "MOST_PIECES" = some (some (.int 80 t1)))
    (y2 : PySem.W.nsIn K mainGlobals "MOST_WORDS" = some (some (.int 60 t2)))
    : ∃ fd : FuncData, (∀ (s : Shared) (v : Value), BindsTo s fd ⟨[v], []⟩ [("_law_script", v)]) ∧ ∀ base : Heap, K.In base → base.Ns mainGlobals mg → FnG l.prog w K mg base 8 fa fd ["_law_script"] (splaw K) := by
  have e := hfa.symm.trans (PySem.W.mg_of X G a35)
  cases e
  have B : Bs mg := ⟨PySem.W.mg_none_of X G z0, PySem.W.mg_none_of X G z1, PySem.W.mg_none_of X G z2, PySem.W.mg_none_of X G z3, PySem.W.mg_none_of X G z4, PySem.W.mg_none_of X G z5, PySem.W.mg_none_of X G z6, PySem.W.mg_none_of X G z7, PySem.W.mg_none_of X G z8, PySem.W.mg_none_of X G z9, PySem.W.mg_none_of X G z10, PySem.W.mg_none_of X G z11, PySem.W.mg_none_of X G z12, PySem.W.mg_none_of X G z13, PySem.W.mg_none_of X G z14, PySem.W.mg_none_of X G z15, PySem.W.mg_none_of X G z16, PySem.W.mg_none_of X G z17⟩
  have Glb : Glo mg := ⟨⟨t0, PySem.W.mg_of X G y0⟩, ⟨t1, PySem.W.mg_of X G y1⟩, ⟨t2, PySem.W.mg_of X G y2⟩⟩
  have Dis_integer : Def K mg "is_integer" sis_integer ["value"] := def_mk X G a0 l0 c0 k0 fun _ _ _ _ _ _ us hl => match us, hl with | [_], _ => rfl
  have Dis_count : Def K mg "is_count" sis_count ["value"] := def_mk X G a1 l1 c1 k1 fun _ _ _ _ _ _ us hl => match us, hl with | [_], _ => rfl
  have Dis_between : Def K mg "is_between" sis_between ["value", "least", "most"] := def_mk X G a2 l2 c2 k2 fun _ _ _ _ _ _ us hl => match us, hl with | [_, _, _], _ => rfl
  have Dis_below : Def K mg "is_below" sis_below ["value", "limit"] := def_mk X G a3 l3 c3 k3 fun _ _ _ _ _ _ us hl => match us, hl with | [_, _], _ => rfl
  have Dis_size : Def K mg "is_size" sis_size ["value"] := def_mk X G a4 l4 c4 k4 fun _ _ _ _ _ _ us hl => match us, hl with | [_], _ => rfl
  have Dis_listed : Def K mg "is_listed" sis_listed ["value"] := def_mk X G a5 l5 c5 k5 fun _ _ _ _ _ _ us hl => match us, hl with | [_], _ => rfl
  have Dis_letter : Def K mg "is_letter" sis_letter ["sign"] := def_mk X G a6 l6 c6 k6 fun _ _ _ _ _ _ us hl => match us, hl with | [_], _ => rfl
  have Dneed_size : Def K mg "need_size" sneed_size ["size"] := def_mk X G a7 l7 c7 k7 fun _ _ _ _ _ _ us hl => match us, hl with | [_], _ => rfl
  have Dis_text : Def K mg "is_text" sis_text ["value"] := def_mk X G a8 l8 c8 k8 fun _ _ _ _ _ _ us hl => match us, hl with | [_], _ => rfl
  have Dis_ring : Def K mg "is_ring" sis_ring ["value"] := def_mk X G a9 l9 c9 k9 fun _ _ _ _ _ _ us hl => match us, hl with | [_], _ => rfl
  have Dneed_text : Def K mg "need_text" sneed_text ["text"] := def_mk X G a10 l10 c10 k10 fun _ _ _ _ _ _ us hl => match us, hl with | [_], _ => rfl
  have Dneed_ring : Def K mg "need_ring" sneed_ring ["ring"] := def_mk X G a11 l11 c11 k11 fun _ _ _ _ _ _ us hl => match us, hl with | [_], _ => rfl
  have Dturned : Def K mg "turned" sturned ["ring", "by"] := def_mk X G a12 l12 c12 k12 fun _ _ _ _ _ _ us hl => match us, hl with | [_, _], _ => rfl
  have D_turned_to : Def K mg "_turned_to" s_turned_to ["ring", "place"] := def_mk X G a13 l13 c13 k13 fun _ _ _ _ _ _ us hl => match us, hl with | [_, _], _ => rfl
  have Dread_on : Def K mg "read_on" sread_on ["ring", "place", "many"] := def_mk X G a14 l14 c14 k14 fun _ _ _ _ _ _ us hl => match us, hl with | [_, _, _], _ => rfl
  have Doverlap : Def K mg "overlap" soverlap ["text", "next_text"] := def_mk X G a15 l15 c15 k15 fun _ _ _ _ _ _ us hl => match us, hl with | [_, _], _ => rfl
  have Dwords_of : Def K mg "words_of" swords_of ["pieces"] := def_mk X G a16 l16 c16 k16 fun _ _ _ _ _ _ us hl => match us, hl with | [_], _ => rfl
  have Dare_pieces : Def K mg "are_pieces" sare_pieces ["value"] := def_mk X G a17 l17 c17 k17 fun _ _ _ _ _ _ us hl => match us, hl with | [_], _ => rfl
  have Dneed_pieces : Def K mg "need_pieces" sneed_pieces ["pieces"] := def_mk X G a18 l18 c18 k18 fun _ _ _ _ _ _ us hl => match us, hl with | [_], _ => rfl
  have Dopened : Def K mg "opened" sopened ["ring", "size", "place"] := def_mk X G a19 l19 c19 k19 fun _ _ _ _ _ _ us hl => match us, hl with | [_, _, _], _ => rfl
  have Dpieces_along : Def K mg "pieces_along" spieces_along ["text", "size"] := def_mk X G a20 l20 c20 k20 fun _ _ _ _ _ _ us hl => match us, hl with | [_, _], _ => rfl
  have Dpieces_often : Def K mg "pieces_often" spieces_often ["readings", "size"] := def_mk X G a21 l21 c21 k21 fun _ _ _ _ _ _ us hl => match us, hl with | [_, _], _ => rfl
  have Dring_pieces : Def K mg "ring_pieces" sring_pieces ["ring", "size"] := def_mk X G a22 l22 c22 k22 fun _ _ _ _ _ _ us hl => match us, hl with | [_, _], _ => rfl
  have Dline_pieces : Def K mg "line_pieces" sline_pieces ["text", "size"] := def_mk X G a23 l23 c23 k23 fun _ _ _ _ _ _ us hl => match us, hl with | [_, _], _ => rfl
  have Dhas_just : Def K mg "has_just" shas_just ["ring", "pieces"] := def_mk X G a24 l24 c24 k24 fun _ _ _ _ _ _ us hl => match us, hl with | [_, _], _ => rfl
  have Dcut_at : Def K mg "cut_at" scut_at ["ring", "size", "place"] := def_mk X G a25 l25 c25 k25 fun _ _ _ _ _ _ us hl => match us, hl with | [_, _, _], _ => rfl
  have D_law_pot : Def K mg "_law_pot" s_law_pot ["_law_script", "_law_k"] := def_mk X G a26 l26 c26 k26 fun _ _ _ _ _ _ us hl => match us, hl with | [_, _], _ => rfl
  have D_law_draw : Def K mg "_law_draw" s_law_draw ["_law_pot_here", "_law_size"] := def_mk X G a27 l27 c27 k27 fun _ _ _ _ _ _ us hl => match us, hl with | [_, _], _ => rfl
  have D_law_pick : Def K mg "_law_pick" s_law_pick ["_law_pot_here", "_law_some"] := def_mk X G a28 l28 c28 k28 fun _ _ _ _ _ _ us hl => match us, hl with | [_, _], _ => rfl
  have D_law_ring : Def K mg "_law_ring" s_law_ring ["_law_pot_here", "_law_most"] := def_mk X G a29 l29 c29 k29 fun _ _ _ _ _ _ us hl => match us, hl with | [_, _], _ => rfl
  have D_law_round : Def K mg "_law_round" s_law_round ["_law_ring_here", "_law_place", "_law_many"] := def_mk X G a30 l30 c30 k30 fun _ _ _ _ _ _ us hl => match us, hl with | [_, _, _], _ => rfl
  have D_law_often : Def K mg "_law_often" s_law_often ["_law_words"] := def_mk X G a31 l31 c31 k31 fun _ _ _ _ _ _ us hl => match us, hl with | [_], _ => rfl
  have D_law_pieces_right : Def K mg "_law_pieces_right" s_law_pieces_right ["_law_ring_here", "_law_size", "_law_by"] := def_mk X G a32 l32 c32 k32 fun _ _ _ _ _ _ us hl => match us, hl with | [_, _, _], _ => rfl
  have D_law_explains_right : Def K mg "_law_explains_right" s_law_explains_right ["_law_pot_here", "_law_ring_here", "_law_size"] := def_mk X G a33 l33 c33 k33 fun _ _ _ _ _ _ us hl => match us, hl with | [_, _, _], _ => rfl
  have D_law_line_right : Def K mg "_law_line_right" s_law_line_right ["_law_text", "_law_size", "_law_other"] := def_mk X G a34 l34 c34 k34 fun _ _ _ _ _ _ us hl => match us, hl with | [_, _, _], _ => rfl
  have Dlaw : Def K mg "law" slaw ["_law_script"] := def_mk X G a35 l35 c35 k35 fun _ _ _ _ _ _ us hl => match us, hl with | [_], _ => rfl
  refine ⟨PySem.W.fnOf "law" "law" (defArgs slaw) (defBody slaw) (defScope slaw) .none kV35 dc35 pm35 an35 cd35 ct35, fun s v => .of_eq rfl, fun base _ _ => ?_⟩
  have H_law_pot := ok_law_pot (P := l.prog) (w := w) (base := base) D_law_pot B Glb
  have H_law_draw := ok_law_draw (P := l.prog) (w := w) (base := base) D_law_draw B Glb
  have H_law_pick := ok_law_pick (P := l.prog) (w := w) (base := base) D_law_pick B Glb H_law_draw
  have H_law_ring := ok_law_ring (P := l.prog) (w := w) (base := base) D_law_ring B Glb H_law_pick H_law_draw
  have H_law_often := ok_law_often (P := l.prog) (w := w) (base := base) D_law_often B Glb
  have His_letter := okis_letter (P := l.prog) (w := w) (base := base) Dis_letter B Glb
  have His_text := okis_text (P := l.prog) (w := w) (base := base) Dis_text B Glb His_letter
  have Hneed_text := okneed_text (P := l.prog) (w := w) (base := base) Dneed_text B Glb His_text
  have His_integer := okis_integer (P := l.prog) (w := w) (base := base) Dis_integer B Glb
  have His_between := okis_between (P := l.prog) (w := w) (base := base) Dis_between B Glb His_integer
  have His_size := okis_size (P := l.prog) (w := w) (base := base) Dis_size B Glb His_between
  have Hneed_size := okneed_size (P := l.prog) (w := w) (base := base) Dneed_size B Glb His_size
  have Hpieces_along := okpieces_along (P := l.prog) (w := w) (base := base) Dpieces_along B Glb
  have Hpieces_often := okpieces_often (P := l.prog) (w := w) (base := base) Dpieces_often B Glb Hpieces_along
  have Hline_pieces := okline_pieces (P := l.prog) (w := w) (base := base) Dline_pieces B Glb Hneed_text Hneed_size Hpieces_often
  have Hoverlap := okoverlap (P := l.prog) (w := w) (base := base) Doverlap B Glb Hneed_text
  have H_law_line_right := ok_law_line_right (P := l.prog) (w := w) (base := base) D_law_line_right B Glb H_law_often Hline_pieces Hoverlap
  have His_ring := okis_ring (P := l.prog) (w := w) (base := base) Dis_ring B Glb His_text
  have Hneed_ring := okneed_ring (P := l.prog) (w := w) (base := base) Dneed_ring B Glb His_ring
  have Hread_on := okread_on (P := l.prog) (w := w) (base := base) Dread_on B Glb
  have Hopened := okopened (P := l.prog) (w := w) (base := base) Dopened B Glb Hread_on
  have Hring_pieces := okring_pieces (P := l.prog) (w := w) (base := base) Dring_pieces B Glb Hneed_ring Hneed_size Hpieces_often Hopened
  have His_count := okis_count (P := l.prog) (w := w) (base := base) Dis_count B Glb His_integer
  have His_below := okis_below (P := l.prog) (w := w) (base := base) Dis_below B Glb His_count
  have Hcut_at := okcut_at (P := l.prog) (w := w) (base := base) Dcut_at B Glb Hneed_ring Hneed_size Hopened His_below
  have H_law_round := ok_law_round (P := l.prog) (w := w) (base := base) D_law_round B Glb
  have H_turned_to := ok_turned_to (P := l.prog) (w := w) (base := base) D_turned_to B Glb
  have Hturned := okturned (P := l.prog) (w := w) (base := base) Dturned B Glb Hneed_ring H_turned_to His_count
  have H_law_pieces_right := ok_law_pieces_right (P := l.prog) (w := w) (base := base) D_law_pieces_right B Glb H_law_often Hring_pieces Hcut_at H_law_round Hline_pieces Hturned
  have His_listed := okis_listed (P := l.prog) (w := w) (base := base) Dis_listed B Glb
  have Hwords_of := okwords_of (P := l.prog) (w := w) (base := base) Dwords_of B Glb
  have Hare_pieces := okare_pieces (P := l.prog) (w := w) (base := base) Dare_pieces B Glb His_listed His_between His_text His_size Hwords_of
  have Hneed_pieces := okneed_pieces (P := l.prog) (w := w) (base := base) Dneed_pieces B Glb Hare_pieces
  have Hhas_just := okhas_just (P := l.prog) (w := w) (base := base) Dhas_just B Glb Hneed_ring Hneed_pieces Hpieces_along Hopened
  have H_law_explains_right := ok_law_explains_right (P := l.prog) (w := w) (base := base) D_law_explains_right B Glb H_law_round H_law_pick Hring_pieces Hhas_just Hturned
  have Hlaw := oklaw (P := l.prog) (w := w) (base := base) Dlaw B Glb H_law_pot H_law_ring H_law_draw H_law_line_right H_law_pieces_right H_law_explains_right
  obtain ⟨f, fd, O, m, k, b, F⟩ := Hlaw
  have e2 := m.symm.trans hfa
  cases e2
  rw [fd_is F l35] at O
  exact O
theorem walk {l : PySem.W.OpenLaw} {q : Program} {loose : List Str} {XP : (Str → Option Value) → Heap → Prop} {YP : World → Heap → Prop} {d : DefRec} {K : Params → PySem.W.Frag} (hn : l.most = some 63) (hdf : d.params.defaults = [])
    (hY : ∀ (w : World) (h : Heap), YP w h → (K w.params).In h)
    (F : ∀ (w : World) (mg : Str → Option Value) (fa : Addr) (h : Heap), (K w.params).In h → h.Ns mainGlobals mg → mg d.name = some (.ref fa) →
      ∃ fd : FuncData, (∀ (s : Shared) (u : Value), BindsTo s fd ⟨[u], []⟩ [("_law_script", u)]) ∧ ∀ base : Heap, (K w.params).In base → base.Ns mainGlobals mg → FnG l.prog w (K w.params) mg base 8 fa fd ["_law_script"] (splaw (K w.params))) :
    PySem.W.WalkO q loose XP YP l.row.toRowW d [] (fun f vs => PySem.call f vs) :=
  walk_ofG (n := 63) (k := 8) (x := "_law_script") (sp := fun w => splaw (K w.params)) hn (by decide) hdf ⟨rfl, by decide, by decide⟩ hY F (fun _ _ a ns hl _ hS => ⟨a, ns, rfl, hS, hl, fun _ => rfl⟩)
end My
open PySem PySem.W PyProof.Rows
set_option maxRecDepth 100000 in
set_option maxHeartbeats 0 in
theorem PySem.Challenge.cw_suretexts_k13_whole_pieces_told_holds : PySem.Challenge.rw_suretexts_k13_whole_pieces_told.Holds := by
  w_on; o_law; k_head; (case hw => w_witness2)
  k_fill
  refine My.walk (l := PySem.Challenge.rw_suretexts_k13_whole_pieces_told) rfl rfl (fun w h Y => PySem.W.kIn_of Y) ?F
  case F =>
    intro w mg fa h KX G hmg
    refine' My.all_mk KX G hmg ?a0 ?l0 ?c0 ?k0 ?a1 ?l1 ?c1 ?k1 ?a2 ?l2 ?c2 ?k2 ?a3 ?l3 ?c3 ?k3 ?a4 ?l4 ?c4 ?k4 ?a5 ?l5 ?c5 ?k5 ?a6 ?l6 ?c6 ?k6 ?a7 ?l7 ?c7 ?k7 ?a8 ?l8 ?c8 ?k8 ?a9 ?l9 ?c9 ?k9 ?a10 ?l10 ?c10 ?k10 ?a11 ?l11 ?c11 ?k11 ?a12 ?l12 ?c12 ?k12 ?a13 ?l13 ?c13 ?k13 ?a14 ?l14 ?c14 ?k14 ?a15 ?l15 ?c15 ?k15 ?a16 ?l16 ?c16 ?k16 ?a17 ?l17 ?c17 ?k17 ?a18 ?l18 ?c18 ?k18 ?a19 ?l19 ?c19 ?k19 ?a20 ?l20 ?c20 ?k20 ?a21 ?l21 ?c21 ?k21 ?a22 ?l22 ?c22 ?k22 ?a23 ?l23 ?c23 ?k23 ?a24 ?l24 ?c24 ?k24 ?a25 ?l25 ?c25 ?k25 ?a26 ?l26 ?c26 ?k26 ?a27 ?l27 ?c27 ?k27 ?a28 ?l28 ?c28 ?k28 ?a29 ?l29 ?c29 ?k29 ?a30 ?l30 ?c30 ?k30 ?a31 ?l31 ?c31 ?k31 ?a32 ?l32 ?c32 ?k32 ?a33 ?l33 ?c33 ?k33 ?a34 ?l34 ?c34 ?k34 ?a35 ?l35 ?c35 ?k35 ?z0 ?z1 ?z2 ?z3 ?z4 ?z5 ?z6 ?z7 ?z8 ?z9 ?z10 ?z11 ?z12 ?z13 ?z14 ?z15 ?z16 ?z17 ?y0 ?y1 ?y2
    (case a0 => k_is)
    (case l0 => k_is)
    (case c0 => k_is)
    (case k0 => k_is)
    (case a1 => k_is)
    (case l1 => k_is)
    (case c1 => k_is)
    (case k1 => k_is)
    (case a2 => k_is)
    (case l2 => k_is)
    (case c2 => k_is)
    (case k2 => k_is)
    (case a3 => k_is)
    (case l3 => k_is)
    (case c3 => k_is)
    (case k3 => k_is)
    (case a4 => k_is)
    (case l4 => k_is)
    (case c4 => k_is)
    (case k4 => k_is)
    (case a5 => k_is)
    (case l5 => k_is)
    (case c5 => k_is)
    (case k5 => k_is)
    (case a6 => k_is)
    (case l6 => k_is)
    (case c6 => k_is)
    (case k6 => k_is)
    (case a7 => k_is)
    (case l7 => k_is)
    (case c7 => k_is)
    (case k7 => k_is)
    (case a8 => k_is)
    (case l8 => k_is)
    (case c8 => k_is)
    (case k8 => k_is)
    (case a9 => k_is)
    (case l9 => k_is)
    (case c9 => k_is)
    (case k9 => k_is)
    (case a10 => k_is)
    (case l10 => k_is)
    (case c10 => k_is)
    (case k10 => k_is)
    (case a11 => k_is)
    (case l11 => k_is)
    (case c11 => k_is)
    (case k11 => k_is)
    (case a12 => k_is)
    (case l12 => k_is)
    (case c12 => k_is)
    (case k12 => k_is)
    (case a13 => k_is)
    (case l13 => k_is)
    (case c13 => k_is)
    (case k13 => k_is)
    (case a14 => k_is)
    (case l14 => k_is)
    (case c14 => k_is)
    (case k14 => k_is)
    (case a15 => k_is)
    (case l15 => k_is)
    (case c15 => k_is)
    (case k15 => k_is)
    (case a16 => k_is)
    (case l16 => k_is)
    (case c16 => k_is)
    (case k16 => k_is)
    (case a17 => k_is)
    (case l17 => k_is)
    (case c17 => k_is)
    (case k17 => k_is)
    (case a18 => k_is)
    (case l18 => k_is)
    (case c18 => k_is)
    (case k18 => k_is)
    (case a19 => k_is)
    (case l19 => k_is)
    (case c19 => k_is)
    (case k19 => k_is)
    (case a20 => k_is)
    (case l20 => k_is)
    (case c20 => k_is)
    (case k20 => k_is)
    (case a21 => k_is)
    (case l21 => k_is)
    (case c21 => k_is)
    (case k21 => k_is)
    (case a22 => k_is)
    (case l22 => k_is)
    (case c22 => k_is)
    (case k22 => k_is)
    (case a23 => k_is)
    (case l23 => k_is)
    (case c23 => k_is)
    (case k23 => k_is)
    (case a24 => k_is)
    (case l24 => k_is)
    (case c24 => k_is)
    (case k24 => k_is)
    (case a25 => k_is)
    (case l25 => k_is)
    (case c25 => k_is)
    (case k25 => k_is)
    (case a26 => k_is)
    (case l26 => k_is)
    (case c26 => k_is)
    (case k26 => k_is)
    (case a27 => k_is)
    (case l27 => k_is)
    (case c27 => k_is)
    (case k27 => k_is)
    (case a28 => k_is)
    (case l28 => k_is)
    (case c28 => k_is)
    (case k28 => k_is)
    (case a29 => k_is)
    (case l29 => k_is)
    (case c29 => k_is)
    (case k29 => k_is)
    (case a30 => k_is)
    (case l30 => k_is)
    (case c30 => k_is)
    (case k30 => k_is)
    (case a31 => k_is)
    (case l31 => k_is)
    (case c31 => k_is)
    (case k31 => k_is)
    (case a32 => k_is)
    (case l32 => k_is)
    (case c32 => k_is)
    (case k32 => k_is)
    (case a33 => k_is)
    (case l33 => k_is)
    (case c33 => k_is)
    (case k33 => k_is)
    (case a34 => k_is)
    (case l34 => k_is)
    (case c34 => k_is)
    (case k34 => k_is)
    (case a35 => k_is)
    (case l35 => k_is)
    (case c35 => k_is)
    (case k35 => k_is)
    (case z0 => k_is)
    (case z1 => k_is)
    (case z2 => k_is)
    (case z3 => k_is)
    (case z4 => k_is)
    (case z5 => k_is)
    (case z6 => k_is)
    (case z7 => k_is)
    (case z8 => k_is)
    (case z9 => k_is)
    (case z10 => k_is)
    (case z11 => k_is)
    (case z12 => k_is)
    (case z13 => k_is)
    (case z14 => k_is)
    (case z15 => k_is)
    (case z16 => k_is)
    (case z17 => k_is)
    (case y0 => k_is)
    (case y1 => k_is)
    (case y2 => k_is)
