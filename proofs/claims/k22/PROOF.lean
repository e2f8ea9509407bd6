import PyProof.Rows.All
import Wide.All
import OpenK.AllK
import Wide.FinOn
import HandS.ForMost
import HandS.IsInst
import HandS.SortInts
import HandS.Walk
import HandS.Property
import HandS.Style
import HandS.More
import PySem.Challenge.RW_suretexts_k22_whole_coming_to_and_ways
set_option Elab.async false
set_option maxRecDepth 100000
set_option linter.all false
namespace My
/-! ### reading round and round -/
def rd (l : List Nat) (p n : Nat) : List Nat := (List.range n).map fun k => l.getD ((p + k) % l.length) 0
theorem rd_len (l : List Nat) (p n : Nat) : (rd l p n).length = n := by simp [rd]
theorem rd_zero (l : List Nat) (p : Nat) : rd l p 0 = [] := rfl
theorem rd_succ (l : List Nat) (p n : Nat) : rd l p (n + 1) = rd l p n ++ [l.getD ((p + n) % l.length) 0] := by
  simp [rd, List.range_succ]
theorem rd_get (l : List Nat) (p n k : Nat) (h : k < n) : (rd l p n)[k]? = some (l.getD ((p + k) % l.length) 0) := by
  simp [rd, h]
theorem rd_drop (l : List Nat) (p n k : Nat) : (rd l p n).drop k = rd l (p + k) (n - k) := by
  apply List.ext_getElem?
  intro i
  rw [List.getElem?_drop]
  by_cases h : k + i < n
  · rw [rd_get _ _ _ _ h, rd_get _ _ _ _ (by omega), Nat.add_assoc]
  · rw [List.getElem?_eq_none (by rw [rd_len]; omega), List.getElem?_eq_none (by rw [rd_len]; omega)]
theorem rd_mod (l : List Nat) (p n : Nat) : rd l (p % l.length) n = rd l p n := by
  unfold rd
  apply List.map_congr_left
  intro k _
  rw [Nat.mod_add_mod]
theorem rd_self (l : List Nat) : rd l 0 l.length = l := by
  apply List.ext_getElem?
  intro i
  by_cases h : i < l.length
  · rw [rd_get _ _ _ _ h, Nat.zero_add, Nat.mod_eq_of_lt h, List.getElem?_eq_getElem h, List.getD_eq_getElem?_getD, List.getElem?_eq_getElem h]
    rfl
  · rw [List.getElem?_eq_none (by rw [rd_len]; omega), List.getElem?_eq_none (by omega)]
/-- turned -/
theorem rd_turn (l : List Nat) (p : Nat) (h : p < l.length) : rd l p l.length = l.drop p ++ l.take p := by
  apply List.ext_getElem?
  intro i
  by_cases hi : i < l.length
  · rw [rd_get _ _ _ _ hi]
    by_cases h2 : i < l.length - p
    · rw [List.getElem?_append_left (by rw [List.length_drop]; exact h2), List.getElem?_drop, Nat.mod_eq_of_lt (by omega), List.getElem?_eq_getElem (by omega), List.getD_eq_getElem?_getD, List.getElem?_eq_getElem (by omega)]
      rfl
    · rw [List.getElem?_append_right (by rw [List.length_drop]; omega), List.length_drop, List.getElem?_take_of_lt (by omega)]
      have e : (p + i) % l.length = i - (l.length - p) := by
        rw [Nat.mod_eq_sub_mod (by omega), Nat.mod_eq_of_lt (by omega)]
        omega
      rw [e, List.getElem?_eq_getElem (by omega), List.getD_eq_getElem?_getD, List.getElem?_eq_getElem (by omega)]
      rfl
  · rw [List.getElem?_eq_none (by rw [rd_len]; omega), List.getElem?_eq_none (by rw [List.length_append, List.length_drop, List.length_take]; omega)]
/-- reading from a turned ring -/
theorem rd_turned (l : List Nat) (b p n : Nat) (hl : 0 < l.length) : rd (rd l b l.length) p n = rd l (b + p) n := by
  unfold rd
  apply List.map_congr_left
  intro k _
  have e : ((List.range l.length).map fun k => l.getD ((b + k) % l.length) 0).length = l.length := by simp
  rw [e]
  have h2 : (p + k) % l.length < l.length := Nat.mod_lt _ hl
  rw [List.getD_eq_getElem?_getD, List.getElem?_map, List.getElem?_range h2]
  show l.getD ((b + (p + k) % l.length) % l.length) 0 = _
  rw [Nat.add_mod_mod, Nat.add_assoc]

/-! ### beginnings that are endings -/
def Pre (w t : List Nat) (k : Nat) : Prop := k ≤ w.length ∧ w.take k <:+ t
def Longest (w t : List Nat) (k : Nat) : Prop := Pre w t k ∧ ∀ k', Pre w t k' → k' ≤ k
def IsLB (p : List Nat) (b : Nat) : Prop := b < p.length ∧ p.take b <:+ p ∧ ∀ b', b' < p.length → p.take b' <:+ p → b' ≤ b
def At (w t : List Nat) (c k : Nat) : Prop := Pre w t k ∧ ∀ k', Pre w t k' → w[k']? = some c → k' ≤ k
theorem suff_one {a t : List Nat} {x c : Nat} : a ++ [x] <:+ t ++ [c] ↔ a <:+ t ∧ x = c := by
  constructor
  · rintro ⟨u, hu⟩
    rw [← List.append_assoc] at hu
    have h := List.append_inj' hu rfl
    exact ⟨⟨u, h.1⟩, by simpa using h.2⟩
  · rintro ⟨⟨u, hu⟩, rfl⟩
    exact ⟨u, by rw [← hu, List.append_assoc]⟩
theorem pre_succ {w t : List Nat} {c k : Nat} : Pre w (t ++ [c]) (k + 1) ↔ Pre w t k ∧ w[k]? = some c := by
  unfold Pre
  constructor
  · rintro ⟨h1, h2⟩
    have hk : k < w.length := by omega
    rw [List.take_succ_eq_append_getElem hk, suff_one] at h2
    exact ⟨⟨by omega, h2.1⟩, by rw [List.getElem?_eq_getElem hk, h2.2]⟩
  · rintro ⟨⟨h1, h2⟩, h3⟩
    have hk : k < w.length := by
      rw [List.getElem?_eq_some_iff] at h3
      exact h3.1
    rw [List.take_succ_eq_append_getElem hk, suff_one]
    rw [List.getElem?_eq_getElem hk] at h3
    exact ⟨by omega, h2, Option.some.inj h3⟩
theorem pre_zero (w t : List Nat) : Pre w t 0 := ⟨Nat.zero_le _, by simp⟩
theorem at_start {w t : List Nat} {c k : Nat} (h : Longest w t k) : At w t c k := ⟨h.1, fun k' h' _ => h.2 k' h'⟩
theorem at_fall {w t : List Nat} {c k b : Nat} (h : At w t c k) (hne : w[k]? ≠ some c) (hb : IsLB (w.take k) b) : At w t c b := by
  obtain ⟨h1, h2⟩ := h
  obtain ⟨b1, b2, b3⟩ := hb
  have lk : (w.take k).length = k := by rw [List.length_take]; have := h1.1; omega
  rw [lk] at b1 b3
  have tk : ∀ j, j ≤ k → (w.take k).take j = w.take j := fun j hj => by rw [List.take_take, Nat.min_eq_left hj]
  refine ⟨⟨by have := h1.1; omega, ?_⟩, fun k' p' e' => ?_⟩
  · rw [← tk b (by omega)]
    exact b2.trans h1.2
  · have l1 := h2 k' p' e'
    have l2 : k' ≠ k := by rintro rfl; exact hne e'
    have l3 : k' < k := by omega
    refine b3 k' l3 ?_
    rw [tk k' (by omega)]
    refine List.suffix_of_suffix_length_le p'.2 h1.2 ?_
    rw [List.length_take, List.length_take]
    have := h1.1
    omega
theorem at_hit {w t : List Nat} {c k : Nat} (h : At w t c k) (he : w[k]? = some c) : Longest w (t ++ [c]) (k + 1) := by
  refine ⟨pre_succ.mpr ⟨h.1, he⟩, fun k' p' => ?_⟩
  cases k' with
  | zero => omega
  | succ j =>
    have q := pre_succ.mp p'
    have := h.2 j q.1 q.2
    omega
theorem at_miss {w t : List Nat} {c : Nat} (h : At w t c 0) (he : w[0]? ≠ some c) : Longest w (t ++ [c]) 0 := by
  refine ⟨pre_zero _ _, fun k' p' => ?_⟩
  cases k' with
  | zero => omega
  | succ j =>
    have q := pre_succ.mp p'
    have l := h.2 j q.1 q.2
    have e : j = 0 := by omega
    subst e
    exact absurd q.2 he
theorem longest_nil (w : List Nat) : Longest w [] 0 := by
  refine ⟨pre_zero _ _, fun k' p' => ?_⟩
  have h := List.suffix_nil.mp p'.2
  have h2 : (w.take k').length = 0 := by rw [h]; rfl
  rw [List.length_take] at h2
  have := p'.1
  omega
theorem longest_le {w t : List Nat} {k : Nat} (h : Longest w t k) : k ≤ t.length := by
  have h1 := h.1.2.length_le
  rw [List.length_take] at h1
  have := h.1.1
  omega
/-- the longest beginning that ends the letters behind the first one is the longest border -/
theorem lb_of_longest {w : List Nat} {i k : Nat} (hi : i < w.length) (h : Longest w ((w.drop 1).take i) k) : IsLB (w.take (i + 1)) k := by
  have hk := longest_le h
  have ht : ((w.drop 1).take i).length = i := by rw [List.length_take, List.length_drop]; omega
  rw [ht] at hk
  have hl : (w.take (i + 1)).length = i + 1 := by rw [List.length_take]; omega
  have tk : ∀ j, j ≤ i + 1 → (w.take (i + 1)).take j = w.take j := fun j hj => by rw [List.take_take, Nat.min_eq_left hj]
  obtain ⟨a, r, rfl⟩ : ∃ a r, w = a :: r := by
    cases w with
    | nil => simp at hi
    | cons a r => exact ⟨a, r, rfl⟩
  have e : (a :: r).take (i + 1) = a :: ((a :: r).drop 1).take i := by simp
  refine ⟨by omega, ?_, fun b' hb' hs => ?_⟩
  · rw [tk k (by omega), e]
    exact h.1.2.trans (List.suffix_cons _ _)
  · rw [hl] at hb'
    refine h.2 b' ⟨by omega, ?_⟩
    rw [tk b' (by omega), e, List.suffix_cons_iff] at hs
    rcases hs with hs | hs
    · have hq := congrArg List.length hs
      rw [List.length_take, ← e, hl] at hq
      omega
    · exact hs
theorem lb_one {w : List Nat} (h : 0 < w.length) : IsLB (w.take 1) 0 := lb_of_longest h (by simpa using longest_nil w)
theorem lb_unique {p : List Nat} {a b : Nat} (h1 : IsLB p a) (h2 : IsLB p b) : a = b := by
  have := h1.2.2 b h2.1 h2.2.1
  have := h2.2.2 a h1.1 h1.2.1
  omega
/-- the list of the longest borders -/
def Bords (w : List Nat) (L : List Nat) : Prop := L.length = w.length ∧ ∀ j, j < w.length → ∃ b, L[j]? = some b ∧ IsLB (w.take (j + 1)) b
theorem bords_unique {w A B : List Nat} (h1 : Bords w A) (h2 : Bords w B) : A = B := by
  apply List.ext_getElem?
  intro i
  by_cases h : i < w.length
  · obtain ⟨a, ea, la⟩ := h1.2 i h
    obtain ⟨b, eb, lb⟩ := h2.2 i h
    rw [ea, eb, lb_unique la lb]
  · rw [List.getElem?_eq_none (by rw [h1.1]; omega), List.getElem?_eq_none (by rw [h2.1]; omega)]
/-- some first ones of them -/
def BordsTo (w : List Nat) (n : Nat) (L : List Nat) : Prop := L.length = n ∧ ∀ j, j < n → ∃ b, L[j]? = some b ∧ IsLB (w.take (j + 1)) b
theorem bordsTo_one {w : List Nat} (h : 0 < w.length) : BordsTo w 1 [0] := by
  refine ⟨rfl, fun j hj => ?_⟩
  have e : j = 0 := by omega
  subst e
  exact ⟨0, rfl, lb_one h⟩
theorem bordsTo_succ {w L : List Nat} {i k : Nat} (hi : i < w.length) (hB : BordsTo w i L) (h : Longest w ((w.drop 1).take i) k) : BordsTo w (i + 1) (L ++ [k]) := by
  refine ⟨by rw [List.length_append, hB.1]; rfl, fun j hj => ?_⟩
  by_cases hji : j < i
  · obtain ⟨b, e, l⟩ := hB.2 j hji
    exact ⟨b, by rw [List.getElem?_append_left (by rw [hB.1]; exact hji)]; exact e, l⟩
  · have e : j = i := by omega
    subst e
    refine ⟨k, ?_, lb_of_longest hi h⟩
    rw [List.getElem?_append_right (by rw [hB.1]; omega), hB.1, Nat.sub_self]
    rfl
theorem bordsTo_at {w L : List Nat} {n k : Nat} (hB : BordsTo w n L) (h0 : 0 < k) (hk : k ≤ n) : ∃ b, L[k - 1]? = some b ∧ IsLB (w.take k) b ∧ b < k := by
  obtain ⟨b, e, l⟩ := hB.2 (k - 1) (by omega)
  rw [show k - 1 + 1 = k by omega] at l
  refine ⟨b, e, l, ?_⟩
  have := l.1
  rw [List.length_take] at this
  omega
theorem bords_of {w L : List Nat} : BordsTo w w.length L ↔ Bords w L := Iff.rfl

/-! ### a word begins at a place -/
def due (l w : List Nat) : List Nat := (List.range l.length).filter fun p => rd l p w.length == w
theorem mem_due {l w : List Nat} {p : Nat} : p ∈ due l w ↔ p < l.length ∧ rd l p w.length = w := by
  simp [due]
/-- of the first n letters read -/
def dueTo (l w : List Nat) (n : Nat) : List Nat := (List.range n).filter fun p => rd l p w.length == w
theorem dueTo_all (l w : List Nat) : dueTo l w l.length = due l w := rfl
theorem dueTo_succ_yes {l w : List Nat} {n : Nat} (h : rd l n w.length = w) : dueTo l w (n + 1) = dueTo l w n ++ [n] := by
  simp [dueTo, List.range_succ, List.filter_append, h]
theorem dueTo_succ_no {l w : List Nat} {n : Nat} (h : ¬ rd l n w.length = w) : dueTo l w (n + 1) = dueTo l w n := by
  simp [dueTo, List.range_succ, List.filter_append, h]
/-- the whole word was just read -/
theorem longest_full {l w : List Nat} {n k : Nat} (h : Longest w (rd l 0 n) k) : k = w.length ↔ w.length ≤ n ∧ rd l (n - w.length) w.length = w := by
  have key : w <:+ rd l 0 n ↔ w.length ≤ n ∧ rd l (n - w.length) w.length = w := by
    constructor
    · intro hs
      have hl := hs.length_le
      rw [rd_len] at hl
      refine ⟨hl, ?_⟩
      have e := List.suffix_iff_eq_drop.mp hs
      rw [rd_len, rd_drop, Nat.zero_add, show n - (n - w.length) = w.length by omega] at e
      exact e.symm
    · rintro ⟨hl, e⟩
      rw [List.suffix_iff_eq_drop, rd_len, rd_drop, Nat.zero_add, show n - (n - w.length) = w.length by omega]
      exact e.symm
  rw [← key]
  constructor
  · rintro rfl
    have := h.1.2
    rw [List.take_length] at this
    exact this
  · intro hs
    have h1 := h.1.1
    have h2 := h.2 w.length ⟨Nat.le_refl _, by rw [List.take_length]; exact hs⟩
    omega

/-! ### the period -/
theorem getD_lt {l : List Nat} {i : Nat} (h : i < l.length) : l[i]? = some (l.getD i 0) := by
  rw [List.getD_eq_getElem?_getD, List.getElem?_eq_getElem h]
  rfl
theorem line_period {l : List Nat} {b : Nat} (h : IsLB l b) (i : Nat) (hi : i + (l.length - b) < l.length) : l.getD (i + (l.length - b)) 0 = l.getD i 0 := by
  have hb := h.1
  have e := List.suffix_iff_eq_drop.mp h.2.1
  have hl : (l.take b).length = b := by rw [List.length_take]; omega
  rw [hl] at e
  have e2 := congrArg (fun z : List Nat => z[i]?) e
  simp only [List.getElem?_take, List.getElem?_drop] at e2
  rw [if_pos (by omega)] at e2
  rw [List.getD_eq_getElem?_getD, List.getD_eq_getElem?_getD, e2, Nat.add_comm]
theorem line_mult {l : List Nat} {s : Nat} (h : ∀ i, i + s < l.length → l.getD (i + s) 0 = l.getD i 0) : ∀ (m i : Nat), i + m * s < l.length → l.getD (i + m * s) 0 = l.getD i 0
  | 0, i, _ => by simp
  | m + 1, i, hi => by
    have e : i + (m + 1) * s = (i + m * s) + s := by rw [Nat.succ_mul]; omega
    rw [e] at hi ⊢
    rw [h _ hi]
    exact line_mult h m i (by omega)
theorem round_period {l : List Nat} {s : Nat} (_hs : 0 < s) (hsl : s ≤ l.length) (hd : l.length % s = 0) (h : ∀ i, i + s < l.length → l.getD (i + s) 0 = l.getD i 0) (i : Nat) (hi : i < l.length) : l.getD ((i + s) % l.length) 0 = l.getD i 0 := by
  by_cases hlt : i + s < l.length
  · rw [Nat.mod_eq_of_lt hlt]
    exact h i hlt
  · have e1 : (i + s) % l.length = i + s - l.length := by
      rw [Nat.mod_eq_sub_mod (by omega), Nat.mod_eq_of_lt (by omega)]
    rw [e1]
    obtain ⟨q, hq⟩ : ∃ q, l.length = s * q := ⟨l.length / s, by rw [Nat.mul_div_cancel' (Nat.dvd_of_mod_eq_zero hd)]⟩
    have hq0 : 0 < q := by
      rcases Nat.eq_zero_or_pos q with z | z
      · subst z; omega
      · exact z
    obtain ⟨r, rfl⟩ : ∃ r, q = r + 1 := ⟨q - 1, by omega⟩
    have e2 : l.length = r * s + s := by rw [hq, Nat.mul_succ, Nat.mul_comm]
    have e3 : i = (i + s - l.length) + r * s := by omega
    have := line_mult h r (i + s - l.length) (by omega)
    rw [← e3] at this
    exact this.symm
/-- the told period -/
def per (l : List Nat) (b : Nat) : Nat := if l.length % (l.length - b) = 0 then l.length - b else l.length
theorem per_turns {l : List Nat} {b : Nat} (h : IsLB l b) (i : Nat) (hi : i < l.length) : l.getD ((i + per l b) % l.length) 0 = l.getD i 0 := by
  have hb := h.1
  unfold per
  split
  · exact round_period (by omega) (by omega) (by assumption) (fun j hj => line_period h j hj) i hi
  · rw [Nat.add_mod_right, Nat.mod_eq_of_lt hi]
theorem rd_per {l : List Nat} {b : Nat} (h : IsLB l b) (p n : Nat) : rd l (p + per l b) n = rd l p n := by
  have hb := h.1
  unfold rd
  apply List.map_congr_left
  intro k _
  rw [show p + per l b + k = (p + k) + per l b by omega, ← Nat.mod_add_mod]
  rw [per_turns h ((p + k) % l.length) (Nat.mod_lt _ (by omega))]
theorem per_pos {l : List Nat} {b : Nat} (h : IsLB l b) : 0 < per l b ∧ per l b ≤ l.length := by
  have hb := h.1
  unfold per
  split <;> omega

/-! ### rising lists of the same numbers are one list -/
theorem rising_ext : ∀ {a b : List Int}, a.Pairwise (· < ·) → b.Pairwise (· < ·) → (∀ x, x ∈ a ↔ x ∈ b) → a = b
  | [], [], _, _, _ => rfl
  | [], y :: ys, _, _, h => by have := (h y).mpr (by simp); simp at this
  | x :: xs, [], _, _, h => by have := (h x).mp (by simp); simp at this
  | x :: xs, y :: ys, ha, hb, h => by
    rw [List.pairwise_cons] at ha hb
    have e : x = y := by
      have h1 := (h x).mp (by simp)
      have h2 := (h y).mpr (by simp)
      rw [List.mem_cons] at h1 h2
      rcases h1 with h1 | h1
      · exact h1
      · rcases h2 with h2 | h2
        · exact h2.symm
        · have := ha.1 y h2
          have := hb.1 x h1
          omega
    subst e
    congr 1
    refine rising_ext ha.2 hb.2 fun z => ?_
    constructor
    · intro hz
      have := (h z).mp (List.mem_cons_of_mem _ hz)
      rw [List.mem_cons] at this
      rcases this with rfl | this
      · have := ha.1 _ hz; omega
      · exact this
    · intro hz
      have := (h z).mpr (List.mem_cons_of_mem _ hz)
      rw [List.mem_cons] at this
      rcases this with rfl | this
      · have := hb.1 _ hz; omega
      · exact this
theorem rising_of {s : List Int} (h : s.Pairwise (· ≤ ·)) (n : s.Nodup) : s.Pairwise (· < ·) := by
  have := h.and n
  exact this.imp fun ⟨h1, h2⟩ => by omega
/-- sorted, and the same numbers, none twice: that is it -/
theorem sorted_is {s m d : List Int} (hp : List.Perm s m) (hs : s.Pairwise (· ≤ ·)) (hn : m.Nodup) (hd : d.Pairwise (· < ·)) (h : ∀ x, x ∈ m ↔ x ∈ d) : s = d := by
  refine rising_ext (rising_of hs (hp.nodup_iff.mpr hn)) hd fun x => ?_
  rw [hp.mem_iff]
  exact h x
theorem due_rising (l w : List Nat) : ((due l w).map fun n : Nat => (n : Int)).Pairwise (· < ·) := by
  rw [List.pairwise_map]
  refine List.Pairwise.imp (fun {a b} (h : a < b) => by omega) ?_
  exact List.Pairwise.filter _ List.pairwise_lt_range
end My
namespace My
open PySem L2 PyProof.Rows
/-- a text by its letters -/
abbrev T (l : List Nat) : V := .str ⟨l.toArray⟩
section
variable {X : Cx}
theorem mul_flat (l : List Nat) (n : Nat) : ((List.replicate n l.toArray).foldl (· ++ ·) (#[] : Array Nat)) = (List.replicate n l).flatten.toArray := by
  have h : ∀ (m : Nat) (acc : List Nat), (List.replicate m l.toArray).foldl (· ++ ·) acc.toArray = (acc ++ (List.replicate m l).flatten).toArray := by
    intro m
    induction m with
    | zero => intro acc; simp
    | succ m ih =>
      intro acc
      rw [List.replicate_succ, List.foldl_cons]
      have e : acc.toArray ++ l.toArray = (acc ++ l).toArray := by simp
      rw [e, ih, List.replicate_succ, List.flatten_cons, List.append_assoc]
  have := h n []
  simpa using this
theorem op_mul_str : OpR X (binaryOp .Mult) (fun x y H Q => ∃ l n, x = T l ∧ y = .int (n : Nat) ∧ 1 ≤ n ∧ n ≤ 1000 ∧ l.length ≤ 1000 ∧ Q (T (List.replicate n l).flatten) H) := by
  intro pins s σ H x y v u Q I rx ry h
  obtain ⟨l, n, rfl, rfl, h1, h2, h3, q⟩ := h
  obtain ⟨t, rfl⟩ := rx
  obtain ⟨t', rfl⟩ := ry
  have hlen : (⟨l.toArray⟩ : Str).length = l.length := by simp [Str.length]
  have ok : MulOk ⟨l.toArray⟩ (n : Int) := by
    refine ⟨?_, fun _ _ => ?_, fun _ _ => ?_⟩
    · have a1 : decide ((n : Int) < -(2 ^ 63 : Int)) = false := decide_eq_false (by omega)
      have a2 : decide ((n : Int) ≥ 2 ^ 63) = false := decide_eq_false (by omega)
      rw [a1, a2]
      rfl
    · rw [hlen]
      have : (1000000 : Int) ≤ (2 ^ 63 - 1) / (n : Int) := by
        rw [Int.le_ediv_iff_mul_le (by omega)]
        omega
      omega
    · rw [hlen]
      have e : (n : Int).toNat = n := by omega
      rw [e]
      have : l.length * n ≤ 1000 * 1000 := Nat.mul_le_mul h3 h2
      have z : (1000000 : Nat) ≤ sizeLine := by decide
      simp [Builtin.Str.tooLong]
      omega
  refine SB.mul ok fun t'' k => ?_
  have em : Txt.mul ⟨l.toArray⟩ (n : Int) = ⟨(List.replicate n l).flatten.toArray⟩ := by
    unfold Txt.mul
    rw [if_neg (by omega)]
    split
    · rename_i c
      rw [hlen] at c
      simp at c
      rcases c with c | c
      · have : n = 1 := by omega
        subst this
        simp
      · subst c
        simp
    · have e : (n : Int).toNat = n := by omega
      rw [e]
      exact congrArg Str.mk (mul_flat l n)
  rw [em]
  exact ⟨.str _, H, I.tok _, ⟨_, rfl⟩, q⟩
theorem call_repr_bl : CallR X (.builtin "repr") (fun xs H Q => ∃ b, xs = [.bl b] ∧ Q (.str (if b then "True" else "False")) H) := by
  intro pins s σ H xs us Q I r h
  obtain ⟨b, rfl, q⟩ := h
  obtain ⟨u, rfl, e⟩ := vals1 r
  cases e
  exact PySem.P.repr_of_bool ⟨.str _, H, I.tok _, ⟨_, rfl⟩, q⟩
/-- a module's constant that is an int -/
theorem pe_globI {x : Str} {n : Int} {pos : Pos} (h : ∃ t, X.mg x = some (.int n t)) (hg : Gl X x := by rfl) (hd : (x == ("__debug__" : Str)) = false := by decide) : PE X (.Name x pos) (tC (.int n)) := by
  obtain ⟨t, e⟩ := h
  exact pe_glob (v := .int n) hg e ⟨t, rfl⟩ hd
variable {CX : CXT} {k : Nat} {f : Addr} {fd : FuncData} {ps ks : List Str} {sp : Sp} {E : XK} {x : Str} {p pos : Pos} {kws : List Keyword} {tk : TA} {g : List Value → List Value → List Value} {gV : List V → List V → List V}
/-- f(a=.., b=..) -/
theorem pe_callKK (F : FnOk X.prog X.w X.K X.mg X.base CX k f fd ps sp) (hr : Room k X.A) (hg : Gl X x) (hm : X.mg x = some (.ref f)) (hk : PySem.W.keepIn X.K (.ref f) = true) (hb : KBinds X.K fd ps ks g gV) (hx : Passes CX X E)
    (hkw : PK X kws tk) (hall : (backToKw pos (keywordEach kws X.env)).all (·.1.isSome) = true := by rfl) (hks : (backToKw pos (keywordEach kws X.env)).filterMap (·.1) = ks := by rfl)
    (hdb : (x == ("__debug__" : Str)) = false := by decide)
    (hpl : ((backTo pos (starEach [] X.env)).any (·.1) || (backToKw pos (keywordEach kws X.env)).any (·.1.isNone)) = false := by rfl) :
    PE X (.Call (.Name x p) [] kws pos) (tCallK sp gV E tNil tk) := by
  refine ⟨fun pins s σ H Q I h => ?_⟩
  refine wpAny_Call_Name_kw (ld_glob I hg hm ?_ hdb)
  refine PySem.W.callWith_KW0 (h₀ := X.base) I.ok.mod.kin hk hall (thn (hkw.run pos pins s σ H _ I h) fun ws s2 ⟨zs, H2, I2, rz, q2⟩ => ⟨I2.kIn, ?_⟩) hpl
  rw [hks]
  exact run_fnk F hr hb hx I2 .nil rz q2
end
/-! ### a def that stands, and one that keeps a promise -/
def Def (K : PySem.W.Frag) (mg : Str → Option Value) (x : Str) (st : Stmt) (ps : List Str) : Prop := ∃ (f : Addr) (fd : FuncData), Fun K x x st f fd ∧ mg x = some (.ref f) ∧ Binds K fd ps []
section
variable {P : Program} {w : World} {K : PySem.W.Frag} {mg : Str → Option Value} {base : Heap}
def Good (P : Program) (w : World) (K : PySem.W.Frag) (mg : Str → Option Value) (base : Heap) (x : Str) (st : Stmt) (ps : List Str) (k : Nat) (sp : Sp) : Prop := ∃ (f : Addr) (fd : FuncData), FnOk P w K mg base CX0 k f fd ps sp ∧ mg x = some (.ref f) ∧ PySem.W.keepIn K (.ref f) = true ∧ Binds K fd ps [] ∧ Fun K x x st f fd
theorem Def.good {x : Str} {st : Stmt} {ps : List Str} {k : Nat} {sp : Sp} (D : Def K mg x st ps) (h : ∀ f fd, Fun K x x st f fd → FnOk P w K mg base CX0 k f fd ps sp) : Good P w K mg base x st ps k sp := by
  obtain ⟨f, fd, F, m, b⟩ := D
  exact ⟨f, fd, h f fd F, m, F.kp, b, F⟩
theorem def_mk {h : Heap} (X : K.In h) (G : h.Ns mainGlobals mg) {x : Str} {st : Stmt} {ps : List Str} {f : Addr} {oc : Value} {od an : Option Addr} {osl : Array (Option Value)} {kV doc pm cdv ct : Value} (a : PySem.W.nsIn K mainGlobals x = some (some (.ref f)))
    (l : K.lookup f = some ⟨oc, od, .func (PySem.W.fnOf x x (defArgs st) (defBody st) (defScope st) .none kV doc pm an cdv ct), osl⟩) (c : PySem.W.codeIn K cdv x = true) (k : PySem.W.keepIn K (.ref f) = true)
    (hb : ∀ (kV doc pm : Value) (an : Option Addr) (cdv ct : Value) (us : List Value), us.length = ps.length → bindArgs (PySem.W.fnOf x x (defArgs st) (defBody st) (defScope st) .none kV doc pm an cdv ct) ⟨us, []⟩ = pure (ps.zip us)) : Def K mg x st ps :=
  ⟨f, _, fun_mk l c k, PySem.W.mg_of X G a, (fun_mk l c k).binds hb⟩
theorem fun_kbinds {x qual : Str} {st : Stmt} {f : Addr} {fd : FuncData} {ps ks : List Str} (F : Fun K x qual st f fd) (g : List Value → List Value → List Value) (gV : List V → List V → List V)
    (hrel : ∀ {vs : List V} {us : List Value} {zs : List V} {ws : List Value}, Vals vs us → Vals zs ws → Vals (gV vs zs) (g us ws))
    (h : ∀ (kV doc pm : Value) (an : Option Addr) (cdv ct : Value) (us ws : List Value), (g us ws).length = ps.length → bindArgs (PySem.W.fnOf x qual (defArgs st) (defBody st) (defScope st) .none kV doc pm an cdv ct) ⟨us, ks.zip ws⟩ = pure (ps.zip (g us ws))) : KBinds K fd ps ks g gV := by
  obtain ⟨oc, od, kV, doc, pm, an, cdv, ct, osl, rfl, lk, hcd⟩ := F.ex
  exact ⟨fun s us ws X hl => .of_eq (h kV doc pm an cdv ct us ws hl), hrel⟩
/-- two keywords, in the parameters' order, or turned; one -/
def g12 {α : Type} : List α → List α → List α | [], [a, b] => [a, b] | _, _ => []
def g21 {α : Type} : List α → List α → List α | [], [a, b] => [b, a] | _, _ => []
def g1 {α : Type} : List α → List α → List α | [], [a] => [a] | _, _ => []
theorem g12_inv {α : Type} {us ws : List α} (h : (g12 us ws).length = 2) : us = [] ∧ ∃ a b, ws = [a, b] := by
  match us, ws, h with
  | [], [a, b], _ => exact ⟨rfl, a, b, rfl⟩
  | [], [], h => exact absurd h (by simp [g12, g21, g1])
  | [], [_], h => exact absurd h (by simp [g12])
  | [], _ :: _ :: _ :: _, h => exact absurd h (by simp [g12])
  | _ :: _, _, h => exact absurd h (by simp [g12])
theorem g21_inv {α : Type} {us ws : List α} (h : (g21 us ws).length = 2) : us = [] ∧ ∃ a b, ws = [a, b] := by
  match us, ws, h with
  | [], [a, b], _ => exact ⟨rfl, a, b, rfl⟩
  | [], [], h => exact absurd h (by simp [g12, g21, g1])
  | [], [_], h => exact absurd h (by simp [g21])
  | [], _ :: _ :: _ :: _, h => exact absurd h (by simp [g21])
  | _ :: _, _, h => exact absurd h (by simp [g21])
theorem g1_inv {α : Type} {us ws : List α} (h : (g1 us ws).length = 1) : us = [] ∧ ∃ a, ws = [a] := by
  match us, ws, h with
  | [], [a], _ => exact ⟨rfl, a, rfl⟩
  | [], [], h => exact absurd h (by simp [g12, g21, g1])
  | [], _ :: _ :: _, h => exact absurd h (by simp [g1])
  | _ :: _, _, h => exact absurd h (by simp [g1])
theorem rel12 {vs : List V} {us : List Value} {zs : List V} {ws : List Value} (a : Vals vs us) (b : Vals zs ws) : Vals (g12 vs zs) (g12 us ws) := by
  cases a with
  | nil =>
    cases b with
    | nil => exact .nil
    | cons r b =>
      cases b with
      | nil => exact .nil
      | cons r2 b =>
        cases b with
        | nil => exact .cons r (.cons r2 .nil)
        | cons r3 b => exact .nil
  | cons r a => exact .nil
theorem rel21 {vs : List V} {us : List Value} {zs : List V} {ws : List Value} (a : Vals vs us) (b : Vals zs ws) : Vals (g21 vs zs) (g21 us ws) := by
  cases a with
  | nil =>
    cases b with
    | nil => exact .nil
    | cons r b =>
      cases b with
      | nil => exact .nil
      | cons r2 b =>
        cases b with
        | nil => exact .cons r2 (.cons r .nil)
        | cons r3 b => exact .nil
  | cons r a => exact .nil
theorem rel1 {vs : List V} {us : List Value} {zs : List V} {ws : List Value} (a : Vals vs us) (b : Vals zs ws) : Vals (g1 vs zs) (g1 us ws) := by
  cases a with
  | nil =>
    cases b with
    | nil => exact .nil
    | cons r b =>
      cases b with
      | nil => exact .cons r .nil
      | cons r3 b => exact .nil
  | cons r a => exact .nil
end
end My
namespace My
open PySem L2 PyProof.Rows
/-! ### methods, properties, __init__ of a class at C -/
section
variable {P : Program} {w : World} {K : PySem.W.Frag} {mg : Str → Option Value} {base : Heap} {C : Addr}
def DefM (K : PySem.W.Frag) (C : Addr) (x qual : Str) (st : Stmt) (ps : List Str) : Prop := ∃ (f : Addr) (fd : FuncData), Fun K x qual st f fd ∧ Meth K C x f ∧ Binds K fd ps []
def DefP (K : PySem.W.Frag) (C : Addr) (x qual : Str) (st : Stmt) (ps : List Str) : Prop := ∃ (p f : Addr) (fd : FuncData), Fun K x qual st f fd ∧ PropOf K C x p f ∧ Binds K fd ps []
def DefI (K : PySem.W.Frag) (C : Addr) (x qual : Str) (st : Stmt) (ps : List Str) : Prop := ∃ (f : Addr) (fd : FuncData), Fun K x qual st f fd ∧ Mk K C f ∧ Binds K fd ps []
def GoodM (P : Program) (w : World) (K : PySem.W.Frag) (mg : Str → Option Value) (base : Heap) (C : Addr) (x _qual : Str) (_st : Stmt) (ps : List Str) (k : Nat) (sp : Sp) : Prop := ∃ (f : Addr) (fd : FuncData), FnOk P w K mg base CX0 k f fd ps sp ∧ Meth K C x f ∧ Binds K fd ps []
def GoodP (P : Program) (w : World) (K : PySem.W.Frag) (mg : Str → Option Value) (base : Heap) (C : Addr) (x _qual : Str) (_st : Stmt) (ps : List Str) (k : Nat) (sp : Sp) : Prop := ∃ (p f : Addr) (fd : FuncData), FnOk P w K mg base CX0 k f fd ps sp ∧ PropOf K C x p f ∧ Binds K fd ps []
def GoodI (P : Program) (w : World) (K : PySem.W.Frag) (mg : Str → Option Value) (base : Heap) (C : Addr) (x _qual : Str) (_st : Stmt) (ps : List Str) (k : Nat) (sp : Sp) : Prop := ∃ (f : Addr) (fd : FuncData), FnOk P w K mg base CX0 k f fd ps sp ∧ Mk K C f ∧ Binds K fd ps []
theorem DefM.good {x qual : Str} {st : Stmt} {ps : List Str} {k : Nat} {sp : Sp} (D : DefM K C x qual st ps) (h : ∀ f fd, Fun K x qual st f fd → FnOk P w K mg base CX0 k f fd ps sp) : GoodM P w K mg base C x qual st ps k sp := by
  obtain ⟨f, fd, F, m, b⟩ := D
  exact ⟨f, fd, h f fd F, m, b⟩
theorem DefP.good {x qual : Str} {st : Stmt} {ps : List Str} {k : Nat} {sp : Sp} (D : DefP K C x qual st ps) (h : ∀ f fd, Fun K x qual st f fd → FnOk P w K mg base CX0 k f fd ps sp) : GoodP P w K mg base C x qual st ps k sp := by
  obtain ⟨p, f, fd, F, m, b⟩ := D
  exact ⟨p, f, fd, h f fd F, m, b⟩
theorem DefI.good {x qual : Str} {st : Stmt} {ps : List Str} {k : Nat} {sp : Sp} (D : DefI K C x qual st ps) (h : ∀ f fd, Fun K x qual st f fd → FnOk P w K mg base CX0 k f fd ps sp) : GoodI P w K mg base C x qual st ps k sp := by
  obtain ⟨f, fd, F, m, b⟩ := D
  exact ⟨f, fd, h f fd F, m, b⟩
end
/-! ### a list or a tuple, gone through -/
section
variable {X : Cx}
theorem pi_or {tg e : Expr} {w1 w2 : TI} (h1 : PI X tg e w1) (h2 : PI X tg e w2) : PI X tg e (fun σ H R => w1 σ H R ∨ w2 σ H R) := by
  constructor
  intro pins s σ H R I h
  rcases h with h | h
  · exact h1.run pins s σ H R I h
  · exact h2.run pins s σ H R I h
end
end My
namespace My
/-! ### webs: ties, walks by their lengths -/
def Edge (ts : List (Nat × Nat)) (W : List Nat) (u v : Nat) : Prop := ∃ i, ts[i]? = some (u, v) ∧ i ∉ W
inductive Wk (E : Nat → Nat → Prop) : Nat → Nat → Nat → Prop where
  | nil (u : Nat) : Wk E 0 u u
  | snoc {k u x v : Nat} : Wk E k u x → E x v → Wk E (k + 1) u v
theorem wk_zero {E : Nat → Nat → Prop} {u v : Nat} (h : Wk E 0 u v) : v = u := by cases h; rfl
theorem wk_succ {E : Nat → Nat → Prop} {k u v : Nat} (h : Wk E (k + 1) u v) : ∃ x, Wk E k u x ∧ E x v := by
  cases h with
  | snoc a b => exact ⟨_, a, b⟩
theorem wk_append {E : Nat → Nat → Prop} {j k u x v : Nat} (a : Wk E j u x) (b : Wk E k x v) : Wk E (j + k) u v := by
  induction b with
  | nil => exact a
  | snoc _ e ih => exact .snoc (ih a) e
theorem wk_split {E : Nat → Nat → Prop} {u v : Nat} : ∀ (k j : Nat), Wk E (j + k) u v → ∃ x, Wk E j u x ∧ Wk E k x v
  | 0, j, h => ⟨v, h, .nil v⟩
  | k + 1, j, h => by
    obtain ⟨y, h1, h2⟩ := wk_succ (show Wk E ((j + k) + 1) u v from h)
    obtain ⟨x, h3, h4⟩ := wk_split k j h1
    exact ⟨x, h3, .snoc h4 h2⟩
def Rch (E : Nat → Nat → Prop) (u v : Nat) : Prop := ∃ k, Wk E k u v
/-- few numbers below N -/
theorem few {N : Nat} : ∀ {L : List Nat}, L.Nodup → (∀ x ∈ L, x < N) → L.length ≤ N := by
  induction N with
  | zero =>
    intro L _ h
    cases L with
    | nil => simp
    | cons a r => exact absurd (h a List.mem_cons_self) (by omega)
  | succ N ih =>
    intro L hn h
    by_cases c : N ∈ L
    · have h1 := ih (L := L.erase N) (hn.erase N) fun x hx => by
        have h2 := (List.Nodup.mem_erase_iff hn).mp hx
        have := h x h2.2
        have := h2.1
        omega
      rw [List.length_erase_of_mem c] at h1
      omega
    · have h1 := ih hn fun x hx => by
        have := h x hx
        have : x ≠ N := fun z => c (by rw [← z]; exact hx)
        omega
      omega
/-! ### coming to -/
structure RInv (E : Nat → Nat → Prop) (s : Nat) (seen waiting : List Nat) : Prop where
  nd : seen.Nodup
  st : s ∈ seen
  sub : ∀ x ∈ waiting, x ∈ seen
  ok : ∀ x ∈ seen, Rch E s x
  cl : ∀ u ∈ seen, u ∉ waiting → ∀ v, E u v → v ∈ seen
/-- while the ties from one place are gone through; D: those that were -/
structure RMid (E : Nat → Nat → Prop) (s here : Nat) (D : Nat → Prop) (seen waiting : List Nat) : Prop where
  nd : seen.Nodup
  st : s ∈ seen
  hh : here ∈ seen
  sub : ∀ x ∈ waiting, x ∈ seen
  ok : ∀ x ∈ seen, Rch E s x
  cl : ∀ u ∈ seen, u ∉ waiting → u ≠ here → ∀ v, E u v → v ∈ seen
  dn : ∀ v, D v → v ∈ seen
theorem r_start {E : Nat → Nat → Prop} (s : Nat) : RInv E s [s] [s] := by
  refine ⟨by simp, by simp, fun x h => h, fun x h => ?_, fun u h hn => absurd h hn⟩
  rw [List.mem_singleton.mp h]
  exact ⟨0, .nil s⟩
theorem r_pop {E : Nat → Nat → Prop} {s : Nat} {seen w : List Nat} {here : Nat} (h : RInv E s seen (w ++ [here])) : RMid E s here (fun _ => False) seen w := by
  refine ⟨h.nd, h.st, h.sub here (by simp), fun x hx => h.sub x (by simp [hx]), h.ok, fun u hu hn hne v hv => ?_, fun v hv => hv.elim⟩
  refine h.cl u hu (fun hm => ?_) v hv
  rcases List.mem_append.mp hm with z | z
  · exact hn z
  · exact hne (List.mem_singleton.mp z)
theorem r_new {E : Nat → Nat → Prop} {s here v : Nat} {D D' : Nat → Prop} {seen w : List Nat} (h : RMid E s here D seen w) (e : E here v) (hv : v ∉ seen) (hD : ∀ x, D' x → D x ∨ x = v) : RMid E s here D' (seen ++ [v]) (w ++ [v]) := by
  refine ⟨?_, by simp [h.st], by simp [h.hh], fun x hx => ?_, fun x hx => ?_, fun u hu hn hne x hx => ?_, fun x hx => ?_⟩
  · rw [List.nodup_append]
    exact ⟨h.nd, by simp, fun a ha b hb => by rw [List.mem_singleton.mp hb]; rintro rfl; exact hv ha⟩
  · rcases List.mem_append.mp hx with z | z
    · exact List.mem_append_left _ (h.sub x z)
    · exact List.mem_append_right _ z
  · rcases List.mem_append.mp hx with z | z
    · exact h.ok x z
    · rw [List.mem_singleton.mp z]
      obtain ⟨k, hk⟩ := h.ok here h.hh
      exact ⟨k + 1, .snoc hk e⟩
  · rcases List.mem_append.mp hu with z | z
    · exact List.mem_append_left _ (h.cl u z (fun m => hn (List.mem_append_left _ m)) hne x hx)
    · exact absurd (List.mem_append_right _ z) hn
  · rcases hD x hx with z | z
    · exact List.mem_append_left _ (h.dn x z)
    · rw [z]; simp
theorem r_old {E : Nat → Nat → Prop} {s here : Nat} {D D' : Nat → Prop} {seen w : List Nat} (h : RMid E s here D seen w) (hD : ∀ x, D' x → D x ∨ x ∈ seen) : RMid E s here D' seen w :=
  ⟨h.nd, h.st, h.hh, h.sub, h.ok, h.cl, fun x hx => (hD x hx).elim (h.dn x) id⟩
theorem r_done {E : Nat → Nat → Prop} {s here : Nat} {D : Nat → Prop} {seen w : List Nat} (h : RMid E s here D seen w) (hD : ∀ v, E here v → D v) : RInv E s seen w := by
  refine ⟨h.nd, h.st, h.sub, h.ok, fun u hu hn v hv => ?_⟩
  by_cases c : u = here
  · subst c
    exact h.dn v (hD v hv)
  · exact h.cl u hu hn c v hv
theorem r_end {E : Nat → Nat → Prop} {s : Nat} {seen : List Nat} (h : RInv E s seen []) (x : Nat) : x ∈ seen ↔ Rch E s x := by
  refine ⟨h.ok x, ?_⟩
  rintro ⟨k, hk⟩
  induction k generalizing x with
  | zero => rw [wk_zero hk]; exact h.st
  | succ k ih =>
    obtain ⟨y, h1, h2⟩ := wk_succ hk
    exact h.cl y (ih y h1) (by simp) x h2
/-! ### the fewest ties, by levels -/
def Few (E : Nat → Nat → Prop) (a b D : Nat) : Prop := 1 ≤ D ∧ Wk E D a b ∧ ∀ k, 1 ≤ k → k < D → ¬ Wk E k a b
structure Lev (E : Nat → Nat → Prop) (a b m : Nat) (here met : List Nat) : Prop where
  mt : ∀ x, x ∈ met ↔ ∃ j, 1 ≤ j ∧ j ≤ m ∧ Wk E j a x
  hr : ∀ x, x ∈ here ↔ Wk E m a x ∧ ∀ j, 1 ≤ j → j < m → ¬ Wk E j a x
  no : b ∉ met
  nd : met.Nodup
theorem lev_start {E : Nat → Nat → Prop} (a b : Nat) : Lev E a b 0 [a] [] := by
  refine ⟨fun x => ⟨fun h => by simp at h, fun ⟨j, h1, h2, _⟩ => by omega⟩, fun x => ⟨fun h => ?_, fun h => ?_⟩, by simp, by simp⟩
  · rw [List.mem_singleton.mp h]
    exact ⟨.nil a, fun j h1 h2 => by omega⟩
  · rw [wk_zero h.1]
    simp
/-- the next level, by what it holds -/
theorem lev_next {E : Nat → Nat → Prop} {a b m : Nat} {here met met' later : List Nat} (h : Lev E a b m here met) (h1 : ∀ x, x ∈ met' ↔ x ∈ met ∨ ∃ u ∈ here, E u x) (h2 : ∀ x, x ∈ later ↔ x ∉ met ∧ ∃ u ∈ here, E u x) :
    (∀ x, x ∈ met' ↔ ∃ j, 1 ≤ j ∧ j ≤ m + 1 ∧ Wk E j a x) ∧ (∀ x, x ∈ later ↔ Wk E (m + 1) a x ∧ ∀ j, 1 ≤ j → j < m + 1 → ¬ Wk E j a x) := by
  have key : ∀ x, Wk E (m + 1) a x → x ∈ met ∨ ∃ u ∈ here, E u x := fun x hx => by
    obtain ⟨u, hu, e⟩ := wk_succ hx
    by_cases c : u ∈ here
    · exact .inr ⟨u, c, e⟩
    · left
      rw [h.hr] at c
      have c2 : ∃ j, 1 ≤ j ∧ j < m ∧ Wk E j a u := by
        by_cases c3 : ∃ j, 1 ≤ j ∧ j < m ∧ Wk E j a u
        · exact c3
        · exact absurd ⟨hu, fun j g1 g2 g3 => c3 ⟨j, g1, g2, g3⟩⟩ c
      obtain ⟨j, g1, g2, g3⟩ := c2
      exact (h.mt x).mpr ⟨j + 1, by omega, by omega, .snoc g3 e⟩
  have here_wk : ∀ x, (∃ u ∈ here, E u x) → Wk E (m + 1) a x := fun x ⟨u, hu, e⟩ => .snoc ((h.hr u).mp hu).1 e
  constructor
  · intro x
    rw [h1]
    constructor
    · rintro (hx | hx)
      · obtain ⟨j, g1, g2, g3⟩ := (h.mt x).mp hx
        exact ⟨j, g1, by omega, g3⟩
      · exact ⟨m + 1, by omega, by omega, here_wk x hx⟩
    · rintro ⟨j, g1, g2, g3⟩
      by_cases c : j ≤ m
      · exact .inl ((h.mt x).mpr ⟨j, g1, c, g3⟩)
      · have e : j = m + 1 := by omega
        subst e
        exact key x g3
  · intro x
    rw [h2]
    constructor
    · rintro ⟨hx, hu⟩
      exact ⟨here_wk x hu, fun j g1 g2 g3 => hx ((h.mt x).mpr ⟨j, g1, by omega, g3⟩)⟩
    · rintro ⟨g1, g2⟩
      have hx : x ∉ met := fun hm => by
        obtain ⟨j, k1, k2, k3⟩ := (h.mt x).mp hm
        exact g2 j k1 (by omega) k3
      exact ⟨hx, (key x g1).resolve_left hx⟩
theorem lev_few {E : Nat → Nat → Prop} {a b m : Nat} {here met met' : List Nat} (h : Lev E a b m here met) (h1 : ∀ x, x ∈ met' ↔ ∃ j, 1 ≤ j ∧ j ≤ m + 1 ∧ Wk E j a x) (hb : b ∈ met') : Few E a b (m + 1) := by
  obtain ⟨j, g1, g2, g3⟩ := (h1 b).mp hb
  have old : ∀ k, 1 ≤ k → k ≤ m → ¬ Wk E k a b := fun k k1 k2 k3 => h.no ((h.mt b).mpr ⟨k, k1, k2, k3⟩)
  have e : j = m + 1 := by
    rcases Nat.lt_or_ge m j with z | z
    · omega
    · exact absurd g3 (old j g1 z)
  subst e
  exact ⟨by omega, g3, fun k k1 k2 => old k k1 (by omega)⟩
theorem lev_none {E : Nat → Nat → Prop} {a b m : Nat} {met : List Nat} (h : Lev E a b m [] met) : ∀ k, 1 ≤ k → ¬ Wk E k a b := by
  intro k
  induction k using Nat.strongRecOn with
  | _ k ih =>
    intro k1 hk
    by_cases c : k ≤ m
    · exact h.no ((h.mt b).mpr ⟨k, k1, c, hk⟩)
    · obtain ⟨u, h1, h2⟩ := wk_split (k - m) m (by rw [show m + (k - m) = k by omega]; exact hk)
      have hu : u ∉ ([] : List Nat) := by simp
      rw [h.hr] at hu
      have c2 : ∃ j, 1 ≤ j ∧ j < m ∧ Wk E j a u := by
        by_cases c3 : ∃ j, 1 ≤ j ∧ j < m ∧ Wk E j a u
        · exact c3
        · exact absurd ⟨h1, fun j g1 g2 g3 => c3 ⟨j, g1, g2, g3⟩⟩ hu
      obtain ⟨j, g1, g2, g3⟩ := c2
      exact ih (j + (k - m)) (by omega) (by omega) (wk_append g3 h2)
theorem few_unique {E : Nat → Nat → Prop} {a b c d : Nat} (h1 : Few E a b c) (h2 : Few E a b d) : c = d := by
  rcases Nat.lt_trichotomy c d with z | z | z
  · exact absurd h1.2.1 (h2.2.2 c h1.1 z)
  · exact z
  · exact absurd h2.2.1 (h1.2.2 d h2.1 z)
/-! ### a shortest way, by a line of places -/
/-- L: the line, its first place near; T: the ties by which the others were come to; ds: how many ties -/
structure Bfs (ts : List (Nat × Nat)) (W : List Nat) (a : Nat) (L T ds : List Nat) : Prop where
  l1 : L.length = T.length + 1
  l2 : ds.length = L.length
  l0 : L[0]? = some a
  d0 : ds[0]? = some 0
  nd : (L.drop 1).Nodup
  mono : ∀ (i j x y : Nat), i < j → ds[i]? = some x → ds[j]? = some y → x ≤ y
  by_ : ∀ (j t : Nat), T[j]? = some t → ∃ (u v i x : Nat), ts[t]? = some (u, v) ∧ t ∉ W ∧ L[j + 1]? = some v ∧ i ≤ j ∧ L[i]? = some u ∧ ds[i]? = some x ∧ ds[j + 1]? = some (x + 1) ∧ (0 < i → u ≠ a)
  wk : ∀ (j v x : Nat), L[j]? = some v → ds[j]? = some x → Wk (Edge ts W) x a v
/-- the first n of the line are done -/
structure Done (ts : List (Nat × Nat)) (W : List Nat) (n : Nat) (L ds : List Nat) : Prop where
  cl : ∀ (i u x v : Nat), i < n → L[i]? = some u → ds[i]? = some x → Edge ts W u v → ∃ (j y : Nat), L[j + 1]? = some v ∧ ds[j + 1]? = some y ∧ y ≤ x + 1
  up : ∀ (j y x : Nat), 0 < n → ds[j]? = some y → ds[n - 1]? = some x → y ≤ x + 1
  one : n = 0 → L.length = 1
theorem bfs_start (ts : List (Nat × Nat)) (W : List Nat) (a : Nat) : Bfs ts W a [a] [] [0] ∧ Done ts W 0 [a] [0] := by
  refine ⟨⟨rfl, rfl, rfl, rfl, by simp, fun i j x y h h1 h2 => ?_, fun j t h => by simp at h, fun j v x h1 h2 => ?_⟩, ⟨fun i u x v h => by omega, fun j y x h => by omega, fun _ => rfl⟩⟩
  · have := (List.getElem?_eq_some_iff.mp h2).1
    simp at this
    omega
  · have hj := (List.getElem?_eq_some_iff.mp h1).1
    simp at hj
    subst hj
    cases h1
    cases h2
    exact .nil a
/-- whoever is come to by so many ties stands in the line -/
theorem bfs_all {ts : List (Nat × Nat)} {W : List Nat} {a n : Nat} {L T ds : List Nat} (h : Bfs ts W a L T ds) (hd : Done ts W n L ds) : ∀ k v, 1 ≤ k → Wk (Edge ts W) k a v → (∀ x, n < L.length → ds[n]? = some x → k ≤ x) → ∃ (j y : Nat), L[j + 1]? = some v ∧ ds[j + 1]? = some y ∧ y ≤ k := by
  intro k
  induction k with
  | zero => intro v h1; omega
  | succ k ih =>
    intro v _ hw hx
    obtain ⟨u, h1, e⟩ := wk_succ hw
    have small : ∀ (i y : Nat), L[i]? = some u → ds[i]? = some y → y ≤ k → ∃ (j y : Nat), L[j + 1]? = some v ∧ ds[j + 1]? = some y ∧ y ≤ k + 1 := fun i y g1 g2 g3 => by
      have hin : i < n := by
        rcases Nat.lt_or_ge i n with z | z
        · exact z
        · exfalso
          have hi := (List.getElem?_eq_some_iff.mp g1).1
          have hn : n < L.length := by omega
          obtain ⟨x, ex⟩ : ∃ x, ds[n]? = some x := ⟨ds[n]'(by rw [h.l2]; exact hn), List.getElem?_eq_getElem _⟩
          have k1 := hx x hn ex
          by_cases c : i = n
          · subst c
            rw [g2] at ex
            cases ex
            omega
          · have := h.mono n i x y (by omega) ex g2
            omega
      obtain ⟨j, z, q1, q2, q3⟩ := hd.cl i u y v hin g1 g2 e
      exact ⟨j, z, q1, q2, by omega⟩
    rcases Nat.eq_zero_or_pos k with z | z
    · subst z
      have eu := wk_zero h1
      subst eu
      exact small 0 0 h.l0 h.d0 (Nat.le_refl _)
    · obtain ⟨j, y, g1, g2, g3⟩ := ih u z h1 fun x q1 q2 => by have := hx x q1 q2; omega
      exact small (j + 1) y g1 g2 g3
theorem get_drop {L : List Nat} {v : Nat} : v ∈ L.drop 1 ↔ ∃ j : Nat, L[j + 1]? = some v := by
  rw [List.mem_iff_getElem?]
  constructor
  · rintro ⟨i, hi⟩
    rw [List.getElem?_drop] at hi
    exact ⟨i, by rw [Nat.add_comm]; exact hi⟩
  · rintro ⟨j, hj⟩
    exact ⟨j, by rw [List.getElem?_drop, Nat.add_comm]; exact hj⟩
/-- while the ties from the place at n are gone through; G: those places that were come to -/
structure Mid (ts : List (Nat × Nat)) (W : List Nat) (a n here : Nat) (G : Nat → Prop) (L T ds : List Nat) : Prop where
  b : Bfs ts W a L T ds
  at_ : L[n]? = some here
  cl : ∀ (i u x v : Nat), i < n → L[i]? = some u → ds[i]? = some x → Edge ts W u v → ∃ (j y : Nat), L[j + 1]? = some v ∧ ds[j + 1]? = some y ∧ y ≤ x + 1
  up : ∀ (j y x : Nat), ds[j]? = some y → ds[n]? = some x → y ≤ x + 1
  dn : ∀ v, G v → v ∈ L.drop 1
theorem mid_start {ts : List (Nat × Nat)} {W : List Nat} {a n here : Nat} {L T ds : List Nat} (h : Bfs ts W a L T ds) (hd : Done ts W n L ds) (e : L[n]? = some here) : Mid ts W a n here (fun _ => False) L T ds := by
  refine ⟨h, e, hd.cl, fun j y x h1 h2 => ?_, fun v hv => hv.elim⟩
  have hj := (List.getElem?_eq_some_iff.mp h1).1
  have hn := (List.getElem?_eq_some_iff.mp h2).1
  rcases Nat.eq_zero_or_pos n with z | z
  · have h3 := hd.one z
    rw [h.l2, h3] at hj
    have ej : j = 0 := by omega
    subst ej
    rw [h.d0] at h1
    cases h1
    omega
  · obtain ⟨x', ex⟩ : ∃ x', ds[n - 1]? = some x' := ⟨ds[n - 1]'(by omega), List.getElem?_eq_getElem _⟩
    have h3 := hd.up j y x' z h1 ex
    have h4 := h.mono (n - 1) n x' x (by omega) ex h2
    omega
theorem get_snoc {L : List Nat} {i v : Nat} (w : Nat) (h : L[i]? = some v) : (L ++ [w])[i]? = some v := by
  rw [List.getElem?_append_left (List.getElem?_eq_some_iff.mp h).1]
  exact h
theorem of_snoc {L : List Nat} {i v w : Nat} (h : (L ++ [w])[i]? = some v) : (L[i]? = some v ∧ i < L.length) ∨ (i = L.length ∧ v = w) := by
  by_cases c : i < L.length
  · rw [List.getElem?_append_left c] at h
    exact .inl ⟨h, c⟩
  · have hi := (List.getElem?_eq_some_iff.mp h).1
    rw [List.length_append] at hi
    have e : i = L.length := by simp at hi; omega
    subst e
    rw [List.getElem?_append_right (Nat.le_refl _), Nat.sub_self] at h
    cases h
    exact .inr ⟨rfl, rfl⟩
theorem last_snoc (L : List Nat) (w : Nat) : (L ++ [w])[L.length]? = some w := by
  rw [List.getElem?_append_right (Nat.le_refl _), Nat.sub_self]
  rfl
theorem mid_new {ts : List (Nat × Nat)} {W : List Nat} {a n here v t x : Nat} {G G' : Nat → Prop} {L T ds : List Nat} (h : Mid ts W a n here G L T ds) (e : ts[t]? = some (here, v)) (hW : t ∉ W) (hv : v ∉ L.drop 1) (hx : ds[n]? = some x) (hG : ∀ w, G' w → G w ∨ w = v) :
    Mid ts W a n here G' (L ++ [v]) (T ++ [t]) (ds ++ [x + 1]) := by
  have hb := h.b
  have hn := (List.getElem?_eq_some_iff.mp h.at_).1
  have l1 := hb.l1
  have l2 := hb.l2
  have hdrop : (L ++ [v]).drop 1 = L.drop 1 ++ [v] := by rw [List.drop_append_of_le_length (by omega)]
  have ha : 0 < n → here ≠ a := fun hn0 hha => by
    subst hha
    obtain ⟨j, y, g1, _⟩ := h.cl 0 here 0 v hn0 hb.l0 hb.d0 ⟨t, e, hW⟩
    exact hv (get_drop.mpr ⟨j, g1⟩)
  have hwk := hb.wk n here x h.at_ hx
  refine ⟨⟨by simp; omega, by simp; omega, get_snoc _ hb.l0, get_snoc _ hb.d0, ?_, fun i j p q hij g1 g2 => ?_, fun j s g => ?_, fun j w p g1 g2 => ?_⟩, get_snoc _ h.at_, fun i u p w hi g1 g2 he => ?_, fun j y p g1 g2 => ?_, fun w hw => ?_⟩
  · rw [hdrop, List.nodup_append]
    exact ⟨hb.nd, by simp, fun p hp q hq => by rw [List.mem_singleton.mp hq]; rintro rfl; exact hv hp⟩
  · rcases of_snoc g2 with ⟨k2, k3⟩ | ⟨k2, k3⟩
    · rcases of_snoc g1 with ⟨k4, _⟩ | ⟨k4, _⟩
      · exact hb.mono i j p q hij k4 k2
      · omega
    · rcases of_snoc g1 with ⟨k4, _⟩ | ⟨k4, _⟩
      · have := h.up i p x k4 hx
        omega
      · omega
  · rcases of_snoc g with ⟨k2, k3⟩ | ⟨k2, k3⟩
    · obtain ⟨u, w, i, p, q1, q2, q3, q4, q5, q6, q7, q8⟩ := hb.by_ j s k2
      exact ⟨u, w, i, p, q1, q2, get_snoc _ q3, q4, get_snoc _ q5, get_snoc _ q6, get_snoc _ q7, q8⟩
    · subst k2 k3
      refine ⟨here, v, n, x, e, hW, ?_, by omega, get_snoc _ h.at_, get_snoc _ hx, ?_, ha⟩
      · rw [← l1]; exact last_snoc _ _
      · rw [← l1, ← l2]; exact last_snoc _ _
  · rcases of_snoc g1 with ⟨k2, k3⟩ | ⟨k2, k3⟩
    · rcases of_snoc g2 with ⟨k4, _⟩ | ⟨k4, _⟩
      · exact hb.wk j w p k2 k4
      · omega
    · rcases of_snoc g2 with ⟨k4, k5⟩ | ⟨_, k5⟩
      · omega
      · subst k3 k5
        exact .snoc hwk ⟨t, e, hW⟩
  · have hil : i < L.length := by omega
    rcases of_snoc g1 with ⟨k2, _⟩ | ⟨k2, _⟩
    · rcases of_snoc g2 with ⟨k4, _⟩ | ⟨k4, _⟩
      · obtain ⟨j, y, r1, r2, r3⟩ := h.cl i u p w hi k2 k4 he
        exact ⟨j, y, get_snoc _ r1, get_snoc _ r2, r3⟩
      · omega
    · omega
  · have hp : p = x := by
      rcases of_snoc g2 with ⟨k4, _⟩ | ⟨k4, _⟩
      · rw [hx] at k4; cases k4; rfl
      · omega
    subst hp
    rcases of_snoc g1 with ⟨k2, _⟩ | ⟨_, k2⟩
    · exact h.up j y p k2 hx
    · omega
  · rw [hdrop]
    rcases hG w hw with z | z
    · exact List.mem_append_left _ (h.dn w z)
    · rw [z]; simp
theorem mid_old {ts : List (Nat × Nat)} {W : List Nat} {a n here : Nat} {G G' : Nat → Prop} {L T ds : List Nat} (h : Mid ts W a n here G L T ds) (hG : ∀ w, G' w → G w ∨ w ∈ L.drop 1) : Mid ts W a n here G' L T ds :=
  ⟨h.b, h.at_, h.cl, h.up, fun v hv => (hG v hv).elim (h.dn v) id⟩
theorem mid_done {ts : List (Nat × Nat)} {W : List Nat} {a n here : Nat} {G : Nat → Prop} {L T ds : List Nat} (h : Mid ts W a n here G L T ds) (hG : ∀ v, Edge ts W here v → G v) : Bfs ts W a L T ds ∧ Done ts W (n + 1) L ds := by
  refine ⟨h.b, ⟨fun i u x v hi g1 g2 he => ?_, fun j y x _ g1 g2 => h.up j y x g1 g2, fun z => by omega⟩⟩
  by_cases c : i < n
  · exact h.cl i u x v c g1 g2 he
  · have e : i = n := by omega
    subst e
    rw [h.at_] at g1
    cases g1
    obtain ⟨j, hj⟩ := get_drop.mp (h.dn v (hG v he))
    have hl := (List.getElem?_eq_some_iff.mp hj).1
    obtain ⟨y, ey⟩ : ∃ y, ds[j + 1]? = some y := ⟨ds[j + 1]'(by rw [h.b.l2]; exact hl), List.getElem?_eq_getElem _⟩
    exact ⟨j, y, hj, ey, h.up _ _ _ ey g2⟩
/-- far was come to just now: by the fewest ties -/
theorem bfs_few {ts : List (Nat × Nat)} {W : List Nat} {a b n here : Nat} {G : Nat → Prop} {L T ds L' T' ds' : List Nat} (h : Bfs ts W a L T ds) (hd : Done ts W n L ds) (hn : n < L.length) (hb : b ∉ L.drop 1)
    (h' : Mid ts W a n here G L' T' ds') (hds : ds[n]? = ds'[n]?) {j y : Nat} (e1 : L'[j + 1]? = some b) (e2 : ds'[j + 1]? = some y) : Few (Edge ts W) a b y := by
  have hw := h'.b.wk _ _ _ e1 e2
  have hl := (List.getElem?_eq_some_iff.mp e1).1
  obtain ⟨t, et⟩ : ∃ t, T'[j]? = some t := ⟨T'[j]'(by have := h'.b.l1; omega), List.getElem?_eq_getElem _⟩
  obtain ⟨u, v, i, x, _, _, _, _, _, _, q7, _⟩ := h'.b.by_ j t et
  rw [e2] at q7
  have ey : y = x + 1 := Option.some.inj q7
  obtain ⟨z, ez⟩ : ∃ z, ds[n]? = some z := ⟨ds[n]'(by rw [h.l2]; exact hn), List.getElem?_eq_getElem _⟩
  have hz := h'.up (j + 1) y z e2 (by rw [← hds]; exact ez)
  refine ⟨by omega, hw, fun k k1 k2 hk => ?_⟩
  obtain ⟨j', _, g1, _⟩ := bfs_all h hd k b k1 hk fun x' _ ex' => by
    rw [ez] at ex'
    cases ex'
    omega
  exact hb (get_drop.mpr ⟨j', g1⟩)
theorem bfs_none {ts : List (Nat × Nat)} {W : List Nat} {a b n : Nat} {L T ds : List Nat} (h : Bfs ts W a L T ds) (hd : Done ts W n L ds) (hn : ¬ n < L.length) (hb : b ∉ L.drop 1) : ∀ k, 1 ≤ k → ¬ Wk (Edge ts W) k a b := by
  intro k k1 hk
  obtain ⟨j, _, g1, _⟩ := bfs_all h hd k b k1 hk fun x hx => absurd hx hn
  exact hb (get_drop.mpr ⟨j, g1⟩)
/-! ### the way back -/
inductive Pth (ts : List (Nat × Nat)) (W : List Nat) : Nat → List Nat → Nat → Prop where
  | one {t u v : Nat} : ts[t]? = some (u, v) → t ∉ W → Pth ts W u [t] v
  | cons {t u x v : Nat} {r : List Nat} : ts[t]? = some (u, x) → t ∉ W → Pth ts W x r v → Pth ts W u (t :: r) v
end My
namespace My
open PySem L2 PyProof.Rows
def topS (i : Nat) : Stmt := PySem.Challenge.pw_suretexts_k22_whole_coming_to_and_ways.main.body.getD i (.Pass ⟨0, 0, 0, 0⟩)
abbrev s_wall : Stmt := topS 0
theorem sc_wall : FnScope ["k"] ["k"] (defScope s_wall) := ⟨rfl, rfl, rfl, by decide +kernel, rfl, by decide +kernel, by decide +kernel⟩
abbrev sis_integer : Stmt := topS 9
theorem scis_integer : FnScope ["value"] ["value"] (defScope sis_integer) := ⟨rfl, rfl, rfl, by decide +kernel, rfl, by decide +kernel, by decide +kernel⟩
abbrev sis_count : Stmt := topS 10
theorem scis_count : FnScope ["value"] ["value"] (defScope sis_count) := ⟨rfl, rfl, rfl, by decide +kernel, rfl, by decide +kernel, by decide +kernel⟩
abbrev sis_between : Stmt := topS 11
theorem scis_between : FnScope ["value", "least", "most"] ["value", "least", "most"] (defScope sis_between) := ⟨rfl, rfl, rfl, by decide +kernel, rfl, by decide +kernel, by decide +kernel⟩
abbrev sis_below : Stmt := topS 12
theorem scis_below : FnScope ["value", "limit"] ["value", "limit"] (defScope sis_below) := ⟨rfl, rfl, rfl, by decide +kernel, rfl, by decide +kernel, by decide +kernel⟩
abbrev sis_listed : Stmt := topS 13
theorem scis_listed : FnScope ["value"] ["value"] (defScope sis_listed) := ⟨rfl, rfl, rfl, by decide +kernel, rfl, by decide +kernel, by decide +kernel⟩
abbrev sare_ties : Stmt := topS 17
theorem scare_ties : FnScope ["places", "value", "tie"] ["places", "value"] (defScope sare_ties) := ⟨rfl, rfl, rfl, by decide +kernel, rfl, by decide +kernel, by decide +kernel⟩
abbrev sneed_web : Stmt := topS 19
theorem scneed_web : FnScope ["web"] ["web"] (defScope sneed_web) := ⟨rfl, rfl, rfl, by decide +kernel, rfl, by decide +kernel, by decide +kernel⟩
abbrev sneed_place : Stmt := topS 20
theorem scneed_place : FnScope ["web", "place"] ["web", "place"] (defScope sneed_place) := ⟨rfl, rfl, rfl, by decide +kernel, rfl, by decide +kernel, by decide +kernel⟩
abbrev sare_numbers : Stmt := topS 21
theorem scare_numbers : FnScope ["web", "value", "tie"] ["web", "value"] (defScope sare_numbers) := ⟨rfl, rfl, rfl, by decide +kernel, rfl, by decide +kernel, by decide +kernel⟩
abbrev s_need_without : Stmt := topS 23
theorem sc_need_without : FnScope ["web", "without"] ["web", "without"] (defScope s_need_without) := ⟨rfl, rfl, rfl, by decide +kernel, rfl, by decide +kernel, by decide +kernel⟩
abbrev s_places_to : Stmt := topS 24
theorem sc_places_to : FnScope ["web", "without", "ends", "tie", "near", "far", "_"] ["web", "without"] (defScope s_places_to) := ⟨rfl, rfl, rfl, by decide +kernel, rfl, by decide +kernel, by decide +kernel⟩
abbrev sreach : Stmt := topS 25
theorem screach : FnScope ["web", "place", "without", "ends", "seen", "waiting", "here", "end"] ["web", "place", "without"] (defScope sreach) := ⟨rfl, rfl, rfl, by decide +kernel, rfl, by decide +kernel, by decide +kernel⟩
abbrev sway : Stmt := topS 26
theorem scway : FnScope ["web", "near", "far", "without", "ties", "came_by", "line", "at", "place", "tie", "end"] ["web", "near", "far", "without"] (defScope sway) := ⟨rfl, rfl, rfl, by decide +kernel, rfl, by decide +kernel, by decide +kernel⟩
abbrev s_walk_back : Stmt := topS 27
theorem sc_walk_back : FnScope ["ties", "came_by", "near", "far", "back"] ["ties", "came_by", "near", "far"] (defScope s_walk_back) := ⟨rfl, rfl, rfl, by decide +kernel, rfl, by decide +kernel, by decide +kernel⟩
abbrev s_law_pot : Stmt := topS 29
theorem sc_law_pot : FnScope ["_law_script", "_law_k", "_law_cell", "_law_mixed"] ["_law_script", "_law_k"] (defScope s_law_pot) := ⟨rfl, rfl, rfl, by decide +kernel, rfl, by decide +kernel, by decide +kernel⟩
abbrev s_law_draw : Stmt := topS 30
theorem sc_law_draw : FnScope ["_law_pot_here", "_law_many", "_law_drawn"] ["_law_pot_here", "_law_many"] (defScope s_law_draw) := ⟨rfl, rfl, rfl, by decide +kernel, rfl, by decide +kernel, by decide +kernel⟩
abbrev s_law_ties : Stmt := topS 31
theorem sc_law_ties : FnScope ["_law_pot_here", "_law_places", "_law_most", "_law_found", "_law_turn"] ["_law_pot_here", "_law_places", "_law_most"] (defScope s_law_ties) := ⟨rfl, rfl, rfl, by decide +kernel, rfl, by decide +kernel, by decide +kernel⟩
abbrev s_law_ring : Stmt := topS 32
theorem sc_law_ring : FnScope ["_law_first", "_law_many", "_law_found", "_law_at"] ["_law_first", "_law_many"] (defScope s_law_ring) := ⟨rfl, rfl, rfl, by decide +kernel, rfl, by decide +kernel, by decide +kernel⟩
abbrev s_law_made : Stmt := topS 33
theorem sc_law_made : FnScope ["_law_pot_here", "_law_kind", "_law_places", "_law_near", "_law_far", "_law_ties_here"] ["_law_pot_here"] (defScope s_law_made) := ⟨rfl, rfl, rfl, by decide +kernel, rfl, by decide +kernel, by decide +kernel⟩
abbrev s_law_reach : Stmt := topS 34
theorem sc_law_reach : FnScope ["_law_ties_here", "_law_place", "_law_without_here", "_law_found", "_law_waiting", "_law_near", "_law_number", "_law_tie"] ["_law_ties_here", "_law_place", "_law_without_here"] (defScope s_law_reach) := ⟨rfl, rfl, rfl, by decide +kernel, rfl, by decide +kernel, by decide +kernel⟩
abbrev s_law_fewest : Stmt := topS 35
theorem sc_law_fewest : FnScope ["_law_ties_here", "_law_near", "_law_far", "_law_without_here", "_law_here", "_law_met", "_law_many", "_law_later", "_law_number", "_law_tie"] ["_law_ties_here", "_law_near", "_law_far", "_law_without_here"] (defScope s_law_fewest) := ⟨rfl, rfl, rfl, by decide +kernel, rfl, by decide +kernel, by decide +kernel⟩
abbrev s_law_is_way : Stmt := topS 36
theorem sc_law_is_way : FnScope ["_law_ties_here", "_law_near", "_law_far", "_law_without_here", "_law_value", "_law_one", "_law_other"] ["_law_ties_here", "_law_near", "_law_far", "_law_without_here", "_law_value"] (defScope s_law_is_way) := ⟨rfl, rfl, rfl, by decide +kernel, rfl, by decide +kernel, by decide +kernel⟩
abbrev s_law_without : Stmt := topS 37
theorem sc_law_without : FnScope ["_law_pot_here", "_law_ties_here", "_law_found", "_law_turn"] ["_law_pot_here", "_law_ties_here"] (defScope s_law_without) := ⟨rfl, rfl, rfl, by decide +kernel, rfl, by decide +kernel, by decide +kernel⟩
abbrev s_law_right : Stmt := topS 38
theorem sc_law_right : FnScope ["_law_pot_here", "_law_places", "_law_ties_here", "_law_web", "_law_near", "_law_without_here", "_law_far", "_law_due", "_law_told"] ["_law_pot_here"] (defScope s_law_right) := ⟨rfl, rfl, rfl, by decide +kernel, rfl, by decide +kernel, by decide +kernel⟩
abbrev slaw : Stmt := topS 39
theorem sclaw : FnScope ["_law_script"] ["_law_script"] (defScope slaw) := ⟨rfl, rfl, rfl, by decide +kernel, rfl, by decide +kernel, by decide +kernel⟩
abbrev sWeb___init__ : Stmt := inClass (topS 18) 0
theorem scWeb___init__ : FnScope ["self", "places", "ties", "tie", "ends", "_"] ["self", "places", "ties"] (defScope sWeb___init__) := ⟨rfl, rfl, rfl, by decide +kernel, rfl, by decide +kernel, by decide +kernel⟩
abbrev sWeb___eq__ : Stmt := inClass (topS 18) 1
theorem scWeb___eq__ : FnScope ["self", "other"] ["self", "other"] (defScope sWeb___eq__) := ⟨rfl, rfl, rfl, by decide +kernel, rfl, by decide +kernel, by decide +kernel⟩
abbrev sWeb_places : Stmt := inClass (topS 18) 2
theorem scWeb_places : FnScope ["self"] ["self"] (defScope sWeb_places) := ⟨rfl, rfl, rfl, by decide +kernel, rfl, by decide +kernel, by decide +kernel⟩
abbrev sWeb_many : Stmt := inClass (topS 18) 3
theorem scWeb_many : FnScope ["self"] ["self"] (defScope sWeb_many) := ⟨rfl, rfl, rfl, by decide +kernel, rfl, by decide +kernel, by decide +kernel⟩
abbrev sWeb_ties : Stmt := inClass (topS 18) 4
theorem scWeb_ties : FnScope ["self"] ["self"] (defScope sWeb_ties) := ⟨rfl, rfl, rfl, by decide +kernel, rfl, by decide +kernel, by decide +kernel⟩
abbrev sWeb_ties_from : Stmt := inClass (topS 18) 5
theorem scWeb_ties_from : FnScope ["self", "place"] ["self", "place"] (defScope sWeb_ties_from) := ⟨rfl, rfl, rfl, by decide +kernel, rfl, by decide +kernel, by decide +kernel⟩
abbrev sWeb_ties_to : Stmt := inClass (topS 18) 6
theorem scWeb_ties_to : FnScope ["self", "place"] ["self", "place"] (defScope sWeb_ties_to) := ⟨rfl, rfl, rfl, by decide +kernel, rfl, by decide +kernel, by decide +kernel⟩
structure Bs (mg : Str → Option Value) : Prop where
  isinstance : mg "isinstance" = none
  int : mg "int" = none
  bool : mg "bool" = none
  list : mg "list" = none
  tuple : mg "tuple" = none
  len : mg "len" = none
  range : mg "range" = none
  abs : mg "abs" = none
  max : mg "max" = none
  divmod : mg "divmod" = none
  sorted : mg "sorted" = none
  enumerate : mg "enumerate" = none
  zip : mg "zip" = none
  any : mg "any" = none
  all : mg "all" = none
structure Glo (mg : Str → Option Value) : Prop where
  MOST_PLACES : ∃ t, mg "MOST_PLACES" = some (.int 60 t)
  MOST_TIES : ∃ t, mg "MOST_TIES" = some (.int 80 t)
structure WebK (K : PySem.W.Frag) (mg : Str → Option Value) (C : Addr) : Prop where
  cl : Cls K C
  nP : NoAttr K C "_places"
  nT : NoAttr K C "_ties"
  nF : NoAttr K C "_ties_from"
  nO : NoAttr K C "_ties_to"
  mgC : mg "Web" = some (.ref C)
  i1 : PySem.W.findIn K (.ref C) "__class__" = some (some (.builtin "object.__class__"))
  i2 : PySem.W.specialIn K (.builtin "object.__class__") "__get__" = some (some (.builtin "getset_descriptor.__get__"))
  i3 : PySem.W.takesIn K (.builtin "object.__class__") = some true
  i4 : PySem.W.mroIn K C (.type "object") = some true
  i5 : PySem.W.kitOne K (.ref C) (.ref C) = some true
abbrev iv (L : List Nat) : List V := L.map fun n : Nat => V.int (n : Int)
theorem same_new {H : Hp} {p : Addr} (h : H p = none) (o : HO) : Same H (upd H p o) := fun b u q => by rw [upd_ne (ne_of_none q h)]; exact q
theorem iteNo {c A B : Prop} [Decidable c] (h : ¬ c) (b : B) : if decide c = true then A else B := by
  rw [decide_eq_false h]
  exact iteF b
theorem iteNot {c A B : Prop} [Decidable c] (h : ¬ c) (a : A) : if (!decide c) = true then A else B := by
  rw [decide_eq_false h]
  exact iteT a
theorem iteNot' {c A B : Prop} [Decidable c] (h : c) (b : B) : if (!decide c) = true then A else B := by
  rw [decide_eq_true h]
  exact iteF b
theorem iteNN {c A B : Prop} [Decidable c] (h : ¬ c) (b : B) : if (!!decide c) = true then A else B := by
  rw [decide_eq_false h]
  exact iteF b
theorem iv_at {L : List Nat} {j b : Nat} (h : L[j]? = some b) : atI (iv L) (j : Int) = some (.int (b : Int)) := by
  refine atI_nat ?_
  rw [iv, List.getElem?_map, h]
  rfl
theorem iv_app (L : List Nat) (n : Nat) : iv (L ++ [n]) = iv L ++ [V.int (n : Int)] := by
  unfold iv
  rw [List.map_append]
  rfl
theorem same_upd {H H' : Hp} {p : Addr} {o : HO} (h : Same H H') (np : H p = none) : Same H (upd H' p o) := fun b u q => by
  rw [upd_ne (ne_of_none q np)]
  exact h b u q
theorem iteYes {c A B : Prop} [Decidable c] (h : c) (a : A) : if decide c = true then A else B := by
  rw [decide_eq_true h]
  exact iteT a
theorem bl_true {c : Prop} [Decidable c] {Q : VK} {H : Hp} (h : c) (q : Q (.bl true) H) : Q (.bl (decide c)) H := by
  rw [decide_eq_true h]
  exact q
theorem int_eq {a b : Int} : V.int a = V.int b ↔ a = b := ⟨fun h => V.int.inj h, fun h => by rw [h]⟩
/-! ### lists of ints compared -/
abbrev iz (L : List Int) : List V := L.map V.int
theorem iv_iz (L : List Nat) : iv L = iz (L.map fun n : Nat => (n : Int)) := by
  unfold iv iz
  rw [List.map_map]
  rfl
abbrev dz (L : List Int) : PyData := .list (L.map PyData.int)
theorem dpAll_iz {K : PySem.W.Frag} {H : Hp} : ∀ L : List Int, DpAll K H (iz L) (L.map PyData.int)
  | [] => .nil
  | n :: r => .cons (.int n) (dpAll_iz r)
theorem dp_iz {K : PySem.W.Frag} {H : Hp} {p : Addr} {L : List Int} (h : H p = some (.lst (iz L))) : Dp K H (.ref p) (dz L) := .lst (SqL.of h) (dpAll_iz L)
theorem layAll_iz : ∀ L : List Int, PyData.canLayAll0 (L.map PyData.int) = true
  | [] => rfl
  | n :: r => by
    show (PyData.canLay0 (.int n) && PyData.canLayAll0 (r.map PyData.int)) = true
    rw [layAll_iz r]
    rfl
theorem depthAll_iz : ∀ L : List Int, PyData.depthAll (L.map PyData.int) = 0
  | [] => rfl
  | n :: r => by
    show max (PyData.depth (.int n)) (PyData.depthAll (r.map PyData.int)) = 0
    rw [depthAll_iz r]
    rfl
theorem shaped_iz (L : List Int) : SeqAt.shaped (dz L) = true := by
  unfold SeqAt.shaped
  have h1 : PyData.canLay0 (dz L) = true := by
    show PyData.canLay0 (.list (L.map PyData.int)) = true
    unfold PyData.canLay0
    exact layAll_iz L
  have h2 : PyData.depth (dz L) = 1 := by
    show PyData.depth (.list (L.map PyData.int)) = 1
    unfold PyData.depth
    rw [depthAll_iz]
  rw [h1, h2]
  rfl
theorem eqv_same (L : List Int) : PyData.eqv (dz L) (dz L) = true := by
  have h1 : PyData.canLay0 (dz L) = true := by
    show PyData.canLay0 (.list (L.map PyData.int)) = true
    unfold PyData.canLay0
    exact layAll_iz L
  exact SeqAt.eqv_refl _ h1
theorem eqv_empty (L : List Int) : PyData.eqv (dz L) (dz []) = decide (L = []) := by
  cases L with
  | nil => rfl
  | cons n r => rfl
theorem iteNb {x : Bool} {A B : Prop} (h : x = true) (b : B) : if (!x) = true then A else B := by
  rw [h]
  exact iteF b
theorem bl_is {x : Bool} {Q : VK} {H : Hp} (h : x = true) (q : Q (.bl true) H) : Q (.bl x) H := by
  rw [h]
  exact q
/-! ### webs in the heap -/
def Kept (a : Addr) (H H' : Hp) : Prop := ∀ b o, H b = some o → b ≠ a → H' b = some o
theorem Kept.trans {a : Addr} {H H1 H2 : Hp} (h : Kept a H H1) (h2 : Kept a H1 H2) : Kept a H H2 := fun b o e n => h2 b o (h b o e n) n
theorem Same.kept {a : Addr} {H H' : Hp} (h : Same H H') : Kept a H H' := fun b o e _ => h b o e
theorem paired_get {α β : Type} {F : α → β → Prop} : ∀ {l1 : List α} {l2 : List β} {i : Nat} {a : α}, Paired F l1 l2 → l1[i]? = some a → ∃ b, l2[i]? = some b ∧ F a b
  | _, _, _, _, .nil, h => by simp at h
  | _, _, 0, _, .cons r _, h => ⟨_, rfl, by cases h; exact r⟩
  | _, _, i + 1, _, .cons _ t, h => by
    obtain ⟨b, h1, h2⟩ := paired_get (i := i) t (by simpa using h)
    exact ⟨b, by simpa using h1, h2⟩
theorem paired_mono {α β : Type} {F G : α → β → Prop} (h : ∀ a b, F a b → G a b) : ∀ {l1 : List α} {l2 : List β}, Paired F l1 l2 → Paired G l1 l2
  | _, _, .nil => .nil
  | _, _, .cons a r => .cons (h _ _ a) (paired_mono h r)
theorem paired_len {α β : Type} {F : α → β → Prop} : ∀ {l1 : List α} {l2 : List β}, Paired F l1 l2 → l1.length = l2.length
  | _, _, .nil => rfl
  | _, _, .cons _ r => congrArg Nat.succ (paired_len r)
def TupAt (H : Hp) (p : Addr) (e : Nat × Nat) : Prop := H p = some (.tup [.int (e.1 : Int), .int (e.2 : Int)])
def TiesAt (H : Hp) (t : Addr) (ts : List (Nat × Nat)) : Prop := ∃ tas : List Addr, H t = some (.lst (tas.map V.ref)) ∧ Paired (TupAt H) tas ts
theorem TiesAt.same {H H' : Hp} {t : Addr} {ts : List (Nat × Nat)} (h : TiesAt H t ts) (s : Same H H') : TiesAt H' t ts := by
  obtain ⟨tas, h1, h2⟩ := h
  exact ⟨tas, s _ _ h1, paired_mono (fun p e hp => s _ _ hp) h2⟩
structure OkWeb (N : Nat) (ts : List (Nat × Nat)) : Prop where
  n0 : 0 < N
  n1 : N ≤ 60
  m : ts.length ≤ 80
  ok : ∀ e ∈ ts, e.1 < N ∧ e.2 < N
section
variable {P : Program} {w : World} {K : PySem.W.Frag} {mg : Str → Option Value} {base : Heap} {C : Addr}
def spis_integer (_ : PySem.W.Frag) (_ : Addr) : Sp := fun vs H Q _ => ∃ n : Int, vs = [.int n] ∧ Q (.bl true) H
theorem okis_integer (D : Def K mg "is_integer" sis_integer ["value"]) (B : Bs mg) (Glb : Glo mg) (WK : WebK K mg C) :
    Good P w K mg base "is_integer" sis_integer ["value"] 1 (spis_integer K C) := by
  refine D.good fun f fd F => ?_
  refine F.ok scis_integer (fun vs H Q E h => ?_) (fun cdv A outer s H vs Q E hr h => ?_)
  · obtain ⟨n, rfl, q⟩ := h
    first | rfl | (rcases h with ⟨_, _, rfl, _⟩ | ⟨_, rfl, _⟩ <;> rfl)
  obtain ⟨n, rfl, q⟩ := h
  refine ⟨_, (pss_one (ps_ret (pe_and (pe_callB call_isi (by rfl) B.isinstance (by decide +kernel) (pa_cons (pv 0) (pa_cons (pe_bltn (v := .ty "int") (by rfl) B.int (by decide +kernel) rfl) pa_nil))) (pe_one (pe_not (pe_callB call_isi (by rfl) B.isinstance (by decide +kernel) (pa_cons (pv 0) (pa_cons (pe_bltn (v := .ty "bool") (by rfl) B.bool (by decide +kernel) rfl) pa_nil)))))))), ?_⟩
  exact ⟨_, rfl, _, _, _, _, true, rfl, .ty _, .base (.int n), kit_ty (by decide +kernel), _, rfl, iteT ⟨_, rfl, _, _, _, _, false, rfl, .ty _, .base (.int n), kit_ty (by decide +kernel), _, rfl, q⟩⟩
def spis_count (_ : PySem.W.Frag) (_ : Addr) : Sp := fun vs H Q _ => ∃ n : Nat, vs = [.int (n : Int)] ∧ Q (.bl true) H
theorem okis_count (D : Def K mg "is_count" sis_count ["value"]) (B : Bs mg) (Glb : Glo mg) (WK : WebK K mg C)
    (his_integer : Good P w K mg base "is_integer" sis_integer ["value"] 1 (spis_integer K C)) :
    Good P w K mg base "is_count" sis_count ["value"] 2 (spis_count K C) := by
  refine D.good fun f fd F => ?_
  obtain ⟨fis_integer, dis_integer, Ois_integer, mis_integer, kis_integer, bis_integer, Fis_integer⟩ := his_integer
  refine F.ok scis_count (fun vs H Q E h => ?_) (fun cdv A outer s H vs Q E hr h => ?_)
  · obtain ⟨n, rfl, q⟩ := h
    first | rfl | (rcases h with ⟨_, _, rfl, _⟩ | ⟨_, rfl, _⟩ <;> rfl)
  obtain ⟨n, rfl, q⟩ := h
  refine ⟨_, (pss_one (ps_ret (pe_and (pe_call Ois_integer hr rfl mis_integer kis_integer bis_integer .nil pass0 (pa_cons (pv 0) pa_nil)) (pe_one (pe_cmpR op_ge (pv 0) pe_int (nomark _)))))), ?_⟩
  exact ⟨_, rfl, n, rfl, _, rfl, iteT ⟨_, rfl, _, _, rfl, rfl, bl_true (by omega) q⟩⟩
def spis_between (_ : PySem.W.Frag) (_ : Addr) : Sp := fun vs H Q _ => ∃ n a b : Int, vs = [.int n, .int a, .int b] ∧ a ≤ n ∧ n ≤ b ∧ Q (.bl true) H
theorem okis_between (D : Def K mg "is_between" sis_between ["value", "least", "most"]) (B : Bs mg) (Glb : Glo mg) (WK : WebK K mg C)
    (his_integer : Good P w K mg base "is_integer" sis_integer ["value"] 1 (spis_integer K C)) :
    Good P w K mg base "is_between" sis_between ["value", "least", "most"] 2 (spis_between K C) := by
  refine D.good fun f fd F => ?_
  obtain ⟨fis_integer, dis_integer, Ois_integer, mis_integer, kis_integer, bis_integer, Fis_integer⟩ := his_integer
  refine F.ok scis_between (fun vs H Q E h => ?_) (fun cdv A outer s H vs Q E hr h => ?_)
  · obtain ⟨n, a, b, rfl, h1, h2, q⟩ := h
    first | rfl | (rcases h with ⟨_, _, rfl, _⟩ | ⟨_, rfl, _⟩ <;> rfl)
  obtain ⟨n, a, b, rfl, h1, h2, q⟩ := h
  refine ⟨_, (pss_one (ps_ret (pe_and (pe_call Ois_integer hr rfl mis_integer kis_integer bis_integer .nil pass0 (pa_cons (pv 0) pa_nil)) (pe_one (pe_chain op_le op_le (pv 1) (pv 0) (pv 2)))))), ?_⟩
  exact ⟨_, rfl, n, rfl, _, rfl, iteT ⟨_, rfl, _, rfl, _, _, rfl, rfl, _, rfl, iteYes h1 ⟨_, rfl, _, _, rfl, rfl, bl_true h2 q⟩⟩⟩
def spis_below (_ : PySem.W.Frag) (_ : Addr) : Sp := fun vs H Q _ => ∃ n : Nat, ∃ m : Int, vs = [.int (n : Int), .int m] ∧ (n : Int) < m ∧ Q (.bl true) H
theorem okis_below (D : Def K mg "is_below" sis_below ["value", "limit"]) (B : Bs mg) (Glb : Glo mg) (WK : WebK K mg C)
    (his_count : Good P w K mg base "is_count" sis_count ["value"] 2 (spis_count K C)) :
    Good P w K mg base "is_below" sis_below ["value", "limit"] 3 (spis_below K C) := by
  refine D.good fun f fd F => ?_
  obtain ⟨fis_count, dis_count, Ois_count, mis_count, kis_count, bis_count, Fis_count⟩ := his_count
  refine F.ok scis_below (fun vs H Q E h => ?_) (fun cdv A outer s H vs Q E hr h => ?_)
  · obtain ⟨n, m, rfl, h1, q⟩ := h
    first | rfl | (rcases h with ⟨_, _, rfl, _⟩ | ⟨_, rfl, _⟩ <;> rfl)
  obtain ⟨n, m, rfl, h1, q⟩ := h
  refine ⟨_, (pss_one (ps_ret (pe_and (pe_call Ois_count hr rfl mis_count kis_count bis_count .nil pass0 (pa_cons (pv 0) pa_nil)) (pe_one (pe_cmpR op_lt (pv 0) (pv 1) (nomark _)))))), ?_⟩
  exact ⟨_, rfl, n, rfl, _, rfl, iteT ⟨_, rfl, _, rfl, _, _, rfl, rfl, bl_true h1 q⟩⟩
def spis_listed (_ : PySem.W.Frag) (_ : Addr) : Sp := fun vs H Q _ => ∃ a, vs = [.ref a] ∧ ((∃ xs, H a = some (.lst xs)) ∨ (∃ xs, H a = some (.tup xs))) ∧ ∀ H', Same H H' → Q (.bl true) H'
theorem okis_listed (D : Def K mg "is_listed" sis_listed ["value"]) (B : Bs mg) (Glb : Glo mg) (WK : WebK K mg C) :
    Good P w K mg base "is_listed" sis_listed ["value"] 1 (spis_listed K C) := by
  refine D.good fun f fd F => ?_
  refine F.ok scis_listed (fun vs H Q E h => ?_) (fun cdv A outer s H vs Q E hr h => ?_)
  · obtain ⟨a, rfl, ha, q⟩ := h
    first | rfl | (rcases h with ⟨_, _, rfl, _⟩ | ⟨_, rfl, _⟩ <;> rfl)
  obtain ⟨a, rfl, ha, q⟩ := h
  refine ⟨_, (pss_one (ps_ret (pe_callB call_isiT (by rfl) B.isinstance (by decide +kernel) (pa_cons (pv 0) (pa_cons (pe_tup (pa_cons (pe_bltn (v := .ty "list") (by rfl) B.list (by decide +kernel) rfl) (pa_cons (pe_bltn (v := .ty "tuple") (by rfl) B.tuple (by decide +kernel) rfl) pa_nil))) pa_nil))))), ?_⟩
  refine ⟨_, rfl, (by show 2 ≤ sizeLine; decide), fun tp ntp => ?_⟩
  rcases ha with ⟨xs, ha⟩ | ⟨xs, ha⟩
  · exact ⟨_, tp, [.ty "list", .ty "tuple"], .type "list", [.type "list", .type "tuple"], true, rfl, upd_same, .cons (.ty _) (.cons (.ty _) .nil), .base (.lst (same_new ntp _ _ _ ha)), kitAny_cons (b := true) (kit_ty (by decide +kernel)) (fun h => by cases h) (fun _ => rfl), q _ (same_new ntp _)⟩
  · exact ⟨_, tp, [.ty "list", .ty "tuple"], .type "tuple", [.type "list", .type "tuple"], true, rfl, upd_same, .cons (.ty _) (.cons (.ty _) .nil), .base (.tup (same_new ntp _ _ _ ha)), kitAny_cons (b := false) (kit_ty (by decide +kernel)) (fun _ => kitAny_cons (b := true) (kit_ty (by decide +kernel)) (fun h => by cases h) (fun _ => rfl)) (fun h => by cases h), q _ (same_new ntp _)⟩
def spare_ties (_ : PySem.W.Frag) (_ : Addr) : Sp := fun vs H Q _ => ∃ N : Nat, ∃ t ts, vs = [.int (N : Int), .ref t] ∧ OkWeb N ts ∧ TiesAt H t ts ∧ ∀ H', Same H H' → Q (.bl true) H'
theorem okare_ties (D : Def K mg "are_ties" sare_ties ["places", "value"]) (B : Bs mg) (Glb : Glo mg) (WK : WebK K mg C)
    (his_listed : Good P w K mg base "is_listed" sis_listed ["value"] 1 (spis_listed K C))
    (his_below : Good P w K mg base "is_below" sis_below ["value", "limit"] 3 (spis_below K C)) :
    Good P w K mg base "are_ties" sare_ties ["places", "value"] 4 (spare_ties K C) := by
  refine D.good fun f fd F => ?_
  obtain ⟨fis_listed, dis_listed, Ois_listed, mis_listed, kis_listed, bis_listed, Fis_listed⟩ := his_listed
  obtain ⟨fis_below, dis_below, Ois_below, mis_below, kis_below, bis_below, Fis_below⟩ := his_below
  refine F.ok scare_ties (fun vs H Q E h => ?_) (fun cdv A outer s H vs Q E hr h => ?_)
  · obtain ⟨N, t, ts, rfl, ho, ⟨tas, ht, hP⟩, q⟩ := h
    first | rfl | (rcases h with ⟨_, _, rfl, _⟩ | ⟨_, rfl, _⟩ <;> rfl)
  obtain ⟨N, t, ts, rfl, ho, ⟨tas, ht, hP⟩, q⟩ := h
  refine ⟨_, (pss_cons (ps_if (PW.pt (pw_or (pt_not (pt_val (pe_call Ois_listed (hr.mono (by decide)) rfl mis_listed kis_listed bis_listed .nil pass0 (pa_cons (pv 1) pa_nil)))) (pw_or1 (pt_cmpR op_gt (pe_callB call_len_seq (by rfl) B.len (by decide +kernel) (pa_cons (pv 1) pa_nil)) (pe_globI Glb.MOST_TIES) (nomark _)))))
    (pss_one (ps_ret pe_bl)) pss_nil)
  (pss_cons (ps_for PassesOwn.never rfl (pi_list (pv 1)) (pg_name (i := 2) scare_ties.nd rfl (by first | exact Or.inl rfl | exact Or.inr rfl))
    (pss_cons (ps_if (PW.pt (pw_or (pt_not (pt_val (pe_callB call_isi (by rfl) B.isinstance (by decide +kernel) (pa_cons (pv 2) (pa_cons (pe_bltn (v := .ty "tuple") (by rfl) B.tuple (by decide +kernel) rfl) pa_nil))))) (pw_or1 (pt_cmpR op_ne (pe_callB call_len_seq (by rfl) B.len (by decide +kernel) (pa_cons (pv 2) pa_nil)) pe_int (nomark _)))))
    (pss_one (ps_ret pe_bl)) pss_nil)
  (pss_one (ps_if (PW.pt (pw_or (pt_not (pt_val (pe_call Ois_below hr rfl mis_below kis_below bis_below .nil pass0 (pa_cons (pe_ix ix_tup (pv 2) pe_int (fun _ _ => rfl)) (pa_cons (pv 0) pa_nil))))) (pw_or1 (pt_not (pt_val (pe_call Ois_below hr rfl mis_below kis_below bis_below .nil pass0 (pa_cons (pe_ix ix_tup (pv 2) pe_int (fun _ _ => rfl)) (pa_cons (pv 0) pa_nil))))))))
    (pss_one (ps_ret pe_bl)) pss_nil))))
  (pss_one (ps_ret pe_bl)))), ?_⟩
  have hlen := paired_len hP
  have hm := ho.m
  refine ⟨_, rfl, t, rfl, .inl ⟨_, ht⟩, fun H1 hS1 => ⟨_, rfl, iteF ⟨_, rfl, _, _, rfl, .inl (SqL.of (hS1 _ _ ht)), _, _, rfl, rfl, _, rfl, iteNo (by rw [List.length_map]; omega) ?_⟩⟩⟩
  refine ⟨_, rfl, t, rfl, ⟨_, SqL.of (hS1 _ _ ht)⟩, for_list (K := K) (a := t) (xs := tas.map V.ref) (fun i σ H' => Same H H' ∧ ∃ v, σ = [some (.int (N : Int)), some (.ref t), v]) ⟨hS1, none, rfl⟩ (fun i σ H' _ ⟨hS', _⟩ => SqL.of (hS' _ _ ht)) ?_ ?_⟩
  · rintro i x σ H2 hx ⟨hS2, v, rfl⟩
    rw [List.getElem?_map] at hx
    obtain ⟨p, hp, rfl⟩ : ∃ p, tas[i]? = some p ∧ x = V.ref p := by
      cases e : tas[i]? with
      | none => rw [e] at hx; cases hx
      | some p => rw [e] at hx; exact ⟨p, rfl, (Option.some.inj hx).symm⟩
    obtain ⟨⟨u, v⟩, he, hpe⟩ := paired_get hP hp
    have hp2 : H2 p = some (.tup [.int (u : Int), .int (v : Int)]) := hS2 _ _ hpe
    obtain ⟨hu, hv⟩ := ho.ok _ (List.mem_of_getElem? he)
    refine ⟨_, rfl, _, _, _, _, true, rfl, .ty _, .base (.tup hp2), kit_ty (by decide +kernel), _, rfl, iteF ⟨_, rfl, _, _, rfl, .inr (SqT.of hp2), rfl, _, rfl, iteNS rfl ?_⟩⟩
    refine ⟨_, rfl, _, _, _, .int (u : Int), rfl, rfl, SqT.of hp2, rfl, _, rfl, u, N, rfl, by omega, _, rfl, iteF ⟨_, rfl, _, _, _, .int (v : Int), rfl, rfl, SqT.of hp2, rfl, _, rfl, v, N, rfl, by omega, _, rfl, iteF ?_⟩⟩
    exact ⟨hS2, _, rfl⟩
  · rintro σ H2 ⟨hS2, v, rfl⟩
    exact q H2 hS2
end
end My
namespace My
open PySem L2 PyProof.Rows
/-! ### numbers of ties from a place -/
def frmN (ts : List (Nat × Nat)) (p : Nat) : Nat → List Nat
  | 0 => []
  | i + 1 => if (ts[i]?.map Prod.fst) = some p then frmN ts p i ++ [i] else frmN ts p i
abbrev frm (ts : List (Nat × Nat)) (p : Nat) : List Nat := frmN ts p ts.length
theorem frmN_len (ts : List (Nat × Nat)) (p : Nat) : ∀ i, (frmN ts p i).length ≤ i
  | 0 => by simp [frmN]
  | i + 1 => by
    have := frmN_len ts p i
    unfold frmN
    split
    · simp; omega
    · omega
theorem frmN_mem (ts : List (Nat × Nat)) (p x : Nat) : ∀ i, x ∈ frmN ts p i ↔ x < i ∧ ts[x]?.map Prod.fst = some p
  | 0 => by simp [frmN]
  | i + 1 => by
    have ih := frmN_mem ts p x i
    unfold frmN
    split
    · rename_i c
      rw [List.mem_append, ih, List.mem_singleton]
      constructor
      · rintro (⟨h1, h2⟩ | rfl)
        · exact ⟨by omega, h2⟩
        · exact ⟨by omega, c⟩
      · rintro ⟨h1, h2⟩
        by_cases z : x = i
        · exact .inr z
        · exact .inl ⟨by omega, h2⟩
    · rename_i c
      rw [ih]
      constructor
      · rintro ⟨h1, h2⟩
        exact ⟨by omega, h2⟩
      · rintro ⟨h1, h2⟩
        refine ⟨?_, h2⟩
        by_cases z : x = i
        · subst z; exact absurd h2 c
        · omega
theorem nodup_get {α : Type} {L : List α} {j k : Nat} {x : α} (hn : L.Nodup) (h1 : L[j]? = some x) (h2 : L[k]? = some x) : j = k :=
  (List.getElem?_inj (List.getElem?_eq_some_iff.mp h1).1 hn).mp (h1.trans h2.symm)
/-! ### new empty lists -/
def Fresh (H1 : Hp) (D : Addr) (n : Nat) (H' : Hp) : Prop := ∃ fas : List Addr, fas.length = n ∧ fas.Nodup ∧ (∀ x ∈ fas, H1 x = none ∧ x ≠ D) ∧ Same H1 H' ∧ H' D = some (.lst (fas.map V.ref)) ∧ ∀ x ∈ fas, H' x = some (.lst [])
theorem Fresh.zero {H1 : Hp} {D : Addr} (h : H1 D = none) : Fresh H1 D 0 (upd H1 D (.lst [])) :=
  ⟨[], rfl, by simp, fun x h => by simp at h, same_new h _, upd_same, fun x h => by simp at h⟩
theorem Fresh.step {H1 H2 : Hp} {D p : Addr} {n : Nat} (h : Fresh H1 D n H2) (nD : H1 D = none) (hn : n < 1000) (np : H2 p = none) :
    ∃ acc, upd H2 p (.lst []) D = some (.lst acc) ∧ acc.length < sizeLine ∧ Fresh H1 D (n + 1) (upd (upd H2 p (.lst [])) D (.lst (acc ++ [.ref p]))) := by
  obtain ⟨fas, h1, h2, h3, h4, h5, h6⟩ := h
  have hpD : D ≠ p := ne_of_none h5 np
  refine ⟨fas.map V.ref, by rw [upd_ne hpD]; exact h5, by rw [List.length_map, h1]; exact Nat.lt_trans hn (by decide), fas ++ [p], by simp [h1], ?_, ?_, ?_, by rw [upd_same, List.map_append]; rfl, ?_⟩
  · rw [List.nodup_append]
    refine ⟨h2, by simp, fun x hx y hy => ?_⟩
    rw [List.mem_singleton.mp hy]
    rintro rfl
    rw [h6 _ hx] at np
    cases np
  · intro x hx
    rcases List.mem_append.mp hx with z | z
    · exact h3 x z
    · rw [List.mem_singleton.mp z]
      exact ⟨h4.free np, hpD.symm⟩
  · intro b o e
    rw [upd_ne (ne_of_none e nD), upd_ne (ne_of_none (h4 _ _ e) np)]
    exact h4 _ _ e
  · intro x hx
    rcases List.mem_append.mp hx with z | z
    · rw [upd_ne (h3 x z).2, upd_ne (ne_of_none (h6 x z) np)]
      exact h6 x z
    · rw [List.mem_singleton.mp z, upd_ne hpD.symm, upd_same]
/-- rows: heaps that keep what H held, but for these lists -/
def KeptR (R : List Addr) (H H' : Hp) : Prop := ∀ b o, H b = some o → b ∉ R → H' b = some o
theorem KeptR.refl (R : List Addr) (H : Hp) : KeptR R H H := fun _ _ h _ => h
theorem KeptR.new {R : List Addr} {H H' : Hp} {p : Addr} {o : HO} (h : KeptR R H H') (np : H' p = none) : KeptR R H (upd H' p o) := fun b u e n => by
  have := h b u e n
  rw [upd_ne (ne_of_none this np)]
  exact this
theorem KeptR.put {R : List Addr} {H H' : Hp} {p : Addr} {o : HO} (h : KeptR R H H') (hp : p ∈ R) : KeptR R H (upd H' p o) := fun b u e n => by
  rw [upd_ne (fun z => n (by rw [z]; exact hp))]
  exact h b u e n
/-! ### webs -/
def wf (N : Nat) (tl fl ol : Addr) : List (Str × V) := putF "_ties_to" (.ref ol) (putF "_ties_from" (.ref fl) (putF "_ties" (.ref tl) (putF "_places" (.int (N : Int)) [])))
theorem wf_P (N : Nat) (tl fl ol : Addr) : (wf N tl fl ol).lookup ("_places" : Str) = some (.int (N : Int)) := by
  unfold wf
  rw [lookup_putF, if_neg (by decide +kernel), lookup_putF, if_neg (by decide +kernel), lookup_putF, if_neg (by decide +kernel), lookup_putF, if_pos rfl]
theorem wf_T (N : Nat) (tl fl ol : Addr) : (wf N tl fl ol).lookup ("_ties" : Str) = some (.ref tl) := by
  unfold wf
  rw [lookup_putF, if_neg (by decide +kernel), lookup_putF, if_neg (by decide +kernel), lookup_putF, if_pos rfl]
theorem wf_F (N : Nat) (tl fl ol : Addr) : (wf N tl fl ol).lookup ("_ties_from" : Str) = some (.ref fl) := by
  unfold wf
  rw [lookup_putF, if_neg (by decide +kernel), lookup_putF, if_pos rfl]
theorem wf_O (N : Nat) (tl fl ol : Addr) : (wf N tl fl ol).lookup ("_ties_to" : Str) = some (.ref ol) := by
  unfold wf
  rw [lookup_putF, if_pos rfl]
theorem wf_no (N : Nat) (tl fl ol : Addr) {m : Str} (h1 : ¬ m = "_ties_to") (h2 : ¬ m = "_ties_from") (h3 : ¬ m = "_ties") (h4 : ¬ m = "_places") : (wf N tl fl ol).lookup m = none := by
  unfold wf
  rw [lookup_putF, if_neg h1, lookup_putF, if_neg h2, lookup_putF, if_neg h3, lookup_putF, if_neg h4]
  all_goals rfl
theorem putF_len (f : Str) (v : V) : ∀ l : List (Str × V), (putF f v l).length ≤ l.length + 1
  | [] => by simp [putF]
  | (g, x) :: r => by
    have := putF_len f v r
    unfold putF
    split
    · simp
    · simp; omega
def RowsAt (H : Hp) (p : Addr) (N : Nat) (f : Nat → List Nat) : Prop := ∃ fas : List Addr, H p = some (.lst (fas.map V.ref)) ∧ fas.length = N ∧ ∀ j x, fas[j]? = some x → H x = some (.lst (iv (f j)))
theorem RowsAt.same {H H' : Hp} {p : Addr} {N : Nat} {f : Nat → List Nat} (h : RowsAt H p N f) (s : Same H H') : RowsAt H' p N f := by
  obtain ⟨fas, h1, h2, h3⟩ := h
  exact ⟨fas, s _ _ h1, h2, fun j x e => s _ _ (h3 j x e)⟩
theorem RowsAt.get {H : Hp} {p : Addr} {N : Nat} {f : Nat → List Nat} (h : RowsAt H p N f) {j : Nat} (hj : j < N) : ∃ x xs, H p = some (.lst xs) ∧ atI xs (j : Int) = some (.ref x) ∧ H x = some (.lst (iv (f j))) := by
  obtain ⟨fas, h1, h2, h3⟩ := h
  have e : fas[j]? = some (fas[j]'(by omega)) := List.getElem?_eq_getElem _
  refine ⟨_, _, h1, atI_nat ?_, h3 j _ e⟩
  rw [List.getElem?_map, e]
  rfl
def WebAt (C a : Addr) (N : Nat) (ts : List (Nat × Nat)) (H : Hp) : Prop := ∃ dx tl fl ol, H a = some (.ins C dx (wf N tl fl ol)) ∧ TiesAt H tl ts ∧ RowsAt H fl N (frm ts)
theorem WebAt.same {C a : Addr} {N : Nat} {ts : List (Nat × Nat)} {H H' : Hp} (h : WebAt C a N ts H) (s : Same H H') : WebAt C a N ts H' := by
  obtain ⟨dx, tl, fl, ol, h1, h2, h3⟩ := h
  exact ⟨dx, tl, fl, ol, s _ _ h1, h2.same s, h3.same s⟩
/-- what is new in H' or a tuple, and what stands at a -/
noncomputable def Sub (H H' : Hp) (a : Addr) : Hp := fun b => by
  classical
  exact if H b = none ∨ b = a ∨ ∃ xs, H' b = some (.tup xs) then H' b else none
theorem Sub.of {H H' : Hp} {a b : Addr} {o : HO} (h : H' b = some o) (k : H b = none ∨ b = a ∨ ∃ xs, H' b = some (.tup xs)) : Sub H H' a b = some o := by
  unfold Sub
  rw [if_pos k]
  exact h
theorem Sub.same {H H' : Hp} {a : Addr} : Same (Sub H H' a) H' := fun b o e => by
  unfold Sub at e
  split at e
  · exact e
  · cases e
theorem Sub.none {H H' : Hp} {a b : Addr} {xs : List V} (h : H b = some (.lst xs)) (n : b ≠ a) (k : H' b = some (.lst xs)) : Sub H H' a b = Option.none := by
  unfold Sub
  rw [if_neg]
  rintro (z | z | ⟨ys, z⟩)
  · rw [h] at z; cases z
  · exact n z
  · rw [k] at z; cases z
section
variable {P : Program} {w : World} {K : PySem.W.Frag} {mg : Str → Option Value} {base : Heap} {C : Addr}
def spWeb___init__ (_ : PySem.W.Frag) (C : Addr) : Sp := fun vs H Q _ => ∃ a dx N t ts, vs = [.ref a, .int ((N : Nat) : Int), .ref t] ∧ OkWeb N ts ∧ TiesAt H t ts ∧ H a = some (.ins C dx []) ∧ ∀ H', Kept a H H' → WebAt C a N ts (Sub H H' a) → Q .non H'
theorem okWeb___init__ (D : DefI K C "__init__" "Web.__init__" sWeb___init__ ["self", "places", "ties"]) (B : Bs mg) (Glb : Glo mg) (WK : WebK K mg C)
    (his_between : Good P w K mg base "is_between" sis_between ["value", "least", "most"] 2 (spis_between K C))
    (hare_ties : Good P w K mg base "are_ties" sare_ties ["places", "value"] 4 (spare_ties K C)) :
    GoodI P w K mg base C "__init__" "Web.__init__" sWeb___init__ ["self", "places", "ties"] 5 (spWeb___init__ K C) := by
  refine D.good fun f fd F => ?_
  obtain ⟨fis_between, dis_between, Ois_between, mis_between, kis_between, bis_between, Fis_between⟩ := his_between
  obtain ⟨fare_ties, dare_ties, Oare_ties, mare_ties, kare_ties, bare_ties, Fare_ties⟩ := hare_ties
  refine F.ok scWeb___init__ (fun vs H Q E h => ?_) (fun cdv A outer s H vs Q E hr h => ?_)
  · obtain ⟨a, dx, N, t, ts, rfl, ho, ht, ha, q⟩ := h
    first | rfl | (rcases h with ⟨_, _, rfl, _⟩ | ⟨_, rfl, _⟩ <;> rfl)
  obtain ⟨a, dx, N, t, ts, rfl, ho, ht, ha, q⟩ := h
  refine ⟨_, (pss_cons (ps_if (pt_not (pt_val (pe_call Ois_between (hr.mono (by decide)) rfl mis_between kis_between bis_between .nil pass0 (pa_cons (pv 1) (pa_cons pe_int (pa_cons (pe_globI Glb.MOST_PLACES) pa_nil))))))
    (pss_one ps_never) pss_nil)
  (pss_cons (ps_if (pt_not (pt_val (pe_call Oare_ties hr rfl mare_ties kare_ties bare_ties .nil pass0 (pa_cons (pv 1) (pa_cons (pv 2) pa_nil)))))
    (pss_one ps_never) pss_nil)
  (pss_cons (ps_fld (pv 0) (pv 1) rfl)
  (pss_cons (ps_fld (pv 0) (pe_callTy call_list_of (by rfl) B.list (by decide +kernel) (pa_cons (pv 2) pa_nil)) rfl)
  (pss_cons (ps_fld (pv 0) (pe_lc (own := [("_", 5)]) (g := gName 5) (by rfl) scWeb___init__.nd (pi_range1 (by rfl) B.range (pa_cons (pv 1) pa_nil)) (blkOk_by (own := [("_", 5)]) (N := ["self", "places", "ties", "tie", "ends", "_"]) (sc := defScope sWeb___init__) (by decide +kernel)) (fun _ _ _ _ _ => (pg_name (i := 5) scWeb___init__.nd rfl (by first | exact Or.inl rfl | exact Or.inr rfl))) (fun _ _ _ _ _ => pts_nil) (fun _ _ _ _ _ => (pe_lst pa_nil))) rfl)
  (pss_cons (ps_fld (pv 0) (pe_lc (own := [("_", 5)]) (g := gName 5) (by rfl) scWeb___init__.nd (pi_range1 (by rfl) B.range (pa_cons (pv 1) pa_nil)) (blkOk_by (own := [("_", 5)]) (N := ["self", "places", "ties", "tie", "ends", "_"]) (sc := defScope sWeb___init__) (by decide +kernel)) (fun _ _ _ _ _ => (pg_name (i := 5) scWeb___init__.nd rfl (by first | exact Or.inl rfl | exact Or.inr rfl))) (fun _ _ _ _ _ => pts_nil) (fun _ _ _ _ _ => (pe_lst pa_nil))) rfl)
  (pss_one (ps_for PassesOwn.never rfl (pi_enum (by rfl) B.enumerate (pa_cons (pe_fld (pv 0) rfl) pa_nil)) (pg_tup rfl (pgs_cons (pg_name (i := 3) scWeb___init__.nd rfl (by first | exact Or.inl rfl | exact Or.inr rfl)) (pgs_cons (pg_name (i := 4) scWeb___init__.nd rfl (by first | exact Or.inl rfl | exact Or.inr rfl)) pgs_nil)))
    (pss_cons (ps_expr (pe_bm PySem.F.plainAttrs_list PySem.F.slot_list_append PySem.F.type_list_append mt_append (pe_ix ix_list (pe_fld (pv 0) rfl) (pe_ix ix_tup (pv 4) pe_int (fun _ _ => rfl)) (fun _ _ => rfl)) (pa_cons (pv 3) pa_nil)))
  (pss_one (ps_expr (pe_bm PySem.F.plainAttrs_list PySem.F.slot_list_append PySem.F.type_list_append mt_append (pe_ix ix_list (pe_fld (pv 0) rfl) (pe_ix ix_tup (pv 4) pe_int (fun _ _ => rfl)) (fun _ _ => rfl)) (pa_cons (pv 3) pa_nil))))))))))))), ?_⟩
  refine ⟨_, rfl, (N : Int), 1, 60, rfl, by have := ho.n0; omega, by have := ho.n1; omega, _, rfl, iteF ?_⟩
  refine ⟨_, rfl, _, rfl, N, t, ts, rfl, ho, ht, fun H1 hS1 => ⟨_, rfl, iteF ?_⟩⟩
  have ha1 := hS1 _ _ ha
  obtain ⟨tas, ht1, hP1⟩ := ht.same hS1
  have nat : t ≠ a := ne_of ht1 ha1 (by intro q; cases q)
  have nta : ∀ p e, TupAt H1 p e → p ≠ a := fun p e hp => ne_of hp ha1 (by intro q; cases q)
  refine ⟨_, rfl, _, rfl, a, C, dx, [], rfl, ha1, WK.cl, WK.nP, (by decide), ?_⟩
  refine ⟨_, rfl, t, _, rfl, .inl (SqL.of (by rw [upd_ne nat]; exact ht1)), fun tl ntl => ?_⟩
  have natl : a ≠ tl := ne_of_none upd_same ntl
  have ntl1 : H1 tl = none := by rw [upd_ne natl.symm] at ntl; exact ntl
  refine ⟨_, rfl, a, C, dx, _, rfl, (by rw [upd_ne natl]; exact upd_same), WK.cl, WK.nT, Nat.lt_of_le_of_lt (putF_len _ _ _) (by decide), ?_⟩
  generalize e4 : upd (upd (upd H1 a (.ins C dx (putF "_places" (.int (N : Int)) []))) tl (.lst (tas.map V.ref))) a (.ins C dx (putF "_ties" (.ref tl) (putF "_places" (.int (N : Int)) []))) = H4
  have k4 : Kept a H1 H4 := fun b o e n => by rw [← e4, upd_ne n, upd_ne (ne_of_none e ntl1), upd_ne n]; exact e
  have ha4 : H4 a = some (.ins C dx (putF "_ties" (.ref tl) (putF "_places" (.int (N : Int)) []))) := by rw [← e4]; exact upd_same
  have htl4 : H4 tl = some (.lst (tas.map V.ref)) := by rw [← e4, upd_ne natl.symm]; exact upd_same
  have hN := ho.n1
  refine ⟨_, rfl, _, rfl, by omega, by omega, fun D1 nD1 => ?_⟩
  refine lc_range (lo := 0) (n := N) (fun i H' => Fresh H4 D1 i H') (Fresh.zero nD1) ?_ ?_
  · intro i H' hi hf
    exact ⟨rfl, Nat.zero_le _, fun p np => hf.step nD1 (by omega) np⟩
  rintro H5 ⟨fas, f1, f2, f3, f4, f5, f6⟩
  have ha5 := f4 _ _ ha4
  have fa : ∀ x ∈ fas, x ≠ a := fun x hx z => by
    have := (f3 x hx).1
    rw [z, ha4] at this
    cases this
  have naD1 : D1 ≠ a := fun z => by rw [z, ha4] at nD1; cases nD1
  refine ⟨_, rfl, a, C, dx, _, rfl, ha5, WK.cl, WK.nF, Nat.lt_of_le_of_lt (putF_len _ _ _) (Nat.lt_of_le_of_lt (Nat.succ_le_succ (putF_len _ _ _)) (by decide)), ?_⟩
  generalize e6 : upd H5 a (.ins C dx (putF "_ties_from" (.ref D1) (putF "_ties" (.ref tl) (putF "_places" (.int (N : Int)) [])))) = H6
  have k6 : Kept a H5 H6 := fun b o e n => by rw [← e6, upd_ne n]; exact e
  have ha6 : H6 a = some (.ins C dx (putF "_ties_from" (.ref D1) (putF "_ties" (.ref tl) (putF "_places" (.int (N : Int)) [])))) := by rw [← e6]; exact upd_same
  refine ⟨_, rfl, _, rfl, by omega, by omega, fun D2 nD2 => ?_⟩
  refine lc_range (lo := 0) (n := N) (fun i H' => Fresh H6 D2 i H') (Fresh.zero nD2) ?_ ?_
  · intro i H' hi hf
    exact ⟨rfl, Nat.zero_le _, fun p np => hf.step nD2 (by omega) np⟩
  rintro H7 ⟨os, g1, g2, g3, g4, g5, g6⟩
  have ha7 := g4 _ _ ha6
  refine ⟨_, rfl, a, C, dx, _, rfl, ha7, WK.cl, WK.nO, Nat.lt_of_le_of_lt (putF_len _ _ _) (Nat.lt_of_le_of_lt (Nat.succ_le_succ (putF_len _ _ _)) (Nat.lt_of_le_of_lt (Nat.succ_le_succ (Nat.succ_le_succ (putF_len _ _ _))) (by decide))), ?_⟩
  generalize e8 : upd H7 a (.ins C dx (putF "_ties_to" (.ref D2) (putF "_ties_from" (.ref D1) (putF "_ties" (.ref tl) (putF "_places" (.int (N : Int)) []))))) = H8
  have k8 : Kept a H7 H8 := fun b o e n => by rw [← e8, upd_ne n]; exact e
  have ha8 : H8 a = some (.ins C dx (wf N tl D1 D2)) := by rw [← e8]; exact upd_same
  have oa : ∀ x ∈ os, x ≠ a := fun x hx z => by
    have := (g3 x hx).1
    rw [z, ha6] at this
    cases this
  have naD2 : D2 ≠ a := fun z => by rw [z, ha6] at nD2; cases nD2
  have fo : ∀ x ∈ fas, x ∉ os := fun x hx z => by
    have h := (g3 x z).1
    rw [k6 _ _ (f6 x hx) (fa x hx)] at h
    cases h
  -- what stands before the lists is none of them
  have old : ∀ b o, H4 b = some o → b ≠ a → H8 b = some o ∧ b ∉ fas ∧ b ∉ os := fun b o e n => by
    have h5 := f4 _ _ e
    have h6 := k6 _ _ h5 n
    refine ⟨k8 _ _ (g4 _ _ h6) n, fun z => ?_, fun z => ?_⟩
    · rw [(f3 b z).1] at e; cases e
    · rw [(g3 b z).1] at h6; cases h6
  have ntla : tl ≠ a := natl.symm
  have oldA : a ∉ fas ∧ a ∉ os := ⟨fun z => fa a z rfl, fun z => oa a z rfl⟩
  have oldT := old _ _ htl4 ntla
  have oldE : ∀ p e, TupAt H1 p e → TupAt H8 p e ∧ p ∉ fas ∧ p ∉ os := fun p e hp => old _ _ (k4 _ _ hp (nta p e hp)) (nta p e hp)
  have f58 : H8 D1 = some (.lst (fas.map V.ref)) := k8 _ _ (g4 _ _ (k6 _ _ f5 naD1)) naD1
  have D1f : D1 ∉ fas := fun z => (f3 D1 z).2 rfl
  have D1o : D1 ∉ os := fun z => by
    have h := (g3 D1 z).1
    rw [k6 _ _ f5 naD1] at h
    cases h
  have g58 : H8 D2 = some (.lst (os.map V.ref)) := k8 _ _ g5 naD2
  have D2o : D2 ∉ os := fun z => (g3 D2 z).2 rfl
  have D2f : D2 ∉ fas := fun z => by
    have h := k6 _ _ (f6 D2 z) (fa D2 z)
    rw [nD2] at h
    cases h
  have fe8 : ∀ x ∈ fas, H8 x = some (.lst []) := fun x hx => k8 _ _ (g4 _ _ (k6 _ _ (f6 x hx) (fa x hx))) (fa x hx)
  have oe8 : ∀ x ∈ os, H8 x = some (.lst []) := fun x hx => k8 _ _ (g6 x hx) (oa x hx)
  have nin : ∀ {b : Addr}, b ∉ fas → b ∉ os → b ∉ fas ++ os := fun h1 h2 z => (List.mem_append.mp z).elim h1 h2
  refine ⟨_, rfl, a, C, dx, _, _, rfl, ha8, WK.cl, WK.nT, wf_T _ _ _ _, tl, _, rfl, SqL.of oldT.1, ?_⟩
  refine for_it (walk_enum (K := K) (a := tl) (xs := tas.map V.ref)) (fun i σ H' => ∃ v3 v4 v5 : Option V, σ = [some (.ref a), some (.int (N : Int)), some (.ref t), v3, v4, v5] ∧ KeptR (fas ++ os) H8 H' ∧ (∀ (j : Nat) (x : Addr), fas[j]? = some x → H' x = some (.lst (iv (frmN ts j i)))) ∧ (∀ (j : Nat) (x : Addr), os[j]? = some x → ∃ L : List V, H' x = some (.lst L) ∧ L.length ≤ i)) ?_ ?_ ?_ ?_
  · exact ⟨_, _, _, rfl, .refl _ _, fun j x e => fe8 x (List.mem_of_getElem? e), fun j x e => ⟨[], oe8 x (List.mem_of_getElem? e), Nat.zero_le _⟩⟩
  · rintro i σ H' hi ⟨v3, v4, v5, rfl, hk, _, _⟩
    exact SqL.of (hk _ _ oldT.1 (nin oldT.2.1 oldT.2.2))
  · rintro i x σ H9 H10 hi ⟨v3, v4, v5, rfl, hk, hf, hos⟩ ⟨T0, x1, x2, rfl, nT0, rfl, e1, e2⟩
    cases e1
    rw [List.length_map] at hi
    replace e2 : (tas.map V.ref)[i]? = some x2 := e2
    rw [List.getElem?_map, List.getElem?_eq_getElem hi] at e2
    cases e2
    obtain ⟨⟨u, v⟩, he, hpe⟩ := paired_get hP1 (List.getElem?_eq_getElem hi)
    obtain ⟨hu, hv⟩ := ho.ok _ (List.mem_of_getElem? he)
    have hp8 := oldE _ _ hpe
    have hp9 : H9 tas[i] = some (.tup [.int (u : Int), .int (v : Int)]) := hk _ _ hp8.1 (nin hp8.2.1 hp8.2.2)
    have hkN : KeptR (fas ++ os) H8 (upd H9 T0 (.tup [.int (i : Int), .ref tas[i]])) := hk.new nT0
    generalize e10 : upd H9 T0 (.tup [.int (i : Int), .ref tas[i]]) = H10
    rw [e10] at hkN
    have hT10 : H10 T0 = some (.tup [.int (i : Int), .ref tas[i]]) := by rw [← e10]; exact upd_same
    have hS10 : Same H9 H10 := by rw [← e10]; exact same_new nT0 _
    have hp10 := hS10 _ _ hp9
    have ha10 := hkN _ _ ha8 (nin oldA.1 oldA.2)
    have hfl10 := hkN _ _ f58 (nin D1f D1o)
    obtain ⟨xu, eu⟩ : ∃ x, fas[u]? = some x := ⟨fas[u]'(by omega), List.getElem?_eq_getElem _⟩
    obtain ⟨xv, ev⟩ : ∃ x, os[v]? = some x := ⟨os[v]'(by omega), List.getElem?_eq_getElem _⟩
    have mu := List.mem_of_getElem? eu
    have mv := List.mem_of_getElem? ev
    have hxu := hS10 _ _ (hf u xu eu)
    obtain ⟨Lv, hxv, hLv⟩ := hos v xv ev
    have nxu : ∀ {b : Addr}, b ∉ fas → b ≠ xu := fun h z => h (by rw [z]; exact mu)
    have nxv : ∀ {b : Addr}, b ∉ os → b ≠ xv := fun h z => h (by rw [z]; exact mv)
    have htl := ho.m
    have htsl : i < ts.length := by rw [← paired_len hP1]; exact hi
    refine ⟨T0, _, rfl, SqT.of hT10, rfl, _, _, rfl, _, _, rfl, rfl, ?_⟩
    refine ⟨_, rfl, a, C, dx, _, _, rfl, ha10, WK.cl, WK.nF, wf_F _ _ _ _, _, rfl, _, _, _, .int (u : Int), rfl, rfl, SqT.of hp10, rfl, _, _, _, .ref xu, rfl, rfl, SqL.of hfl10, atI_nat (by rw [List.getElem?_map, eu]; rfl), .inl ⟨rfl, _, SqL.of hxu⟩, _, rfl, xu, _, _, rfl, rfl, hxu, ?_, ?_⟩
    · rw [List.length_map]
      exact Nat.lt_of_le_of_lt (frmN_len ts u i) (Nat.lt_trans (by omega : i < 1000) (by decide))
    generalize e11 : upd H10 xu (.lst (iv (frmN ts u i) ++ [.int (i : Int)])) = H11
    have hk11 : KeptR (fas ++ os) H8 H11 := by rw [← e11]; exact hkN.put (List.mem_append_left _ mu)
    have ha11 := hk11 _ _ ha8 (nin oldA.1 oldA.2)
    have hol11 := hk11 _ _ g58 (nin D2f D2o)
    have hp11 : H11 tas[i] = some (.tup [.int (u : Int), .int (v : Int)]) := hk11 _ _ hp8.1 (nin hp8.2.1 hp8.2.2)
    have hxv11 : H11 xv = some (.lst Lv) := by
      rw [← e11, upd_ne (fun z => fo xu mu (by rw [← z]; exact mv))]
      exact hS10 _ _ hxv
    refine ⟨_, rfl, a, C, dx, _, _, rfl, ha11, WK.cl, WK.nO, wf_O _ _ _ _, _, rfl, _, _, _, .int (v : Int), rfl, rfl, SqT.of hp11, rfl, _, _, _, .ref xv, rfl, rfl, SqL.of hol11, atI_nat (by rw [List.getElem?_map, ev]; rfl), .inl ⟨rfl, _, SqL.of hxv11⟩, _, rfl, xv, _, _, rfl, rfl, hxv11, Nat.lt_of_le_of_lt hLv (Nat.lt_trans (by omega : i < 1000) (by decide)), ?_⟩
    refine ⟨_, _, _, rfl, hk11.put (List.mem_append_right _ mv), fun j x e => ?_, fun j x e => ?_⟩
    · have nx : x ≠ xv := fun z => fo x (List.mem_of_getElem? e) (by rw [z]; exact mv)
      rw [upd_ne nx]
      have eti : ts[i]?.map Prod.fst = some u := by rw [he]; rfl
      by_cases c : x = xu
      · have ej : j = u := nodup_get f2 e (by rw [c]; exact eu)
        subst ej
        rw [c, ← e11, upd_same, show frmN ts j (i + 1) = frmN ts j i ++ [i] from if_pos eti, iv_app]
      · have ej : ¬ (ts[i]?.map Prod.fst) = some j := fun z => by
          rw [eti] at z
          cases z
          rw [eu] at e
          exact c (Option.some.inj e).symm
        rw [← e11, upd_ne c, show frmN ts j (i + 1) = frmN ts j i from if_neg ej]
        exact hS10 _ _ (hf j x e)
    · by_cases c : x = xv
      · exact ⟨_, by rw [c]; exact upd_same, by rw [List.length_append, List.length_singleton]; omega⟩
      · obtain ⟨L, h1, h2⟩ := hos j x e
        refine ⟨L, ?_, by omega⟩
        rw [upd_ne c, ← e11, upd_ne (fun z => fo xu mu (by rw [← z]; exact List.mem_of_getElem? e))]
        exact hS10 _ _ h1
  · rintro σ H9 ⟨v3, v4, v5, rfl, hk, hf, hos⟩
    have hlen : (tas.map V.ref).length = ts.length := by rw [List.length_map]; exact paired_len hP1
    rw [hlen] at hf
    have to9 : ∀ b o, H4 b = some o → b ≠ a → H9 b = some o := fun b o e n => by
      have h := old b o e n
      exact hk _ _ h.1 (nin h.2.1 h.2.2)
    have g0 : ∀ b, b ≠ a → H4 b = none → H b = none := fun b n e => by
      cases e2 : H b with
      | none => rfl
      | some o =>
        rw [k4 _ _ (hS1 _ _ e2) n] at e
        cases e
    refine q H9 (fun b o e n => to9 b o (k4 _ _ (hS1 _ _ e) n) n) ⟨dx, tl, D1, D2, Sub.of (hk _ _ ha8 (nin oldA.1 oldA.2)) (.inr (.inl rfl)), ⟨tas, Sub.of (to9 _ _ htl4 ntla) (.inl (hS1.free ntl1)), ?_⟩, ⟨fas, Sub.of (hk _ _ f58 (nin D1f D1o)) (.inl (g0 _ naD1 nD1)), f1, fun j x e => Sub.of (hf j x e) (.inl ?_)⟩⟩
    · refine paired_mono (fun p e hp => ?_) hP1
      have hp9 := to9 _ _ (k4 _ _ hp (nta p e hp)) (nta p e hp)
      exact Sub.of hp9 (.inr (.inr ⟨_, hp9⟩))
    · have hm := List.mem_of_getElem? e
      exact g0 x (fa x hm) (f3 x hm).1
def spWeb_places (_ : PySem.W.Frag) (C : Addr) : Sp := fun vs H Q _ => ∃ a N ts, vs = [.ref a] ∧ WebAt C a N ts H ∧ Q (.int (N : Int)) H
theorem okWeb_places (D : DefP K C "places" "Web.places" sWeb_places ["self"]) (B : Bs mg) (Glb : Glo mg) (WK : WebK K mg C) :
    GoodP P w K mg base C "places" "Web.places" sWeb_places ["self"] 1 (spWeb_places K C) := by
  refine D.good fun f fd F => ?_
  refine F.ok scWeb_places (fun vs H Q E h => ?_) (fun cdv A outer s H vs Q E hr h => ?_)
  · obtain ⟨a, N, ts, rfl, ⟨dx, tl, fl, ol, h1, h2, h3⟩, q⟩ := h
    first | rfl | (rcases h with ⟨_, _, rfl, _⟩ | ⟨_, rfl, _⟩ <;> rfl)
  obtain ⟨a, N, ts, rfl, ⟨dx, tl, fl, ol, h1, h2, h3⟩, q⟩ := h
  refine ⟨_, (pss_one (ps_ret (pe_fld (pv 0) rfl))), ?_⟩
  exact ⟨_, rfl, a, C, dx, _, _, rfl, h1, WK.cl, WK.nP, wf_P _ _ _ _, q⟩
def spWeb_many (_ : PySem.W.Frag) (C : Addr) : Sp := fun vs H Q _ => ∃ a N ts, vs = [.ref a] ∧ WebAt C a N ts H ∧ Q (.int (ts.length : Int)) H
theorem okWeb_many (D : DefP K C "many" "Web.many" sWeb_many ["self"]) (B : Bs mg) (Glb : Glo mg) (WK : WebK K mg C) :
    GoodP P w K mg base C "many" "Web.many" sWeb_many ["self"] 1 (spWeb_many K C) := by
  refine D.good fun f fd F => ?_
  refine F.ok scWeb_many (fun vs H Q E h => ?_) (fun cdv A outer s H vs Q E hr h => ?_)
  · obtain ⟨a, N, ts, rfl, ⟨dx, tl, fl, ol, h1, ⟨tas, ht, hP⟩, h3⟩, q⟩ := h
    first | rfl | (rcases h with ⟨_, _, rfl, _⟩ | ⟨_, rfl, _⟩ <;> rfl)
  obtain ⟨a, N, ts, rfl, ⟨dx, tl, fl, ol, h1, ⟨tas, ht, hP⟩, h3⟩, q⟩ := h
  refine ⟨_, (pss_one (ps_ret (pe_callB call_len_seq (by rfl) B.len (by decide +kernel) (pa_cons (pe_fld (pv 0) rfl) pa_nil)))), ?_⟩
  refine ⟨_, rfl, a, C, dx, _, _, rfl, h1, WK.cl, WK.nT, wf_T _ _ _ _, _, _, rfl, .inl (SqL.of ht), ?_⟩
  rw [List.length_map, paired_len hP]
  exact q
def spWeb_ties (_ : PySem.W.Frag) (C : Addr) : Sp := fun vs H Q _ => ∃ a N ts, vs = [.ref a] ∧ WebAt C a N ts H ∧ ∀ H' l, H l = none → Same H H' → TiesAt H' l ts → Q (.ref l) H'
theorem okWeb_ties (D : DefM K C "ties" "Web.ties" sWeb_ties ["self"]) (B : Bs mg) (Glb : Glo mg) (WK : WebK K mg C) :
    GoodM P w K mg base C "ties" "Web.ties" sWeb_ties ["self"] 1 (spWeb_ties K C) := by
  refine D.good fun f fd F => ?_
  refine F.ok scWeb_ties (fun vs H Q E h => ?_) (fun cdv A outer s H vs Q E hr h => ?_)
  · obtain ⟨a, N, ts, rfl, ⟨dx, tl, fl, ol, h1, ⟨tas, ht, hP⟩, h3⟩, q⟩ := h
    first | rfl | (rcases h with ⟨_, _, rfl, _⟩ | ⟨_, rfl, _⟩ <;> rfl)
  obtain ⟨a, N, ts, rfl, ⟨dx, tl, fl, ol, h1, ⟨tas, ht, hP⟩, h3⟩, q⟩ := h
  refine ⟨_, (pss_one (ps_ret (pe_callTy call_list_of (by rfl) B.list (by decide +kernel) (pa_cons (pe_fld (pv 0) rfl) pa_nil)))), ?_⟩
  exact ⟨_, rfl, a, C, dx, _, _, rfl, h1, WK.cl, WK.nT, wf_T _ _ _ _, _, _, rfl, .inl (SqL.of ht), fun l nl => q _ l nl (same_new nl _) ⟨tas, upd_same, paired_mono (fun p e hp => same_new nl _ _ _ hp) hP⟩⟩
def spneed_place (_ : PySem.W.Frag) (C : Addr) : Sp := fun vs H Q _ => ∃ a N ts p, vs = [.ref a, .int ((p : Nat) : Int)] ∧ WebAt C a N ts H ∧ p < N ∧ Q .non H
theorem okneed_place (D : Def K mg "need_place" sneed_place ["web", "place"]) (B : Bs mg) (Glb : Glo mg) (WK : WebK K mg C)
    (his_below : Good P w K mg base "is_below" sis_below ["value", "limit"] 3 (spis_below K C))
    (hWeb_places : GoodP P w K mg base C "places" "Web.places" sWeb_places ["self"] 1 (spWeb_places K C)) :
    Good P w K mg base "need_place" sneed_place ["web", "place"] 4 (spneed_place K C) := by
  refine D.good fun f fd F => ?_
  obtain ⟨fis_below, dis_below, Ois_below, mis_below, kis_below, bis_below, Fis_below⟩ := his_below
  obtain ⟨qWeb_places, fWeb_places, dWeb_places, OWeb_places, pWeb_places, bWeb_places⟩ := hWeb_places
  refine F.ok scneed_place (fun vs H Q E h => ?_) (fun cdv A outer s H vs Q E hr h => ?_)
  · obtain ⟨a, N, ts, p, rfl, hw, hp, q⟩ := h
    first | rfl | (rcases h with ⟨_, _, rfl, _⟩ | ⟨_, rfl, _⟩ <;> rfl)
  obtain ⟨a, N, ts, p, rfl, hw, hp, q⟩ := h
  refine ⟨_, (pss_one (ps_if (pt_not (pt_val (pe_call Ois_below hr rfl mis_below kis_below bis_below .nil pass0 (pa_cons (pv 1) (pa_cons (pe_prop (pv 0) WK.cl pWeb_places OWeb_places (hr.mono (by decide)) bWeb_places .nil pass0 (by rfl)) pa_nil)))))
    (pss_one ps_never) pss_nil)), ?_⟩
  obtain ⟨dx, tl, fl, ol, h1, _⟩ := id hw
  exact ⟨_, rfl, _, rfl, a, dx, _, rfl, h1, a, N, ts, rfl, hw, p, N, rfl, by omega, _, rfl, iteF q⟩
def spWeb_ties_from (_ : PySem.W.Frag) (C : Addr) : Sp := fun vs H Q _ => ∃ a N ts p, vs = [.ref a, .int ((p : Nat) : Int)] ∧ WebAt C a N ts H ∧ p < N ∧ ∀ H' l, H l = none → Same H H' → H' l = some (.lst (iv (frm ts p))) → Q (.ref l) H'
theorem okWeb_ties_from (D : DefM K C "ties_from" "Web.ties_from" sWeb_ties_from ["self", "place"]) (B : Bs mg) (Glb : Glo mg) (WK : WebK K mg C)
    (hneed_place : Good P w K mg base "need_place" sneed_place ["web", "place"] 4 (spneed_place K C)) :
    GoodM P w K mg base C "ties_from" "Web.ties_from" sWeb_ties_from ["self", "place"] 5 (spWeb_ties_from K C) := by
  refine D.good fun f fd F => ?_
  obtain ⟨fneed_place, dneed_place, Oneed_place, mneed_place, kneed_place, bneed_place, Fneed_place⟩ := hneed_place
  refine F.ok scWeb_ties_from (fun vs H Q E h => ?_) (fun cdv A outer s H vs Q E hr h => ?_)
  · obtain ⟨a, N, ts, p, rfl, hw, hp, q⟩ := h
    first | rfl | (rcases h with ⟨_, _, rfl, _⟩ | ⟨_, rfl, _⟩ <;> rfl)
  obtain ⟨a, N, ts, p, rfl, hw, hp, q⟩ := h
  refine ⟨_, (pss_cons (ps_expr (pe_call Oneed_place hr rfl mneed_place kneed_place bneed_place .nil pass0 (pa_cons (pv 0) (pa_cons (pv 1) pa_nil))))
  (pss_one (ps_ret (pe_callTy call_list_of (by rfl) B.list (by decide +kernel) (pa_cons (pe_ix ix_list (pe_fld (pv 0) rfl) (pv 1) (fun _ _ => rfl)) pa_nil))))), ?_⟩
  obtain ⟨dx, tl, fl, ol, h1, h2, h3⟩ := id hw
  obtain ⟨x, xs, e1, e2, e3⟩ := h3.get hp
  exact ⟨_, rfl, _, rfl, a, N, ts, p, rfl, hw, hp, _, rfl, a, C, dx, _, _, rfl, h1, WK.cl, WK.nF, wf_F _ _ _ _, _, rfl, _, _, _, .ref x, rfl, rfl, SqL.of e1, e2, _, _, rfl, .inl (SqL.of e3), fun l nl => q _ l nl (same_new nl _) upd_same⟩
def spneed_web (_ : PySem.W.Frag) (C : Addr) : Sp := fun vs H Q _ => ∃ a N ts, vs = [.ref a] ∧ WebAt C a N ts H ∧ Q .non H
theorem okneed_web (D : Def K mg "need_web" sneed_web ["web"]) (B : Bs mg) (Glb : Glo mg) (WK : WebK K mg C) :
    Good P w K mg base "need_web" sneed_web ["web"] 3 (spneed_web K C) := by
  refine D.good fun f fd F => ?_
  refine F.ok scneed_web (fun vs H Q E h => ?_) (fun cdv A outer s H vs Q E hr h => ?_)
  · obtain ⟨a, N, ts, rfl, hw, q⟩ := h
    first | rfl | (rcases h with ⟨_, _, rfl, _⟩ | ⟨_, rfl, _⟩ <;> rfl)
  obtain ⟨a, N, ts, rfl, hw, q⟩ := h
  refine ⟨_, (pss_one (ps_if (pt_not (pt_val (pe_callB call_isi (by rfl) B.isinstance (by decide +kernel) (pa_cons (pv 0) (pa_cons (pe_glob (v := .ref C) (by rfl) WK.mgC rfl) pa_nil)))))
    (pss_one ps_never) pss_nil)), ?_⟩
  obtain ⟨dx, tl, fl, ol, h1, h2, h3⟩ := id hw
  exact ⟨_, rfl, _, _, _, _, true, rfl, .own C, .base (.ins h1 WK.cl WK.i1 WK.i2 WK.i3 WK.i4), WK.i5, _, rfl, iteF q⟩
/-- a list or a tuple of ints -/
def SeqAt (H : Hp) (s : Addr) (W : List Nat) : Prop := H s = some (.lst (iv W)) ∨ H s = some (.tup (iv W))
theorem SeqAt.same {H H' : Hp} {s : Addr} {W : List Nat} (h : SeqAt H s W) (hs : Same H H') : SeqAt H' s W := h.imp (hs _ _) (hs _ _)
def spare_numbers (_ : PySem.W.Frag) (C : Addr) : Sp := fun vs H Q _ => ∃ a N ts s W, vs = [.ref a, .ref s] ∧ WebAt C a N ts H ∧ SeqAt H s W ∧ (∀ x ∈ W, x < ts.length) ∧ ∀ H', Same H H' → Q (.bl true) H'
theorem okare_numbers (D : Def K mg "are_numbers" sare_numbers ["web", "value"]) (B : Bs mg) (Glb : Glo mg) (WK : WebK K mg C)
    (his_listed : Good P w K mg base "is_listed" sis_listed ["value"] 1 (spis_listed K C))
    (his_below : Good P w K mg base "is_below" sis_below ["value", "limit"] 3 (spis_below K C))
    (hWeb_many : GoodP P w K mg base C "many" "Web.many" sWeb_many ["self"] 1 (spWeb_many K C)) :
    Good P w K mg base "are_numbers" sare_numbers ["web", "value"] 4 (spare_numbers K C) := by
  refine D.good fun f fd F => ?_
  obtain ⟨fis_listed, dis_listed, Ois_listed, mis_listed, kis_listed, bis_listed, Fis_listed⟩ := his_listed
  obtain ⟨fis_below, dis_below, Ois_below, mis_below, kis_below, bis_below, Fis_below⟩ := his_below
  obtain ⟨qWeb_many, fWeb_many, dWeb_many, OWeb_many, pWeb_many, bWeb_many⟩ := hWeb_many
  refine F.ok scare_numbers (fun vs H Q E h => ?_) (fun cdv A outer s H vs Q E hr h => ?_)
  · obtain ⟨a, N, ts, s, W, rfl, hw, hs, hW, q⟩ := h
    first | rfl | (rcases h with ⟨_, _, rfl, _⟩ | ⟨_, rfl, _⟩ <;> rfl)
  obtain ⟨a, N, ts, s, W, rfl, hw, hs, hW, q⟩ := h
  refine ⟨_, (pss_cons (ps_if (pt_not (pt_val (pe_call Ois_listed (hr.mono (by decide)) rfl mis_listed kis_listed bis_listed .nil pass0 (pa_cons (pv 1) pa_nil))))
    (pss_one (ps_ret pe_bl)) pss_nil)
  (pss_cons (ps_for PassesOwn.never rfl (pi_or (pi_list (pv 1)) (pi_tup (pv 1))) (pg_name (i := 2) scare_numbers.nd rfl (by first | exact Or.inl rfl | exact Or.inr rfl))
    (pss_one (ps_if (pt_not (pt_val (pe_call Ois_below hr rfl mis_below kis_below bis_below .nil pass0 (pa_cons (pv 2) (pa_cons (pe_prop (pv 0) WK.cl pWeb_many OWeb_many (hr.mono (by decide)) bWeb_many .nil pass0 (by rfl)) pa_nil)))))
    (pss_one (ps_ret pe_bl)) pss_nil)))
  (pss_one (ps_ret pe_bl)))), ?_⟩
  refine ⟨_, rfl, s, rfl, hs.imp (fun h => ⟨_, h⟩) (fun h => ⟨_, h⟩), fun H1 hS1 => ⟨_, rfl, iteF ?_⟩⟩
  have key : ∀ (i : Nat) (x : V) (H2 : Hp), (iv W)[i]? = some x → Same H1 H2 → ∃ n : Nat, x = .int (n : Int) ∧ n < ts.length ∧ WebAt C a N ts H2 := fun i x H2 hx hS2 => by
    rw [List.getElem?_map] at hx
    cases e : W[i]? with
    | none => rw [e] at hx; cases hx
    | some n =>
      rw [e] at hx
      exact ⟨n, (Option.some.inj hx).symm, hW n (List.mem_of_getElem? e), (hw.same hS1).same hS2⟩
  rcases hs.same hS1 with h | h
  · refine .inl ⟨_, rfl, s, rfl, ⟨_, SqL.of h⟩, for_list (K := K) (a := s) (xs := iv W) (fun i σ H' => Same H1 H' ∧ ∃ v, σ = [some (.ref a), some (.ref s), v]) ⟨fun _ _ e => e, none, rfl⟩ (fun i σ H' _ ⟨hS', _⟩ => SqL.of (hS' _ _ h)) ?_ ?_⟩
    · rintro i x σ H2 hx ⟨hS2, v, rfl⟩
      obtain ⟨n, rfl, hn, hw2⟩ := key i x H2 hx hS2
      obtain ⟨dx, tl, fl, ol, h1, _⟩ := id hw2
      exact ⟨_, rfl, _, rfl, a, dx, _, rfl, h1, a, N, ts, rfl, hw2, n, _, rfl, by omega, _, rfl, iteF ⟨hS2, _, rfl⟩⟩
    · rintro σ H2 ⟨hS2, v, rfl⟩
      exact q H2 (hS1.trans hS2)
  · refine .inr ⟨_, rfl, s, rfl, ⟨_, SqT.of h⟩, for_tup (K := K) (a := s) (xs := iv W) (fun i σ H' => Same H1 H' ∧ ∃ v, σ = [some (.ref a), some (.ref s), v]) ⟨fun _ _ e => e, none, rfl⟩ (fun i σ H' _ ⟨hS', _⟩ => SqT.of (hS' _ _ h)) ?_ ?_⟩
    · rintro i x σ H2 hx ⟨hS2, v, rfl⟩
      obtain ⟨n, rfl, hn, hw2⟩ := key i x H2 hx hS2
      obtain ⟨dx, tl, fl, ol, h1, _⟩ := id hw2
      exact ⟨_, rfl, _, rfl, a, dx, _, rfl, h1, a, N, ts, rfl, hw2, n, _, rfl, by omega, _, rfl, iteF ⟨hS2, _, rfl⟩⟩
    · rintro σ H2 ⟨hS2, v, rfl⟩
      exact q H2 (hS1.trans hS2)
def sp_need_without (_ : PySem.W.Frag) (C : Addr) : Sp := fun vs H Q _ => ∃ a N ts s W, vs = [.ref a, .ref s] ∧ WebAt C a N ts H ∧ SeqAt H s W ∧ (∀ x ∈ W, x < ts.length) ∧ ∀ H', Same H H' → Q .non H'
theorem ok_need_without (D : Def K mg "_need_without" s_need_without ["web", "without"]) (B : Bs mg) (Glb : Glo mg) (WK : WebK K mg C)
    (hare_numbers : Good P w K mg base "are_numbers" sare_numbers ["web", "value"] 4 (spare_numbers K C)) :
    Good P w K mg base "_need_without" s_need_without ["web", "without"] 5 (sp_need_without K C) := by
  refine D.good fun f fd F => ?_
  obtain ⟨fare_numbers, dare_numbers, Oare_numbers, mare_numbers, kare_numbers, bare_numbers, Fare_numbers⟩ := hare_numbers
  refine F.ok sc_need_without (fun vs H Q E h => ?_) (fun cdv A outer s H vs Q E hr h => ?_)
  · obtain ⟨a, N, ts, s, W, rfl, hw, hs, hW, q⟩ := h
    first | rfl | (rcases h with ⟨_, _, rfl, _⟩ | ⟨_, rfl, _⟩ <;> rfl)
  obtain ⟨a, N, ts, s, W, rfl, hw, hs, hW, q⟩ := h
  refine ⟨_, (pss_one (ps_if (pt_not (pt_val (pe_call Oare_numbers hr rfl mare_numbers kare_numbers bare_numbers .nil pass0 (pa_cons (pv 0) (pa_cons (pv 1) pa_nil)))))
    (pss_one ps_never) pss_nil)), ?_⟩
  exact ⟨_, rfl, _, rfl, a, N, ts, s, W, rfl, hw, hs, hW, fun H1 hS1 => ⟨_, rfl, iteF (q H1 hS1)⟩⟩
end
end My
namespace My
open PySem L2 PyProof.Rows
theorem inV_iv (n : Nat) (W : List Nat) : inV (.int (n : Int)) (iv W) = decide (n ∈ W) := by
  unfold inV iv
  induction W with
  | nil => rfl
  | cons a r ih =>
    rw [List.map_cons, List.any_cons, ih]
    by_cases h : a = n
    · subst h
      have e : eqV (V.int (a : Int)) (V.int (a : Int)) = true := by
        show ((a : Int) == (a : Int)) = true
        simp
      rw [e]
      simp
    · have e : eqV (V.int (a : Int)) (V.int (n : Int)) = false := by
        show ((a : Int) == (n : Int)) = false
        simp
        omega
      rw [e]
      have h2 : ¬ n = a := fun z => h z.symm
      simp [h2]
theorem flat_iv (W : List Nat) : (iv W).all flatV = true := by
  rw [List.all_eq_true]
  intro x hx
  obtain ⟨n, _, rfl⟩ := List.mem_map.mp hx
  rfl
theorem SeqAt.seq {K : PySem.W.Frag} {H : Hp} {s : Addr} {W : List Nat} (h : SeqAt H s W) : SqL K H s (iv W) ∨ SqT K H s (iv W) := h.imp SqL.of SqT.of
/-! ### to where the ties lead -/
def outN (ts : List (Nat × Nat)) (W : List Nat) (u : Nat) : Nat → List Nat
  | 0 => []
  | i + 1 => match ts[i]? with
    | some e => if e.1 = u ∧ i ∉ W then outN ts W u i ++ [e.2] else outN ts W u i
    | none => outN ts W u i
theorem outN_len (ts : List (Nat × Nat)) (W : List Nat) (u : Nat) : ∀ i, (outN ts W u i).length ≤ i
  | 0 => by simp [outN]
  | i + 1 => by
    have := outN_len ts W u i
    unfold outN
    split
    · split
      · simp; omega
      · omega
    · omega
theorem outN_mem (ts : List (Nat × Nat)) (W : List Nat) (u v : Nat) : ∀ i, v ∈ outN ts W u i ↔ ∃ j, j < i ∧ ts[j]? = some (u, v) ∧ j ∉ W
  | 0 => by simp [outN]
  | i + 1 => by
    have ih := outN_mem ts W u v i
    have lift : (∃ j, j < i ∧ ts[j]? = some (u, v) ∧ j ∉ W) → ∃ j, j < i + 1 ∧ ts[j]? = some (u, v) ∧ j ∉ W := fun ⟨j, h1, h2⟩ => ⟨j, by omega, h2⟩
    unfold outN
    split
    · rename_i e he
      split
      · rename_i c
        rw [List.mem_append, ih, List.mem_singleton]
        constructor
        · rintro (h | rfl)
          · exact lift h
          · exact ⟨i, by omega, by rw [he, ← c.1], c.2⟩
        · rintro ⟨j, h1, h2, h3⟩
          by_cases z : j = i
          · subst z
            rw [he] at h2
            right
            rw [Option.some.inj h2]
          · exact .inl ⟨j, by omega, h2, h3⟩
      · rename_i c
        rw [ih]
        refine ⟨lift, ?_⟩
        rintro ⟨j, h1, h2, h3⟩
        by_cases z : j = i
        · subst z
          rw [he] at h2
          refine absurd ⟨?_, h3⟩ c
          rw [Option.some.inj h2]
        · exact ⟨j, by omega, h2, h3⟩
    · rename_i he
      rw [ih]
      refine ⟨lift, ?_⟩
      rintro ⟨j, h1, h2, h3⟩
      by_cases z : j = i
      · subst z
        rw [he] at h2
        cases h2
      · exact ⟨j, by omega, h2, h3⟩
abbrev outs (ts : List (Nat × Nat)) (W : List Nat) (u : Nat) : List Nat := outN ts W u ts.length
theorem outs_mem {ts : List (Nat × Nat)} {W : List Nat} {u v : Nat} : v ∈ outs ts W u ↔ Edge ts W u v := by
  rw [outs, outN_mem]
  constructor
  · rintro ⟨j, _, h⟩
    exact ⟨j, h⟩
  · rintro ⟨j, h⟩
    exact ⟨j, (List.getElem?_eq_some_iff.mp h.1).1, h⟩
section
variable {P : Program} {w : World} {K : PySem.W.Frag} {mg : Str → Option Value} {base : Heap} {C : Addr}
def sp_places_to (_ : PySem.W.Frag) (C : Addr) : Sp := fun vs H Q _ => ∃ a N ts s W, vs = [.ref a, .ref s] ∧ WebAt C a N ts H ∧ OkWeb N ts ∧ SeqAt H s W ∧ ∀ H' l, Same H H' → RowsAt H' l N (outs ts W) → Q (.ref l) H'
theorem ok_places_to (D : Def K mg "_places_to" s_places_to ["web", "without"]) (B : Bs mg) (Glb : Glo mg) (WK : WebK K mg C)
    (hWeb_ties : GoodM P w K mg base C "ties" "Web.ties" sWeb_ties ["self"] 1 (spWeb_ties K C))
    (hWeb_places : GoodP P w K mg base C "places" "Web.places" sWeb_places ["self"] 1 (spWeb_places K C)) :
    Good P w K mg base "_places_to" s_places_to ["web", "without"] 3 (sp_places_to K C) := by
  refine D.good fun f fd F => ?_
  obtain ⟨fWeb_ties, dWeb_ties, OWeb_ties, tWeb_ties, bWeb_ties⟩ := hWeb_ties
  obtain ⟨qWeb_places, fWeb_places, dWeb_places, OWeb_places, pWeb_places, bWeb_places⟩ := hWeb_places
  refine F.ok sc_places_to (fun vs H Q E h => ?_) (fun cdv A outer s H vs Q E hr h => ?_)
  · obtain ⟨a, N, ts, s, W, rfl, hw, ho, hs, q⟩ := h
    first | rfl | (rcases h with ⟨_, _, rfl, _⟩ | ⟨_, rfl, _⟩ <;> rfl)
  obtain ⟨a, N, ts, s, W, rfl, hw, ho, hs, q⟩ := h
  refine ⟨_, (pss_cons (ps_setLc (i := 2) (own := [("_", 6)]) (g := gName 6) (by rfl) sc_places_to.nd rfl rfl (sw_true rfl rfl rfl (by decide +kernel)) (pi_range1 (by rfl) B.range (pa_cons (pe_prop (pv 0) WK.cl pWeb_places OWeb_places (hr.mono (by decide)) bWeb_places .nil pass0 (by rfl)) pa_nil)) (blkOk_by (own := [("_", 6)]) (N := ["web", "without", "ends", "tie", "near", "far", "_"]) (sc := defScope s_places_to) (by decide +kernel)) (fun _ _ _ _ _ => (pg_name (i := 6) sc_places_to.nd rfl (by first | exact Or.inl rfl | exact Or.inr rfl))) (fun _ _ _ _ _ => pts_nil) (fun _ _ _ _ _ => (pe_lst pa_nil)))
  (pss_cons (ps_for PassesOwn.never rfl (pi_enum (by rfl) B.enumerate (pa_cons (pe_meth0 (pv 0) WK.cl tWeb_ties OWeb_ties (hr.mono (by decide)) bWeb_ties .nil pass0) pa_nil)) (pg_tup rfl (pgs_cons (pg_name (i := 3) sc_places_to.nd rfl (by first | exact Or.inl rfl | exact Or.inr rfl)) (pgs_cons (pg_tup rfl (pgs_cons (pg_name (i := 4) sc_places_to.nd rfl (by first | exact Or.inl rfl | exact Or.inr rfl)) (pgs_cons (pg_name (i := 5) sc_places_to.nd rfl (by first | exact Or.inl rfl | exact Or.inr rfl)) pgs_nil))) pgs_nil)))
    (pss_one (ps_if (pt_cmpR op_notIn_seq (pv 3) (pv 1) (by rfl))
    (pss_one (ps_expr (pe_bm PySem.F.plainAttrs_list PySem.F.slot_list_append PySem.F.type_list_append mt_append (pe_ix ix_list (pv 2) (pv 4) (fun _ _ => rfl)) (pa_cons (pv 5) pa_nil)))) pss_nil)))
  (pss_one (ps_ret (pv 2))))), ?_⟩
  have hN := ho.n1
  have hm := ho.m
  obtain ⟨dx, tl, fl, ol, h1, _⟩ := id hw
  refine ⟨_, rfl, a, dx, _, rfl, h1, a, N, ts, rfl, hw, _, rfl, by omega, by omega, fun D nD => ?_⟩
  refine lc_range (lo := 0) (n := N) (fun i H' => Fresh H D i H') (Fresh.zero nD) ?_ ?_
  · intro i H' hi hf
    exact ⟨rfl, Nat.zero_le _, fun p np => hf.step nD (by omega) np⟩
  rintro H1 ⟨fas, f1, f2, f3, f4, f5, f6⟩
  have hw1 := hw.same f4
  obtain ⟨dx, tl, fl, ol, h1, _⟩ := id hw1
  refine ⟨_, rfl, a, dx, _, rfl, h1, wf_no _ _ _ _ (by decide +kernel) (by decide +kernel) (by decide +kernel) (by decide +kernel), a, N, ts, rfl, hw1, fun H2 l nl hS2 ⟨tas, hl, hP⟩ => ⟨_, _, rfl, SqL.of hl, ?_⟩⟩
  have f52 := hS2 _ _ f5
  have f62 : ∀ x ∈ fas, H2 x = some (.lst []) := fun x hx => hS2 _ _ (f6 x hx)
  have lf : l ∉ fas := fun z => by rw [f6 l z] at nl; cases nl
  have lD : l ≠ D := fun z => by rw [z, f5] at nl; cases nl
  have Df : D ∉ fas := fun z => (f3 D z).2 rfl
  have sf : s ∉ fas := fun z => by
    have := (f3 s z).1
    rcases hs with h | h
    · rw [this] at h; cases h
    · rw [this] at h; cases h
  have pf : ∀ p e, TupAt H2 p e → p ∉ fas := fun p e hp z => by
    unfold TupAt at hp
    rw [f62 p z] at hp
    cases hp
  have hs2 := (hs.same f4).same hS2
  refine for_it (walk_enum (K := K) (a := l) (xs := tas.map V.ref)) (fun i σ H' => ∃ v3 v4 v5 v6 : Option V, σ = [some (.ref a), some (.ref s), some (.ref D), v3, v4, v5, v6] ∧ KeptR fas H2 H' ∧ (∀ (j : Nat) (x : Addr), fas[j]? = some x → H' x = some (.lst (iv (outN ts W j i))))) ?_ ?_ ?_ ?_
  · exact ⟨_, _, _, _, rfl, .refl _ _, fun j x e => f62 x (List.mem_of_getElem? e)⟩
  · rintro i σ H' hi ⟨v3, v4, v5, v6, rfl, hk, _⟩
    exact SqL.of (hk _ _ hl lf)
  · rintro i x σ H3 H4 hi ⟨v3, v4, v5, v6, rfl, hk, hf⟩ ⟨T0, x1, x2, rfl, nT0, rfl, e1, e2⟩
    cases e1
    rw [List.length_map] at hi
    replace e2 : (tas.map V.ref)[i]? = some x2 := e2
    rw [List.getElem?_map, List.getElem?_eq_getElem hi] at e2
    cases e2
    obtain ⟨⟨u, v⟩, he, hpe⟩ := paired_get hP (List.getElem?_eq_getElem hi)
    obtain ⟨hu, hv⟩ := ho.ok _ (List.mem_of_getElem? he)
    have hk4 := hk.new (p := T0) (o := .tup [.int (i : Int), .ref tas[i]]) nT0
    have hS4 : Same H3 (upd H3 T0 (.tup [.int (i : Int), .ref tas[i]])) := same_new nT0 _
    have hT4 : (upd H3 T0 (.tup [.int (i : Int), .ref tas[i]])) T0 = some (.tup [.int (i : Int), .ref tas[i]]) := upd_same
    generalize upd H3 T0 (.tup [.int (i : Int), .ref tas[i]]) = H4 at hk4 hS4 hT4
    have hp4 : H4 tas[i] = some (.tup [.int (u : Int), .int (v : Int)]) := hk4 _ _ hpe (pf _ _ hpe)
    have hs4 : SeqAt H4 s W := hs2.imp (fun h => hk4 _ _ h sf) (fun h => hk4 _ _ h sf)
    have htsl : i < ts.length := by rw [← paired_len hP]; exact hi
    obtain ⟨xu, eu⟩ : ∃ x, fas[u]? = some x := ⟨fas[u]'(by omega), List.getElem?_eq_getElem _⟩
    have mu := List.mem_of_getElem? eu
    have hxu := hS4 _ _ (hf u xu eu)
    refine ⟨T0, _, rfl, SqT.of hT4, rfl, _, _, rfl, _, _, rfl, ⟨tas[i], _, rfl, SqT.of hp4, rfl, _, _, rfl, _, _, rfl, rfl, rfl, ?_⟩⟩
    refine ⟨_, rfl, _, rfl, s, _, rfl, hs4.seq, rfl, flat_iv _, _, rfl, ?_⟩
    rw [inV_iv]
    by_cases c : i ∈ W
    · refine iteNot' c ⟨_, _, _, _, rfl, hk4, fun j x e => ?_⟩
      have e2 : outN ts W j (i + 1) = outN ts W j i := by
        show (match ts[i]? with | some e => if e.1 = j ∧ i ∉ W then outN ts W j i ++ [e.2] else outN ts W j i | none => outN ts W j i) = _
        rw [he]
        exact if_neg fun z => z.2 c
      rw [e2]
      exact hS4 _ _ (hf j x e)
    · refine iteNot c ?_
      refine ⟨_, rfl, _, rfl, _, _, _, .ref xu, rfl, rfl, SqL.of (hk4 _ _ f52 Df), atI_nat (by rw [List.getElem?_map, eu]; rfl), .inl ⟨rfl, _, SqL.of hxu⟩, _, rfl, xu, _, _, rfl, rfl, hxu, ?_, ?_⟩
      · rw [List.length_map]
        exact Nat.lt_of_le_of_lt (outN_len ts W u i) (Nat.lt_trans (by omega : i < 1000) (by decide))
      refine ⟨_, _, _, _, rfl, hk4.put mu, fun j x e => ?_⟩
      by_cases cj : j = u
      · subst cj
        rw [eu] at e
        cases e
        have e2 : outN ts W j (i + 1) = outN ts W j i ++ [v] := by
          show (match ts[i]? with | some e => if e.1 = j ∧ i ∉ W then outN ts W j i ++ [e.2] else outN ts W j i | none => outN ts W j i) = _
          rw [he]
          exact if_pos ⟨rfl, c⟩
        rw [upd_same, e2, iv_app]
      · have e2 : outN ts W j (i + 1) = outN ts W j i := by
          show (match ts[i]? with | some e => if e.1 = j ∧ i ∉ W then outN ts W j i ++ [e.2] else outN ts W j i | none => outN ts W j i) = _
          rw [he]
          exact if_neg fun z => cj z.1.symm
        have nx : x ≠ xu := fun z => cj (nodup_get f2 e (by rw [z]; exact eu))
        rw [upd_ne nx, e2]
        exact hS4 _ _ (hf j x e)
  · rintro σ H3 ⟨v3, v4, v5, v6, rfl, hk, hf⟩
    have hlen : (tas.map V.ref).length = ts.length := by rw [List.length_map]; exact paired_len hP
    rw [hlen] at hf
    refine ⟨_, rfl, q H3 D (fun b o e => ?_) ⟨fas, hk _ _ f52 Df, f1, hf⟩⟩
    refine hk _ _ (hS2 _ _ (f4 _ _ e)) fun z => ?_
    rw [(f3 b z).1] at e
    cases e
end
end My
namespace My
open PySem L2 PyProof.Rows
/-! ### dicts by whole numbers -/
def dP (ps : List (Nat × V)) : List (Key × V) := ps.map fun p => (Sum.inl (p.1 : Int), p.2)
theorem dP_val (n : Nat) : ∀ ps : List (Nat × V), valV (dP ps) (Sum.inl (n : Int) : Key) = (ps.find? fun p => decide (p.1 = n)).map (·.2)
  | [] => rfl
  | p :: r => by
    have ih := dP_val n r
    by_cases h : p.1 = n
    · rw [show dP (p :: r) = (Sum.inl (p.1 : Int), p.2) :: dP r from rfl, valV_pos (by rw [h]), List.find?_cons_of_pos (by simpa using h)]
      rfl
    · rw [show dP (p :: r) = (Sum.inl (p.1 : Int), p.2) :: dP r from rfl, valV_neg (fun z => h (by have := Sum.inl.inj z; omega)), List.find?_cons_of_neg (by simpa using h)]
      exact ih
theorem dP_isSome (n : Nat) (ps : List (Nat × V)) : (valV (dP ps) (Sum.inl (n : Int) : Key)).isSome = decide (n ∈ ps.map Prod.fst) := by
  rw [dP_val, Option.isSome_map]
  induction ps with
  | nil => rfl
  | cons p r ih =>
    by_cases h : p.1 = n
    · rw [List.find?_cons_of_pos (by simpa using h)]
      simp [h]
    · rw [List.find?_cons_of_neg (by simpa using h), ih]
      have h2 : ¬ n = p.1 := fun z => h z.symm
      simp [h2]
theorem dP_none {n : Nat} {ps : List (Nat × V)} (h : n ∉ ps.map Prod.fst) : valV (dP ps) (Sum.inl (n : Int) : Key) = none := by
  have := dP_isSome n ps
  rw [decide_eq_false h] at this
  cases e : valV (dP ps) (Sum.inl (n : Int) : Key) with
  | none => rfl
  | some x => rw [e] at this; cases this
theorem dP_new {n : Nat} {ps : List (Nat × V)} (v : V) (h : n ∉ ps.map Prod.fst) : putK (dP ps) (Sum.inl (n : Int) : Key) v = dP (ps ++ [(n, v)]) := by
  rw [putK_new v (dP_none h)]
  unfold dP
  rw [List.map_append]
  rfl
theorem dP_len (ps : List (Nat × V)) : (dP ps).length = ps.length := by unfold dP; rw [List.length_map]
abbrev dS (L : List Nat) : List (Nat × V) := L.map fun n => (n, V.bl true)
theorem dS_fst (L : List Nat) : (dS L).map Prod.fst = L := by
  rw [dS, List.map_map]
  exact List.map_id' L
theorem dp_iv {K : PySem.W.Frag} {H : Hp} {p : Addr} {L : List Nat} (h : H p = some (.lst (iv L))) : Dp K H (.ref p) (dz (L.map fun n : Nat => (n : Int))) := dp_iz (by rw [← iv_iz]; exact h)
def IsReach (E : Nat → Nat → Prop) (p : Nat) (R : List Int) : Prop := R.Pairwise (· < ·) ∧ ∀ z, z ∈ R ↔ ∃ x : Nat, z = (x : Int) ∧ Rch E p x
theorem IsReach.unique {E : Nat → Nat → Prop} {p : Nat} {R S : List Int} (h : IsReach E p R) (k : IsReach E p S) : R = S := rising_ext h.1 k.1 fun x => (h.2 x).trans (k.2 x).symm
theorem isReach_of {E : Nat → Nat → Prop} {p : Nat} {L : List Nat} {ys : List Int} (h : RInv E p L []) (hp : ys.Perm (L.map fun n : Nat => (n : Int))) (hs : ys.Pairwise (· ≤ ·)) : IsReach E p ys := by
  have hn : (L.map fun n : Nat => (n : Int)).Nodup := (List.Pairwise.map (R := (· ≠ ·)) _ (fun a b hab z => hab (by omega)) h.nd)
  refine ⟨rising_of hs ((hp.nodup_iff).mpr hn), fun z => ?_⟩
  rw [hp.mem_iff, List.mem_map]
  constructor
  · rintro ⟨x, hx, rfl⟩
    exact ⟨x, rfl, (r_end h x).mp hx⟩
  · rintro ⟨x, rfl, hx⟩
    exact ⟨x, (r_end h x).mpr hx, rfl⟩
theorem rch_lt {ts : List (Nat × Nat)} {W : List Nat} {N u v : Nat} (ho : OkWeb N ts) (e : Edge ts W u v) : v < N := by
  obtain ⟨i, h, _⟩ := e
  exact (ho.ok _ (List.mem_of_getElem? h)).2
theorem snoc_at (L : List Nat) (x : Nat) : (iv (L ++ [x]))[(iv (L ++ [x])).length - 1]? = some (.int (x : Int)) := by
  rw [iv_app, List.length_append, List.length_singleton, Nat.add_sub_cancel, List.getElem?_append_right (Nat.le_refl _), Nat.sub_self]
  rfl
theorem snoc_drop (L : List Nat) (x : Nat) : (iv (L ++ [x])).dropLast = iv L := by
  rw [iv_app, List.dropLast_concat]
section
variable {P : Program} {w : World} {K : PySem.W.Frag} {mg : Str → Option Value} {base : Heap} {C : Addr}
def spreach (_ : PySem.W.Frag) (C : Addr) : Sp := fun vs H Q _ => ∃ a N ts p s W, vs = [.ref a, .int ((p : Nat) : Int), .ref s] ∧ WebAt C a N ts H ∧ OkWeb N ts ∧ p < N ∧ SeqAt H s W ∧ (∀ x ∈ W, x < ts.length) ∧ ∀ H' l R, H l = none → H' l = some (.lst (iz R)) → Same H H' → IsReach (Edge ts W) p R → Q (.ref l) H'
theorem okreach (D : Def K mg "reach" sreach ["web", "place", "without"]) (B : Bs mg) (Glb : Glo mg) (WK : WebK K mg C)
    (hneed_web : Good P w K mg base "need_web" sneed_web ["web"] 3 (spneed_web K C))
    (hneed_place : Good P w K mg base "need_place" sneed_place ["web", "place"] 4 (spneed_place K C))
    (h_need_without : Good P w K mg base "_need_without" s_need_without ["web", "without"] 5 (sp_need_without K C))
    (h_places_to : Good P w K mg base "_places_to" s_places_to ["web", "without"] 3 (sp_places_to K C)) :
    Good P w K mg base "reach" sreach ["web", "place", "without"] 6 (spreach K C) := by
  refine D.good fun f fd F => ?_
  obtain ⟨fneed_web, dneed_web, Oneed_web, mneed_web, kneed_web, bneed_web, Fneed_web⟩ := hneed_web
  obtain ⟨fneed_place, dneed_place, Oneed_place, mneed_place, kneed_place, bneed_place, Fneed_place⟩ := hneed_place
  obtain ⟨f_need_without, d_need_without, O_need_without, m_need_without, k_need_without, b_need_without, F_need_without⟩ := h_need_without
  obtain ⟨f_places_to, d_places_to, O_places_to, m_places_to, k_places_to, b_places_to, F_places_to⟩ := h_places_to
  refine F.ok screach (fun vs H Q E h => ?_) (fun cdv A outer s H vs Q E hr h => ?_)
  · obtain ⟨a, N, ts, p, s, W, rfl, hw, ho, hp, hs, hW, q⟩ := h
    first | rfl | (rcases h with ⟨_, _, rfl, _⟩ | ⟨_, rfl, _⟩ <;> rfl)
  obtain ⟨a, N, ts, p, s, W, rfl, hw, ho, hp, hs, hW, q⟩ := h
  refine ⟨_, (pss_cons (ps_expr (pe_call Oneed_web (hr.mono (by decide)) rfl mneed_web kneed_web bneed_web .nil pass0 (pa_cons (pv 0) pa_nil)))
  (pss_cons (ps_expr (pe_call Oneed_place (hr.mono (by decide)) rfl mneed_place kneed_place bneed_place .nil pass0 (pa_cons (pv 0) (pa_cons (pv 1) pa_nil))))
  (pss_cons (ps_expr (pe_call O_need_without hr rfl m_need_without k_need_without b_need_without .nil pass0 (pa_cons (pv 0) (pa_cons (pv 2) pa_nil))))
  (pss_cons (ps_set (i := 3) screach.nd rfl (by first | exact Or.inl rfl | exact Or.inr rfl) (pe_call O_places_to (hr.mono (by decide)) rfl m_places_to k_places_to b_places_to .nil pass0 (pa_cons (pv 0) (pa_cons (pv 2) pa_nil))))
  (pss_cons (ps_set (i := 4) screach.nd rfl (by first | exact Or.inl rfl | exact Or.inr rfl) (pe_disp (pps_cons (pv 1) pe_bl pps_nil) (by rfl) (by rfl) (fun z => by cases z) (by decide)))
  (pss_cons (ps_set (i := 5) screach.nd rfl (by first | exact Or.inl rfl | exact Or.inr rfl) (pe_lst (pa_cons (pv 1) pa_nil)))
  (pss_cons (ps_while PassesOwn.never (pt_cmpR (op_neD hr.units) (pv 5) (pe_lst pa_nil) (nomark _))
    (pss_cons (ps_set (i := 6) screach.nd rfl (by first | exact Or.inl rfl | exact Or.inr rfl) (pe_bm0 PySem.F.plainAttrs_list PySem.F.slot_list_pop PySem.F.type_list_pop mt_pop (pv 5)))
  (pss_one (ps_for PassesOwn.never rfl (pi_list (pe_ix ix_list (pv 3) (pv 6) (fun _ _ => rfl))) (pg_name (i := 7) screach.nd rfl (by first | exact Or.inl rfl | exact Or.inr rfl))
    (pss_one (ps_if (pt_cmp (pc_dnotin (hu_of hr) (pv 7) (pv 4)))
    (pss_cons (ps_dput (hu_of hr) (pv 4) (pv 7) pe_bl rfl)
  (pss_one (ps_expr (pe_bm PySem.F.plainAttrs_list PySem.F.slot_list_append PySem.F.type_list_append mt_append (pv 5) (pa_cons (pv 7) pa_nil))))) pss_nil))))))
  (pss_one (ps_ret (pe_callB (call_sortedDI rfl) (by rfl) B.sorted (by decide +kernel) (pa_cons (pv 4) pa_nil))))))))))), ?_⟩
  have hN := ho.n1
  have hm := ho.m
  refine ⟨_, rfl, a, N, ts, rfl, hw, _, rfl, _, rfl, a, N, ts, p, rfl, hw, hp, _, rfl, _, rfl, a, N, ts, s, W, rfl, hw, hs, hW, fun H1 hS1 => ?_⟩
  refine ⟨_, rfl, _, rfl, a, N, ts, s, W, rfl, hw.same hS1, ho, hs.same hS1, fun H2 en hS2 hR => ?_⟩
  refine fun sd nsd => ⟨_, rfl, upd_same, [((Sum.inl (p : Int) : Key), V.bl true)], rfl, (by show 1 ≤ 15; decide), ?_⟩
  refine ⟨_, rfl, (by show 1 ≤ sizeLine; decide), fun wl nwl => ?_⟩
  have nsd2 : H2 sd = none := nsd
  have nws : wl ≠ sd := fun z => by rw [z, upd_same] at nwl; cases nwl
  have hm1 : mergeK [] [((Sum.inl (p : Int) : Key), V.bl true)] = dP (dS [p]) := rfl
  rw [hm1] at nwl ⊢
  have eH : upd (upd H2 sd (.dK [])) sd (.dK (dP (dS [p]))) = upd H2 sd (.dK (dP (dS [p]))) := upd_upd
  rw [eH] at nwl ⊢
  have nwl2 : H2 wl = none := by rw [upd_ne nws] at nwl; exact nwl
  have hw2 := (hw.same hS1).same hS2
  have hS02 := hS1.trans hS2
  let Pv : Nat → L2.St → Hp → Prop := fun m σ H' => ∃ (v6 v7 : Option V) (seen waiting : List Nat), σ = [some (.ref a), some (.int (p : Int)), some (.ref s), some (.ref en), some (.ref sd), some (.ref wl), v6, v7] ∧ Same H2 H' ∧ H' sd = some (.dK (dP (dS seen))) ∧ H' wl = some (.lst (iv waiting)) ∧ RInv (Edge ts W) p seen waiting ∧ (∀ x ∈ seen, x < N) ∧ (N - seen.length) + waiting.length = m ∧ m ≤ 60
  refine ⟨Pv, ⟨_, none, none, [p], [p], rfl, same_upd (same_new nsd2 _) nwl2, by rw [upd_ne nws.symm]; exact upd_same, upd_same, r_start p, fun x hx => by rw [List.mem_singleton.mp hx]; exact hp, rfl, by show (N - 1) + 1 ≤ 60; omega⟩, ?_⟩
  rintro m σ H3 ⟨v6, v7, seen, waiting, rfl, hS3, hsd, hwl, hI, hlt, hμ, hm60⟩
  refine ⟨_, rfl, (by decide), fun p0 np0 => ⟨_, _, dp_iv (same_new np0 _ _ _ hwl), dp_iz (L := []) upd_same, shaped_iz _, shaped_iz _, _, rfl, ?_⟩⟩
  have n0s : sd ≠ p0 := ne_of_none hsd np0
  have n0w : wl ≠ p0 := ne_of_none hwl np0
  have hS4 : Same H2 (upd H3 p0 (.lst [])) := fun b o e => same_new np0 _ _ _ (hS3 _ _ e)
  have hsd4 : (upd H3 p0 (.lst [])) sd = some (.dK (dP (dS seen))) := same_new np0 _ _ _ hsd
  have hwl4 : (upd H3 p0 (.lst [])) wl = some (.lst (iv waiting)) := same_new np0 _ _ _ hwl
  generalize upd H3 p0 (.lst []) = H4 at hS4 hsd4 hwl4
  rw [eqv_empty]
  rcases List.eq_nil_or_concat waiting with rfl | ⟨rest, here, rfl⟩
  · refine iteNot' (by rfl) ?_
    refine ⟨_, rfl, sd, _, seen.map fun n : Nat => (n : Int), rfl, .inl hsd4, ?_, ?_, fun ys l hperm hsort nl => ?_⟩
    · unfold dP
      rw [List.map_map, List.map_map, List.map_map]
      rfl
    · rw [List.length_map]
      have := few hI.nd hlt
      omega
    · exact q _ l ys (hS02.free (hS4.free nl)) upd_same (fun b o e => same_new nl _ _ _ (hS4 _ _ (hS02 _ _ e))) (isReach_of hI hperm hsort)
  · rw [List.concat_eq_append] at *
    refine iteNot (by simp) ?_
    have hin : here ∈ seen := hI.sub here (by simp)
    have hhere := hlt _ hin
    obtain ⟨x, xs, e1, e2, e3⟩ := (hR.same hS4).get hhere
    refine ⟨fun σ' H' => ∃ m', m' < m ∧ Pv m' σ' H', fun σ' H' h => h, ?_⟩
    refine ⟨_, rfl, .inl ⟨rfl, _, SqL.of hwl4⟩, wl, _, _, rfl, rfl, hwl4, snoc_at _ _, ?_⟩
    rw [snoc_drop]
    generalize e5 : upd H4 wl (.lst (iv rest)) = H5
    have hS5 : Same H2 H5 := by rw [← e5]; exact same_upd hS4 nwl2
    have hsd5 : H5 sd = some (.dK (dP (dS seen))) := by rw [← e5, upd_ne nws.symm]; exact hsd4
    have hwl5 : H5 wl = some (.lst (iv rest)) := by rw [← e5]; exact upd_same
    obtain ⟨x, xs, e1, e2, e3⟩ := hR.get hhere
    refine ⟨_, rfl, _, rfl, _, _, _, .ref x, rfl, rfl, SqL.of (hS5 _ _ e1), e2, x, rfl, ⟨_, SqL.of (hS5 _ _ e3)⟩, ?_⟩
    refine for_list (K := K) (a := x) (xs := iv (outs ts W here)) (fun i σ H' => ∃ (v7 : Option V) (seen waiting : List Nat), σ = [some (.ref a), some (.int (p : Int)), some (.ref s), some (.ref en), some (.ref sd), some (.ref wl), some (.int (here : Int)), v7] ∧ Same H2 H' ∧ H' sd = some (.dK (dP (dS seen))) ∧ H' wl = some (.lst (iv waiting)) ∧ RMid (Edge ts W) p here (fun v => v ∈ (outs ts W here).take i) seen waiting ∧ (∀ x ∈ seen, x < N) ∧ (N - seen.length) + waiting.length + 1 = m) ?_ ?_ ?_ ?_
    · refine ⟨v7, seen, rest, rfl, hS5, hsd5, hwl5, r_old (r_pop hI) (fun x hx => by simp at hx), hlt, ?_⟩
      rw [List.length_append, List.length_singleton] at hμ
      omega
    · rintro i σ H' hi ⟨_, _, _, rfl, hS', _⟩
      exact SqL.of (hS' _ _ e3)
    · rintro i y σ H6 hy ⟨w7, seen', waiting', rfl, hS6, hsd6, hwl6, hM, hlt', hμ'⟩
      rw [List.getElem?_map] at hy
      obtain ⟨v, hv, rfl⟩ : ∃ v, (outs ts W here)[i]? = some v ∧ y = V.int (v : Int) := by
        cases e : (outs ts W here)[i]? with
        | none => rw [e] at hy; cases hy
        | some v => rw [e] at hy; exact ⟨v, rfl, (Option.some.inj hy).symm⟩
      have hE : Edge ts W here v := outs_mem.mp (List.mem_of_getElem? hv)
      have hvN := rch_lt ho hE
      have htk : (outs ts W here).take (i + 1) = (outs ts W here).take i ++ [v] := by rw [List.take_succ, hv]; rfl
      refine ⟨_, rfl, _, rfl, sd, _, rfl, DGet.k (k := Sum.inl (v : Int)) hsd6, _, rfl, ?_⟩
      rw [dP_isSome, dS_fst]
      by_cases c : v ∈ seen'
      · refine iteNot' c ⟨_, seen', waiting', rfl, hS6, hsd6, hwl6, r_old hM (fun z hz => ?_), hlt', hμ'⟩
        rw [htk] at hz
        rcases List.mem_append.mp hz with h | h
        · exact .inl h
        · rw [List.mem_singleton.mp h]; exact .inr c
      · refine iteNot c ?_
        have c2 : v ∉ (dS seen').map Prod.fst := by rw [dS_fst]; exact c
        have hfew := few hM.nd hlt'
        have hfew2 : (seen' ++ [v]).length ≤ N := few (by rw [List.nodup_append]; exact ⟨hM.nd, by simp, fun p hp q hq => by rw [List.mem_singleton.mp hq]; rintro rfl; exact c hp⟩) (fun z hz => by
          rcases List.mem_append.mp hz with h | h
          · exact hlt' z h
          · rw [List.mem_singleton.mp h]; exact hvN)
        rw [List.length_append, List.length_singleton] at hfew2
        refine ⟨_, rfl, _, rfl, sd, _, rfl, DPut.k (k := Sum.inl (v : Int)) hsd6 (by rw [dP_len, List.length_map]; exact Nat.lt_of_le_of_lt hfew (Nat.lt_of_le_of_lt hN (by decide))), ?_⟩
        rw [dP_new _ c2]
        have hwl7 : upd H6 sd (.dK (dP (dS seen' ++ [(v, V.bl true)]))) wl = some (.lst (iv waiting')) := by rw [upd_ne nws]; exact hwl6
        refine ⟨_, rfl, .inl ⟨rfl, _, SqL.of hwl7⟩, _, rfl, wl, _, _, rfl, rfl, hwl7, ?_, ?_⟩
        · rw [List.length_map]
          exact Nat.lt_of_le_of_lt (by omega : waiting'.length ≤ 60) (by decide)
        refine ⟨_, seen' ++ [v], waiting' ++ [v], rfl, same_upd (same_upd hS6 nsd2) nwl2, ?_, ?_, r_new hM hE c (fun z hz => ?_), fun z hz => ?_, ?_⟩
        · rw [upd_ne nws.symm, upd_same]
          unfold dS
          rw [List.map_append]
          rfl
        · rw [upd_same, iv_app]
        · rw [htk] at hz
          rcases List.mem_append.mp hz with h | h
          · exact .inl h
          · exact .inr (List.mem_singleton.mp h)
        · rcases List.mem_append.mp hz with h | h
          · exact hlt' z h
          · rw [List.mem_singleton.mp h]; exact hvN
        · rw [List.length_append, List.length_append, List.length_singleton]
          omega
    · rintro σ H6 ⟨w7, seen', waiting', rfl, hS6, hsd6, hwl6, hM, hlt', hμ'⟩
      refine ⟨_, by rw [← hμ']; exact Nat.lt_succ_self _, _, _, seen', waiting', rfl, hS6, hsd6, hwl6, r_done hM (fun v hv => ?_), hlt', rfl, by omega⟩
      rw [List.length_map, List.take_length]
      exact outs_mem.mpr hv
end
end My
namespace My
open PySem L2 PyProof.Rows
def zT (L T : List Nat) : List (Nat × V) := ((L.drop 1).zip T).map fun p => (p.1, V.int (p.2 : Int))
theorem zT_fst {L T : List Nat} (h : L.length = T.length + 1) : (zT L T).map Prod.fst = L.drop 1 := by
  unfold zT
  rw [List.map_map]
  show ((L.drop 1).zip T).map Prod.fst = L.drop 1
  exact List.map_fst_zip (by rw [List.length_drop]; omega)
theorem zT_len {L T : List Nat} (h : L.length = T.length + 1) : (zT L T).length = T.length := by
  unfold zT
  rw [List.length_map, List.length_zip, List.length_drop]
  omega
theorem zT_snoc {L T : List Nat} (h : L.length = T.length + 1) (v t : Nat) : zT (L ++ [v]) (T ++ [t]) = zT L T ++ [(v, V.int (t : Int))] := by
  unfold zT
  rw [List.drop_append_of_le_length (by omega), List.zip_append (by rw [List.length_drop]; omega), List.map_append]
  rfl
theorem find_zip : ∀ {ks ts : List Nat} {j v t : Nat}, ks.Nodup → ks[j]? = some v → ts[j]? = some t → (((ks.zip ts).map fun p => (p.1, V.int (p.2 : Int))).find? fun p => decide (p.1 = v)) = some (v, V.int (t : Int))
  | [], _, _, _, _, _, h, _ => by simp at h
  | _ :: _, [], _, _, _, _, _, h => by simp at h
  | k :: ks, t0 :: ts, 0, v, t, _, h1, h2 => by
    simp at h1 h2
    subst h1 h2
    rw [List.zip_cons_cons, List.map_cons, List.find?_cons_of_pos (by simp)]
  | k :: ks, t0 :: ts, j + 1, v, t, hn, h1, h2 => by
    have hk : ¬ k = v := fun z => (List.nodup_cons.mp hn).1 (by rw [z]; exact List.mem_of_getElem? (by simpa using h1))
    rw [List.zip_cons_cons, List.map_cons, List.find?_cons_of_neg (by simpa using hk)]
    exact find_zip (List.nodup_cons.mp hn).2 (by simpa using h1) (by simpa using h2)
theorem zT_val {L T : List Nat} {j v t : Nat} (hn : (L.drop 1).Nodup) (h1 : L[j + 1]? = some v) (h2 : T[j]? = some t) : valV (dP (zT L T)) (Sum.inl (v : Int) : Key) = some (.int (t : Int)) := by
  rw [dP_val, zT, find_zip hn (by rw [List.getElem?_drop, Nat.add_comm]; exact h1) h2]
  rfl
theorem iv_neg1 (L : List Nat) (x : Nat) : atI (iv (L ++ [x])) (-1) = some (.int (x : Int)) := by
  rw [iv_app]
  exact atI_last _ _
theorem ties_at {K : PySem.W.Frag} {H : Hp} {l : Addr} {ts : List (Nat × Nat)} (h : TiesAt H l ts) {t : Nat} {u v : Nat} (e : ts[t]? = some (u, v)) : ∃ tas p, SqL K H l tas ∧ atI tas (t : Int) = some (.ref p) ∧ SqT K H p [.int (u : Int), .int (v : Int)] := by
  obtain ⟨tas, h1, h2⟩ := h
  have hlt : t < tas.length := by rw [paired_len h2]; exact (List.getElem?_eq_some_iff.mp e).1
  obtain ⟨⟨u', v'⟩, he, hp⟩ := paired_get h2 (List.getElem?_eq_getElem hlt)
  rw [e] at he
  cases he
  exact ⟨_, tas[t], SqL.of h1, atI_nat (by rw [List.getElem?_map, List.getElem?_eq_getElem hlt]; rfl), SqT.of hp⟩
section
variable {P : Program} {w : World} {K : PySem.W.Frag} {mg : Str → Option Value} {base : Heap} {C : Addr}
def sp_walk_back (_ : PySem.W.Frag) (_ : Addr) : Sp := fun vs H Q _ => ∃ tl d near far ts W L T ds jf D, vs = [.ref tl, .ref d, .int ((near : Nat) : Int), .int ((far : Nat) : Int)] ∧ TiesAt H tl ts ∧ H d = some (.dK (dP (zT L T))) ∧ Bfs ts W near L T ds ∧ L[jf + 1]? = some far ∧ ds[jf + 1]? = some D ∧ D ≤ 1000 ∧
  ∀ H' l p, H l = none → Same H H' → H' l = some (.lst (iv p)) → Pth ts W near p far → p.length = D → Q (.ref l) H'
theorem ok_walk_back (D : Def K mg "_walk_back" s_walk_back ["ties", "came_by", "near", "far"]) (B : Bs mg) (Glb : Glo mg) (WK : WebK K mg C) :
    Good P w K mg base "_walk_back" s_walk_back ["ties", "came_by", "near", "far"] 1 (sp_walk_back K C) := by
  refine D.good fun f fd F => ?_
  refine F.ok sc_walk_back (fun vs H Q E h => ?_) (fun cdv A outer s H vs Q E hr h => ?_)
  · obtain ⟨tl, d, near, far, ts, W, L, T, ds, jf, D, rfl, ht, hd, hB, hf, hD, hD1, q⟩ := h
    first | rfl | (rcases h with ⟨_, _, rfl, _⟩ | ⟨_, rfl, _⟩ <;> rfl)
  obtain ⟨tl, d, near, far, ts, W, L, T, ds, jf, D, rfl, ht, hd, hB, hf, hD, hD1, q⟩ := h
  refine ⟨_, (pss_cons (ps_set (i := 4) sc_walk_back.nd rfl (by first | exact Or.inl rfl | exact Or.inr rfl) (pe_lst (pa_cons (pe_dget (hu_of hr) (pv 1) (pv 3) (fun _ _ => rfl)) pa_nil)))
  (pss_cons (ps_while PassesOwn.never (pt_cmpR op_ne (pe_ix ix_tup (pe_ix ix_list (pv 0) (pe_ix ix_list (pv 4) (pe_un un_neg pe_int) (fun _ _ => rfl)) (fun _ _ => rfl)) pe_int (fun _ _ => rfl)) (pv 2) (nomark _))
    (pss_one (ps_expr (pe_bm PySem.F.plainAttrs_list PySem.F.slot_list_append PySem.F.type_list_append mt_append (pv 4) (pa_cons (pe_dget (hu_of hr) (pv 1) (pe_ix ix_tup (pe_ix ix_list (pv 0) (pe_ix ix_list (pv 4) (pe_un un_neg pe_int) (fun _ _ => rfl)) (fun _ _ => rfl)) pe_int (fun _ _ => rfl)) (fun _ _ => rfl)) pa_nil)))))
  (pss_one (ps_ret (pe_revL (pv 4)))))), ?_⟩
  have l1 := hB.l1
  have tie : ∀ j v, L[j + 1]? = some v → ∃ t, T[j]? = some t := fun j v h => by
    have hl := (List.getElem?_eq_some_iff.mp h).1
    exact ⟨T[j]'(by omega), List.getElem?_eq_getElem _⟩
  obtain ⟨t0, et0⟩ := tie jf far hf
  refine ⟨_, rfl, _, rfl, d, _, rfl, (zT_val hB.nd hf et0) ▸ DGet.k (k := Sum.inl (far : Int)) hd, ?_⟩
  refine ⟨(by show 1 ≤ sizeLine; decide), fun bl nbl => ?_⟩
  obtain ⟨u0, v0, i0, x0, p1, p2, p3, p4, p5, p6, p7, p8⟩ := hB.by_ jf t0 et0
  rw [hf] at p3
  cases p3
  rw [hD] at p7
  have eD := Option.some.inj p7
  let Pv : Nat → L2.St → Hp → Prop := fun m σ H' => ∃ (b : List Nat) (t u v i x : Nat), σ = [some (.ref tl), some (.ref d), some (.int (near : Int)), some (.int (far : Int)), some (.ref bl)] ∧ Same H H' ∧ H' bl = some (.lst (iv (b ++ [t]))) ∧ ts[t]? = some (u, v) ∧ i ≤ m ∧ L[i]? = some u ∧ ds[i]? = some x ∧ (0 < i → u ≠ near) ∧ Pth ts W u (t :: b.reverse) far ∧ b.length + 1 + x = D
  refine ⟨Pv, ⟨jf, [], t0, u0, far, i0, x0, rfl, same_new nbl _, upd_same, p1, p4, p5, p6, p8, .one p1 p2, by show 0 + 1 + x0 = D; omega⟩, ?_⟩
  rintro m σ H1 ⟨b, t, u, v, i, x, rfl, hS, hbl, he, hi, hLi, hx, hne, hP, hlen⟩
  obtain ⟨tas, tp, g1, g2, g3⟩ := ties_at (K := K) (ht.same hS) he
  refine ⟨_, rfl, _, rfl, _, rfl, _, _, _, _, rfl, rfl, SqL.of hbl, iv_neg1 b t, _, _, _, _, rfl, rfl, g1, g2, _, _, _, .int (u : Int), rfl, rfl, g3, rfl, _, rfl, rfl, _, rfl, ?_⟩
  by_cases c : u = near
  · refine iteNot' (int_eq.mpr (by rw [c])) ?_
    refine ⟨_, rfl, _, _, rfl, SqL.of hbl, fun l nl => ?_⟩
    have ex : x = 0 := by
      rcases Nat.eq_zero_or_pos i with z | z
      · subst z
        rw [hB.d0] at hx
        exact (Option.some.inj hx).symm
      · exact absurd c (hne z)
    refine q _ l (b ++ [t]).reverse (hS.free nl) (fun b' o e => same_new nl _ _ _ (hS _ _ e)) ?_ (by rw [List.reverse_append]; rw [← c]; exact hP) (by rw [List.length_reverse, List.length_append, List.length_singleton]; omega)
    rw [upd_same, iv, iv, List.map_reverse]
  · refine iteNot (fun z => c (by have := int_eq.mp z; omega)) ?_
    have hi0 : 0 < i := by
      rcases Nat.eq_zero_or_pos i with z | z
      · subst z
        rw [hB.l0] at hLi
        exact absurd (Option.some.inj hLi).symm c
      · exact z
    obtain ⟨j, rfl⟩ : ∃ j, i = j + 1 := ⟨i - 1, by omega⟩
    obtain ⟨t', et'⟩ := tie j u hLi
    obtain ⟨u', v', i', x', r1, r2, r3, r4, r5, r6, r7, r8⟩ := hB.by_ j t' et'
    rw [hLi] at r3
    cases r3
    rw [hx] at r7
    have ex := Option.some.inj r7
    refine ⟨fun σ' H' => ∃ m', m' < m ∧ Pv m' σ' H', fun σ' H' h => h, ?_⟩
    refine ⟨_, rfl, .inl ⟨rfl, _, SqL.of hbl⟩, _, rfl, _, rfl, _, rfl, _, rfl, _, _, _, _, rfl, rfl, SqL.of hbl, iv_neg1 b t, _, _, _, _, rfl, rfl, g1, g2, _, _, _, .int (u : Int), rfl, rfl, g3, rfl, d, _, rfl, (zT_val hB.nd hLi et') ▸ DGet.k (k := Sum.inl (u : Int)) (hS _ _ hd), bl, _, _, rfl, rfl, hbl, ?_, ?_⟩
    · rw [List.length_map, List.length_append, List.length_singleton]
      exact Nat.lt_of_le_of_lt (by omega : b.length + 1 ≤ 1000) (by decide)
    refine ⟨j, by omega, b ++ [t], t', u', u, i', x', rfl, same_upd hS nbl, ?_, r1, r4, r5, r6, r8, ?_, ?_⟩
    · rw [upd_same, iv_app (b ++ [t])]
    · rw [List.reverse_append]
      exact .cons r1 r2 hP
    · rw [List.length_append, List.length_singleton]
      omega
end
end My
namespace My
open PySem L2 PyProof.Rows
theorem bfs_len {ts : List (Nat × Nat)} {W : List Nat} {a N : Nat} {L T ds : List Nat} (h : Bfs ts W a L T ds) (hl : ∀ x ∈ L, x < N) : L.length ≤ N + 1 := by
  have h1 := few h.nd (fun x hx => hl x (List.mem_of_mem_drop hx))
  rw [List.length_drop] at h1
  omega
theorem ds_le {ts : List (Nat × Nat)} {W : List Nat} {a : Nat} {L T ds : List Nat} (h : Bfs ts W a L T ds) : ∀ (j x : Nat), ds[j]? = some x → x ≤ j := by
  intro j
  induction j using Nat.strongRecOn with
  | _ j ih =>
    intro x hx
    cases j with
    | zero =>
      rw [h.d0] at hx
      cases hx
      omega
    | succ j =>
      have hl := (List.getElem?_eq_some_iff.mp hx).1
      have e : T[j]? = some (T[j]'(by have := h.l1; have := h.l2; omega)) := List.getElem?_eq_getElem _
      obtain ⟨u, v, i, y, _, _, _, q4, _, q6, q7, _⟩ := h.by_ j _ e
      rw [hx] at q7
      have := Option.some.inj q7
      have := ih i (by omega) y q6
      omega
theorem frm_mem {ts : List (Nat × Nat)} {p x : Nat} : x ∈ frm ts p ↔ ∃ v, ts[x]? = some (p, v) := by
  rw [frm, frmN_mem]
  constructor
  · rintro ⟨h1, h2⟩
    rw [List.getElem?_eq_getElem h1] at h2 ⊢
    refine ⟨ts[x].2, ?_⟩
    have := Option.some.inj h2
    rw [← this]
  · rintro ⟨v, h⟩
    exact ⟨(List.getElem?_eq_some_iff.mp h).1, by rw [h]; rfl⟩
section
variable {P : Program} {w : World} {K : PySem.W.Frag} {mg : Str → Option Value} {base : Heap} {C : Addr}
def NoWay (ts : List (Nat × Nat)) (W : List Nat) (near far : Nat) : Prop := ∀ k, 1 ≤ k → ¬ Wk (Edge ts W) k near far
def spway (_ : PySem.W.Frag) (C : Addr) : Sp := fun vs H Q _ => ∃ a N ts near far s W, vs = [.ref a, .int ((near : Nat) : Int), .int ((far : Nat) : Int), .ref s] ∧ WebAt C a N ts H ∧ OkWeb N ts ∧ near < N ∧ far < N ∧ SeqAt H s W ∧ (∀ x ∈ W, x < ts.length) ∧
  (∀ H' l p, H l = none → Same H H' → H' l = some (.lst (iv p)) → Pth ts W near p far → Few (Edge ts W) near far p.length → p.length ≤ 1000 → Q (.ref l) H') ∧ (∀ H', Same H H' → NoWay ts W near far → Q .non H')
theorem okway (D : Def K mg "way" sway ["web", "near", "far", "without"]) (B : Bs mg) (Glb : Glo mg) (WK : WebK K mg C)
    (hneed_web : Good P w K mg base "need_web" sneed_web ["web"] 3 (spneed_web K C))
    (hneed_place : Good P w K mg base "need_place" sneed_place ["web", "place"] 4 (spneed_place K C))
    (h_need_without : Good P w K mg base "_need_without" s_need_without ["web", "without"] 5 (sp_need_without K C))
    (h_walk_back : Good P w K mg base "_walk_back" s_walk_back ["ties", "came_by", "near", "far"] 1 (sp_walk_back K C))
    (hWeb_ties : GoodM P w K mg base C "ties" "Web.ties" sWeb_ties ["self"] 1 (spWeb_ties K C))
    (hWeb_ties_from : GoodM P w K mg base C "ties_from" "Web.ties_from" sWeb_ties_from ["self", "place"] 5 (spWeb_ties_from K C)) :
    Good P w K mg base "way" sway ["web", "near", "far", "without"] 7 (spway K C) := by
  refine D.good fun f fd F => ?_
  obtain ⟨fneed_web, dneed_web, Oneed_web, mneed_web, kneed_web, bneed_web, Fneed_web⟩ := hneed_web
  obtain ⟨fneed_place, dneed_place, Oneed_place, mneed_place, kneed_place, bneed_place, Fneed_place⟩ := hneed_place
  obtain ⟨f_need_without, d_need_without, O_need_without, m_need_without, k_need_without, b_need_without, F_need_without⟩ := h_need_without
  obtain ⟨f_walk_back, d_walk_back, O_walk_back, m_walk_back, k_walk_back, b_walk_back, F_walk_back⟩ := h_walk_back
  obtain ⟨fWeb_ties, dWeb_ties, OWeb_ties, tWeb_ties, bWeb_ties⟩ := hWeb_ties
  obtain ⟨fWeb_ties_from, dWeb_ties_from, OWeb_ties_from, tWeb_ties_from, bWeb_ties_from⟩ := hWeb_ties_from
  refine F.ok scway (fun vs H Q E h => ?_) (fun cdv A outer s H vs Q E hr h => ?_)
  · obtain ⟨a, N, ts, near, far, s, W, rfl, hw, ho, hn, hfar, hs, hW, q1, q2⟩ := h
    first | rfl | (rcases h with ⟨_, _, rfl, _⟩ | ⟨_, rfl, _⟩ <;> rfl)
  obtain ⟨a, N, ts, near, far, s, W, rfl, hw, ho, hn, hfar, hs, hW, q1, q2⟩ := h
  refine ⟨_, (pss_cons (ps_expr (pe_call Oneed_web (hr.mono (by decide)) rfl mneed_web kneed_web bneed_web .nil pass0 (pa_cons (pv 0) pa_nil)))
  (pss_cons (ps_expr (pe_call Oneed_place (hr.mono (by decide)) rfl mneed_place kneed_place bneed_place .nil pass0 (pa_cons (pv 0) (pa_cons (pv 1) pa_nil))))
  (pss_cons (ps_expr (pe_call Oneed_place (hr.mono (by decide)) rfl mneed_place kneed_place bneed_place .nil pass0 (pa_cons (pv 0) (pa_cons (pv 2) pa_nil))))
  (pss_cons (ps_expr (pe_call O_need_without (hr.mono (by decide)) rfl m_need_without k_need_without b_need_without .nil pass0 (pa_cons (pv 0) (pa_cons (pv 3) pa_nil))))
  (pss_cons (ps_set (i := 4) scway.nd rfl (by first | exact Or.inl rfl | exact Or.inr rfl) (pe_meth0 (pv 0) WK.cl tWeb_ties OWeb_ties (hr.mono (by decide)) bWeb_ties .nil pass0))
  (pss_cons (ps_set (i := 5) scway.nd rfl (by first | exact Or.inl rfl | exact Or.inr rfl) pe_dnewK)
  (pss_cons (ps_set (i := 6) scway.nd rfl (by first | exact Or.inl rfl | exact Or.inr rfl) (pe_lst (pa_cons (pv 1) pa_nil)))
  (pss_cons (ps_set (i := 7) scway.nd rfl (by first | exact Or.inl rfl | exact Or.inr rfl) pe_int)
  (pss_cons (ps_while PassesOwn.never (PW.pt (pw_and (pt_cmpR op_lt (pv 7) (pe_callB call_len_seq (by rfl) B.len (by decide +kernel) (pa_cons (pv 6) pa_nil)) (nomark _)) (pw_and1 (pt_cmp (pc_dnotin (hu_of hr) (pv 2) (pv 5))))))
    (pss_cons (ps_set (i := 8) scway.nd rfl (by first | exact Or.inl rfl | exact Or.inr rfl) (pe_ix ix_list (pv 6) (pv 7) (fun _ _ => rfl)))
  (pss_cons (ps_aug (i := 7) scway.nd rfl (by first | exact Or.inl rfl | exact Or.inr rfl) pe_int ip_add)
  (pss_one (ps_for PassesOwn.never rfl (pi_list (pe_meth (pv 0) WK.cl tWeb_ties_from OWeb_ties_from (hr.mono (by decide)) bWeb_ties_from .nil pass0 (pa_cons (pv 8) pa_nil))) (pg_name (i := 9) scway.nd rfl (by first | exact Or.inl rfl | exact Or.inr rfl))
    (pss_cons (ps_set (i := 10) scway.nd rfl (by first | exact Or.inl rfl | exact Or.inr rfl) (pe_ix ix_tup (pe_ix ix_list (pv 4) (pv 9) (fun _ _ => rfl)) pe_int (fun _ _ => rfl)))
  (pss_one (ps_if (PW.pt (pw_and (pt_cmpR op_notIn_seq (pv 9) (pv 3) (by rfl)) (pw_and1 (pt_cmp (pc_dnotin (hu_of hr) (pv 10) (pv 5))))))
    (pss_cons (ps_dput (hu_of hr) (pv 5) (pv 10) (pv 9) rfl)
  (pss_one (ps_expr (pe_bm PySem.F.plainAttrs_list PySem.F.slot_list_append PySem.F.type_list_append mt_append (pv 6) (pa_cons (pv 10) pa_nil))))) pss_nil))))))))
  (pss_one (ps_ret (pe_ifExp (pt_cmp (pc_din (hu_of hr) (pv 2) (pv 5))) (pe_call O_walk_back (hr.mono (by decide)) rfl m_walk_back k_walk_back b_walk_back .nil pass0 (pa_cons (pv 4) (pa_cons (pv 5) (pa_cons (pv 1) (pa_cons (pv 2) pa_nil))))) pe_non)))))))))))), ?_⟩
  have hN := ho.n1
  have hm := ho.m
  refine ⟨_, rfl, a, N, ts, rfl, hw, _, rfl, _, rfl, a, N, ts, near, rfl, hw, hn, _, rfl, _, rfl, a, N, ts, far, rfl, hw, hfar, _, rfl, _, rfl, a, N, ts, s, W, rfl, hw, hs, hW, fun H1 hS1 => ?_⟩
  obtain ⟨dx, tl0, fl, ol, h1, _⟩ := id (hw.same hS1)
  refine ⟨_, rfl, a, dx, _, rfl, h1, wf_no _ _ _ _ (by decide +kernel) (by decide +kernel) (by decide +kernel) (by decide +kernel), a, N, ts, rfl, hw.same hS1, fun H2 tl ntl hS2 ht2 => ?_⟩
  have hS02 := hS1.trans hS2
  intro d nd
  refine ⟨_, rfl, (by show 1 ≤ sizeLine; decide), fun ll nll => ?_⟩
  have ndl : ll ≠ d := fun z => by rw [z, upd_same] at nll; cases nll
  have nll2 : H2 ll = none := by rw [upd_ne ndl] at nll; exact nll
  have hw2 := (hw.same hS1).same hS2
  have hs2 := (hs.same hS1).same hS2
  let Pv : Nat → L2.St → Hp → Prop := fun m σ H' => ∃ (v8 v9 v10 : Option V) (n : Nat) (L T ds : List Nat), σ = [some (.ref a), some (.int (near : Int)), some (.int (far : Int)), some (.ref s), some (.ref tl), some (.ref d), some (.ref ll), some (.int (n : Int)), v8, v9, v10] ∧ Same H2 H' ∧ H' d = some (.dK (dP (zT L T))) ∧ H' ll = some (.lst (iv L)) ∧ Bfs ts W near L T ds ∧ Done ts W n L ds ∧ (∀ x ∈ L, x < N) ∧ n + m = 100 ∧
    (∀ j, L[j + 1]? = some far → ∃ D, ds[j + 1]? = some D ∧ Few (Edge ts W) near far D)
  refine ⟨Pv, ⟨100, none, none, none, 0, [near], [], [0], rfl, same_upd (same_new nd _) nll2, by rw [upd_ne ndl.symm]; exact upd_same, upd_same, (bfs_start ts W near).1, (bfs_start ts W near).2, fun x hx => by rw [List.mem_singleton.mp hx]; exact hn, rfl, fun j h => by simp at h⟩, ?_⟩
  rintro m σ H3 ⟨v8, v9, v10, n, L, T, ds, rfl, hS3, hd3, hl3, hB, hD, hlt, hnm, hfew⟩
  have hLl := bfs_len hB hlt
  have l1 := hB.l1
  refine ⟨_, rfl, _, rfl, ll, _, rfl, .inl (SqL.of hl3), _, _, rfl, rfl, _, rfl, ?_⟩
  by_cases c2 : far ∈ L.drop 1
  · obtain ⟨j, hj⟩ := get_drop.mp c2
    obtain ⟨D1, hD1, hF1⟩ := hfew j hj
    have hD1le := ds_le hB _ _ hD1
    have hjl := (List.getElem?_eq_some_iff.mp hj).1
    have hin : far ∈ (zT L T).map Prod.fst := by rw [zT_fst l1]; exact c2
    by_cases c1 : n < L.length
    case' pos =>
      refine iteYes (by rw [List.length_map]; omega) ⟨_, rfl, _, rfl, d, _, rfl, DGet.k (k := Sum.inl (far : Int)) hd3, _, rfl, ?_⟩
      rw [dP_isSome]
      refine iteNot' hin ?_
    case' neg => refine iteNo (by rw [List.length_map]; omega) (iteF ?_)
    all_goals
      refine ⟨_, rfl, _, rfl, d, _, rfl, DGet.k (k := Sum.inl (far : Int)) hd3, _, rfl, ?_⟩
      rw [dP_isSome]
      refine iteYes hin ⟨_, rfl, _, rfl, _, rfl, _, rfl, tl, d, near, far, ts, W, L, T, ds, j, D1, rfl, ht2.same hS3, hd3, hB, hj, hD1, by omega, fun H4 l p nl hS4 hl hP hlen => q1 H4 l p (hS02.free (hS3.free nl)) (fun b o e => hS4 _ _ (hS3 _ _ (hS02 _ _ e))) hl hP (by rw [hlen]; exact hF1) (by omega)⟩
  by_cases c1 : n < L.length
  · refine iteYes (by rw [List.length_map]; omega) ⟨_, rfl, _, rfl, d, _, rfl, DGet.k (k := Sum.inl (far : Int)) hd3, _, rfl, ?_⟩
    have hin : far ∉ (zT L T).map Prod.fst := by rw [zT_fst l1]; exact c2
    rw [dP_isSome]
    refine iteNot hin ⟨fun σ' H' => ∃ m', m' < m ∧ Pv m' σ' H', fun σ' H' h => h, ?_⟩
    obtain ⟨here, eh⟩ : ∃ x, L[n]? = some x := ⟨L[n], List.getElem?_eq_getElem _⟩
    obtain ⟨x0, ex0⟩ : ∃ x, ds[n]? = some x := ⟨ds[n]'(by rw [hB.l2]; exact c1), List.getElem?_eq_getElem _⟩
    have hhere := hlt _ (List.mem_of_getElem? eh)
    refine ⟨_, rfl, _, rfl, _, _, _, .int (here : Int), rfl, rfl, SqL.of hl3, iv_at eh, ?_⟩
    refine ⟨_, rfl, _, _, rfl, rfl, ?_⟩
    have hw3 := hw2.same hS3
    obtain ⟨dx, tl0, fl, ol, h1, _⟩ := id hw3
    refine ⟨_, rfl, a, dx, _, rfl, h1, wf_no _ _ _ _ (by decide +kernel) (by decide +kernel) (by decide +kernel) (by decide +kernel), _, rfl, a, N, ts, here, rfl, hw3, hhere, fun H4 fr nfr hS4 hfr => ?_⟩
    have nfd : fr ≠ d := fun z => by rw [z, hd3] at nfr; cases nfr
    have nfl : fr ≠ ll := fun z => by rw [z, hl3] at nfr; cases nfr
    refine ⟨fr, rfl, ⟨_, SqL.of hfr⟩, ?_⟩
    refine for_list (K := K) (a := fr) (xs := iv (frm ts here)) (fun k σ H' => ∃ (v9 v10 : Option V) (L' T' ds' : List Nat), σ = [some (.ref a), some (.int (near : Int)), some (.int (far : Int)), some (.ref s), some (.ref tl), some (.ref d), some (.ref ll), some (.int ((n + 1 : Nat) : Int)), some (.int (here : Int)), v9, v10] ∧ Same H2 H' ∧ H' d = some (.dK (dP (zT L' T'))) ∧ H' ll = some (.lst (iv L')) ∧ H' fr = some (.lst (iv (frm ts here))) ∧
      Mid ts W near n here (fun v => ∃ i ∈ (frm ts here).take k, ts[i]? = some (here, v) ∧ i ∉ W) L' T' ds' ∧ (∀ x ∈ L', x < N) ∧ ds'[n]? = ds[n]?) ?_ ?_ ?_ ?_
    · exact ⟨v9, v10, L, T, ds, rfl, fun b o e => hS4 _ _ (hS3 _ _ e), hS4 _ _ hd3, hS4 _ _ hl3, hfr, mid_old (mid_start hB hD eh) (fun w hw => by obtain ⟨i, hi, _⟩ := hw; simp at hi), hlt, rfl⟩
    · rintro k σ H' hk ⟨_, _, _, _, _, rfl, _, _, _, hfr', _⟩
      exact SqL.of hfr'
    · rintro k y σ H5 hy ⟨w9, w10, L', T', ds', rfl, hS5, hd5, hl5, hfr5, hM, hlt', hds⟩
      rw [List.getElem?_map] at hy
      obtain ⟨t, et, rfl⟩ : ∃ t, (frm ts here)[k]? = some t ∧ y = V.int (t : Int) := by
        cases e : (frm ts here)[k]? with
        | none => rw [e] at hy; cases hy
        | some v => rw [e] at hy; exact ⟨v, rfl, (Option.some.inj hy).symm⟩
      obtain ⟨v, hv⟩ := frm_mem.mp (List.mem_of_getElem? et)
      have hvN : v < N := (ho.ok _ (List.mem_of_getElem? hv)).2
      have htk : (frm ts here).take (k + 1) = (frm ts here).take k ++ [t] := by rw [List.take_succ, et]; rfl
      have split : ∀ w : Nat, (∃ i ∈ (frm ts here).take (k + 1), ts[i]? = some (here, w) ∧ i ∉ W) → (∃ i ∈ (frm ts here).take k, ts[i]? = some (here, w) ∧ i ∉ W) ∨ (w = v ∧ t ∉ W) := by
        rintro w ⟨i, hi, e1, e2⟩
        rw [htk] at hi
        rcases List.mem_append.mp hi with h | h
        · exact .inl ⟨i, h, e1, e2⟩
        · rw [List.mem_singleton.mp h] at e1 e2
          rw [hv] at e1
          have := Option.some.inj e1
          exact .inr ⟨(congrArg Prod.snd this).symm, e2⟩
      obtain ⟨tas, tp, g1, g2, g3⟩ := ties_at (K := K) (ht2.same hS5) hv
      have l1' := hM.b.l1
      refine ⟨_, rfl, _, rfl, _, _, _, _, rfl, rfl, g1, g2, _, _, _, .int (v : Int), rfl, rfl, g3, rfl, ?_⟩
      refine ⟨_, rfl, _, rfl, s, _, rfl, (hs2.same hS5).seq, rfl, flat_iv _, _, rfl, ?_⟩
      rw [inV_iv]
      by_cases cW : t ∈ W
      · refine iteNot' cW (iteF ⟨_, _, L', T', ds', rfl, hS5, hd5, hl5, hfr5, mid_old hM (fun w hw => ?_), hlt', hds⟩)
        rcases split w hw with h | h
        · exact .inl h
        · exact absurd cW h.2
      refine iteNot cW ⟨_, rfl, _, rfl, d, _, rfl, DGet.k (k := Sum.inl (v : Int)) hd5, _, rfl, ?_⟩
      rw [dP_isSome]
      by_cases cv : v ∈ L'.drop 1
      · refine iteNot' (by rw [zT_fst l1']; exact cv) ⟨_, _, L', T', ds', rfl, hS5, hd5, hl5, hfr5, mid_old hM (fun w hw => ?_), hlt', hds⟩
        rcases split w hw with h | h
        · exact .inl h
        · rw [h.1]; exact .inr cv
      have cv2 : v ∉ (zT L' T').map Prod.fst := by rw [zT_fst l1']; exact cv
      refine iteNot cv2 ?_
      have hLl' := bfs_len hM.b hlt'
      refine ⟨_, rfl, _, rfl, _, rfl, d, _, rfl, DPut.k (k := Sum.inl (v : Int)) hd5 (by rw [dP_len, zT_len l1']; exact Nat.lt_of_le_of_lt (by omega : T'.length ≤ 100) (by decide)), ?_⟩
      rw [dP_new _ cv2, ← zT_snoc l1']
      have hl6 : upd H5 d (.dK (dP (zT (L' ++ [v]) (T' ++ [t])))) ll = some (.lst (iv L')) := by rw [upd_ne ndl]; exact hl5
      refine ⟨_, rfl, .inl ⟨rfl, _, SqL.of hl6⟩, _, rfl, ll, _, _, rfl, rfl, hl6, by rw [List.length_map]; exact Nat.lt_of_le_of_lt (by omega : L'.length ≤ 100) (by decide), ?_⟩
      have hx5 : ds'[n]? = some x0 := by rw [hds]; exact ex0
      refine ⟨_, _, L' ++ [v], T' ++ [t], ds' ++ [x0 + 1], rfl, same_upd (same_upd hS5 nd) nll2, ?_, ?_, ?_, mid_new hM hv cW cv hx5 (fun w hw => ?_), fun x hx => ?_, ?_⟩
      · rw [upd_ne ndl.symm, upd_same]
      · rw [upd_same, iv_app]
      · rw [upd_ne nfl, upd_ne nfd]
        exact hfr5
      · rcases split w hw with h | h
        · exact .inl h
        · exact .inr h.1
      · rcases List.mem_append.mp hx with h | h
        · exact hlt' x h
        · rw [List.mem_singleton.mp h]; exact hvN
      · rw [get_snoc _ hx5, ex0]
    · rintro σ H5 ⟨w9, w10, L', T', ds', rfl, hS5, hd5, hl5, hfr5, hM, hlt', hds⟩
      have hfin := mid_done hM (fun v he => by
        obtain ⟨i, e1, e2⟩ := he
        refine ⟨i, ?_, e1, e2⟩
        rw [List.length_map, List.take_length]
        exact frm_mem.mpr ⟨v, e1⟩)
      refine ⟨m - 1, by omega, _, _, _, n + 1, L', T', ds', rfl, hS5, hd5, hl5, hfin.1, hfin.2, hlt', by omega, fun j hj => ?_⟩
      have hl := (List.getElem?_eq_some_iff.mp hj).1
      have e2 : ds'[j + 1]? = some (ds'[j + 1]'(by rw [hM.b.l2]; exact hl)) := List.getElem?_eq_getElem _
      exact ⟨_, e2, bfs_few hB hD c1 c2 hM hds.symm hj e2⟩
  · refine iteNo (by rw [List.length_map]; omega) (iteF ?_)
    refine ⟨_, rfl, _, rfl, d, _, rfl, DGet.k (k := Sum.inl (far : Int)) hd3, _, rfl, ?_⟩
    rw [dP_isSome]
    exact iteNo (by rw [zT_fst l1]; exact c2) (q2 _ (fun b o e => hS3 _ _ (hS02 _ _ e)) (bfs_none hB hD c1 c2))
end
end My
namespace My
open PySem L2 PyProof.Rows
def PotOk (x y : Int) : Prop := 0 ≤ x ∧ 0 ≤ y ∧ y < 2147483648
def PotAt (H : Hp) (a : Addr) : Prop := ∃ x y : Int, H a = some (.lst [.int x, .int y]) ∧ PotOk x y
theorem PotAt.new {H : Hp} {a p : Addr} {o : HO} (h : PotAt H a) (np : H p = none) : PotAt (upd H p o) a := by
  obtain ⟨x, y, e, h⟩ := h
  exact ⟨x, y, by rw [upd_ne (ne_of_none e np)]; exact e, h⟩
theorem PotAt.put {H : Hp} {a p : Addr} {o : HO} (h : PotAt H a) (np : p ≠ a) : PotAt (upd H p o) a := by
  obtain ⟨x, y, e, h⟩ := h
  exact ⟨x, y, by rw [upd_ne np.symm]; exact e, h⟩
theorem PotAt.same {H H' : Hp} {a : Addr} (h : PotAt H a) (s : Same H H') : PotAt H' a := by
  obtain ⟨x, y, e, h⟩ := h
  exact ⟨x, y, s _ _ e, h⟩
theorem PotAt.ne {H : Hp} {a p : Addr} (h : PotAt H a) (np : H p = none) : p ≠ a := by
  obtain ⟨x, y, e, h⟩ := h
  exact (ne_of_none e np).symm
theorem PotAt.ntup {H : Hp} {a p : Addr} {xs : List V} (h : PotAt H a) (hp : H p = some (.tup xs)) : p ≠ a := by
  obtain ⟨x, y, e, h⟩ := h
  exact ne_of hp e (by intro q; cases q)
theorem Kept.new {H H' : Hp} {a p : Addr} {o : HO} (h : Kept a H H') (np : H' p = none) : Kept a H (upd H' p o) := h.trans (Same.kept (same_new np o))
theorem Kept.put {H H' : Hp} {a p : Addr} {o : HO} (h : Kept a H H') (np : H p = none) : Kept a H (upd H' p o) := fun b u e n => by
  rw [upd_ne (ne_of_none e np)]
  exact h b u e n
theorem TiesAt.kept {H H' : Hp} {a t : Addr} {ts : List (Nat × Nat)} (h : TiesAt H t ts) (k : Kept a H H') (hp : PotAt H a) (hn : t ≠ a) : TiesAt H' t ts := by
  obtain ⟨tas, h1, h2⟩ := h
  exact ⟨tas, k _ _ h1 hn, paired_mono (fun p e hq => k _ _ hq (hp.ntup hq)) h2⟩
theorem paired_app {α β : Type} {F : α → β → Prop} {a : α} {b : β} : ∀ {l1 : List α} {l2 : List β}, Paired F l1 l2 → F a b → Paired F (l1 ++ [a]) (l2 ++ [b])
  | _, _, .nil, h => .cons h .nil
  | _, _, .cons r t, h => .cons r (paired_app t h)
theorem paired_apps {α β : Type} {F : α → β → Prop} : ∀ {l1 m1 : List α} {l2 m2 : List β}, Paired F l1 l2 → Paired F m1 m2 → Paired F (l1 ++ m1) (l2 ++ m2)
  | _, _, _, _, .nil, h => h
  | _, _, _, _, .cons r t, h => .cons r (paired_apps t h)
theorem paired_rev {α β : Type} {F : α → β → Prop} : ∀ {l1 : List α} {l2 : List β}, Paired F l1 l2 → Paired F l1.reverse l2.reverse
  | _, _, .nil => .nil
  | _, _, .cons r t => by
    rw [List.reverse_cons, List.reverse_cons]
    exact paired_app (paired_rev t) r
theorem TiesAt.push {H : Hp} {p tp : Addr} {ts : List (Nat × Nat)} {u v : Nat} (h : TiesAt H p ts) (nt : H tp = none) :
    ∃ xs, (upd H tp (.tup [.int (u : Int), .int (v : Int)])) p = some (.lst xs) ∧ xs.length = ts.length ∧ TiesAt (upd (upd H tp (.tup [.int (u : Int), .int (v : Int)])) p (.lst (xs ++ [.ref tp]))) p (ts ++ [(u, v)]) := by
  obtain ⟨tas, h1, h2⟩ := h
  have npt : p ≠ tp := ne_of_none h1 nt
  refine ⟨tas.map V.ref, by rw [upd_ne npt]; exact h1, by rw [List.length_map]; exact paired_len h2, tas ++ [tp], by rw [upd_same, List.map_append]; rfl, paired_app (paired_mono (fun q e hq => ?_) h2) ?_⟩
  · have nqp : q ≠ p := ne_of hq h1 (by intro z; cases z)
    show upd _ _ _ q = _
    rw [upd_ne nqp, upd_ne (ne_of_none hq nt)]
    exact hq
  · show upd _ _ _ tp = _
    rw [upd_ne npt.symm, upd_same]
theorem TiesAt.pushV {H : Hp} {p tp : Addr} {ts : List (Nat × Nat)} {u v : Nat} {x y : V} (hx : x = .int (u : Int)) (hy : y = .int (v : Int)) (h : TiesAt H p ts) (nt : H tp = none) :
    ∃ xs, (upd H tp (.tup [x, y])) p = some (.lst xs) ∧ xs.length = ts.length ∧ TiesAt (upd (upd H tp (.tup [x, y])) p (.lst (xs ++ [.ref tp]))) p (ts ++ [(u, v)]) := by
  subst hx hy
  exact h.push nt
theorem TiesAt.nil {H : Hp} {p : Addr} : TiesAt (upd H p (.lst [])) p [] := ⟨[], upd_same, .nil⟩
theorem TiesAt.cat {H : Hp} {l m p : Addr} {ts us : List (Nat × Nat)} (h : TiesAt H l ts) (k : TiesAt H m us) (np : H p = none) : ∃ xs zs, H l = some (.lst xs) ∧ H m = some (.lst zs) ∧ xs.length = ts.length ∧ zs.length = us.length ∧ TiesAt (upd H p (.lst (xs ++ zs))) p (ts ++ us) := by
  obtain ⟨tas, h1, h2⟩ := h
  obtain ⟨uas, k1, k2⟩ := k
  refine ⟨_, _, h1, k1, by rw [List.length_map]; exact paired_len h2, by rw [List.length_map]; exact paired_len k2, tas ++ uas, by rw [upd_same, List.map_append], paired_mono (fun q e hq => ?_) (paired_apps h2 k2)⟩
  exact same_new np _ _ _ hq
theorem TiesAt.get {H : Hp} {l : Addr} {ts : List (Nat × Nat)} (h : TiesAt H l ts) : ∃ xs, H l = some (.lst xs) ∧ xs.length = ts.length := by
  obtain ⟨tas, h1, h2⟩ := h
  exact ⟨_, h1, by rw [List.length_map]; exact paired_len h2⟩
section
variable {P : Program} {w : World} {K : PySem.W.Frag} {mg : Str → Option Value} {base : Heap} {C : Addr}
def sp_law_pot (K : PySem.W.Frag) (_ : Addr) : Sp := fun vs H Q _ => ∃ a, ∃ ns : List Int, vs = [.ref a, .int 0] ∧ SqL K H a (ns.map V.int) ∧ ∀ p H', PotAt H' p → Same H H' → H p = none → Q (.ref p) H'
theorem ok_law_pot (D : Def K mg "_law_pot" s_law_pot ["_law_script", "_law_k"]) (B : Bs mg) (Glb : Glo mg) (WK : WebK K mg C) :
    Good P w K mg base "_law_pot" s_law_pot ["_law_script", "_law_k"] 1 (sp_law_pot K C) := by
  refine D.good fun f fd F => ?_
  refine F.ok sc_law_pot (fun vs H Q E h => ?_) (fun cdv A outer s H vs Q E hr h => ?_)
  · obtain ⟨a, ns, rfl, hS, q⟩ := h
    first | rfl | (rcases h with ⟨_, _, rfl, _⟩ | ⟨_, rfl, _⟩ <;> rfl)
  obtain ⟨a, ns, rfl, hS, q⟩ := h
  refine ⟨_, (pss_cons (ps_set (i := 2) sc_law_pot.nd rfl (by first | exact Or.inl rfl | exact Or.inr rfl) (pe_ifExp (pt_cmpR op_lt (pv 1) (pe_callB call_len_seq (by rfl) B.len (by decide +kernel) (pa_cons (pv 0) pa_nil)) (nomark _)) (pe_callB call_abs (by rfl) B.abs (by decide +kernel) (pa_cons (pe_ix ix_list (pv 0) (pv 1) (fun _ _ => rfl)) pa_nil)) (pe_op op_add (pe_op op_mul pe_int (pv 1)) pe_int)))
  (pss_cons (ps_set (i := 3) sc_law_pot.nd rfl (by first | exact Or.inl rfl | exact Or.inr rfl) (pe_op op_add (pe_op op_mod (pe_callTy call_int1 (by rfl) B.int (by decide +kernel) (pa_cons (pe_op op_add (pe_op op_add (pe_op op_mul (pe_op op_mod (pe_callTy call_int1 (by rfl) B.int (by decide +kernel) (pa_cons (pv 2) pa_nil)) pe_int) pe_int) (pe_op op_mul pe_int (pv 1))) pe_int) pa_nil)) pe_int) pe_int))
  (pss_one (ps_ret (pe_lst (pa_cons (pe_callB (call_max2 rfl) (by rfl) B.max (by decide +kernel) (pa_cons pe_int (pa_cons (pe_op op_sub (pv 2) (pe_op op_pow pe_int pe_int)) pa_nil))) (pa_cons (pv 3) pa_nil))))))), ?_⟩
  refine ⟨_, rfl, _, rfl, _, _, rfl, .inl hS, _, _, rfl, rfl, _, rfl, ?_⟩
  refine ite2 (fun c1 => ?pos) (fun c1 => ?neg)
  case' pos =>
    obtain ⟨n, rest, rfl⟩ : ∃ n rest, ns = n :: rest := by
      cases ns with
      | nil => exact absurd (of_decide_eq_true c1) (by decide)
      | cons n rest => exact ⟨n, rest, rfl⟩
    refine ⟨_, rfl, _, rfl, _, _, _, .int n, rfl, rfl, hS, atI_nat (j := 0) rfl, _, rfl, ?_⟩
    have hz0 : (0 : Int) ≤ (if n < 0 then -n else n) := by split <;> omega
  case' neg =>
    refine ⟨_, rfl, _, _, rfl, rfl, .inl ⟨by decide, by decide⟩, _, _, rfl, rfl, ?_⟩
    have hz0 : (0 : Int) ≤ (919 * 0 + 577) := by decide
  all_goals
    refine ⟨_, rfl, .inl ⟨_, rfl, _, _, rfl, rfl, (by show (0 : Int) < 2147483549; decide), _, _, rfl, rfl, .inl ⟨?_, ?_⟩, _, rfl, _, _, rfl, rfl, .inl ⟨by decide, by decide⟩, _, _, rfl, rfl, _, _, rfl, rfl, .inl ⟨_, rfl, _, _, rfl, rfl, (by show (0 : Int) < 2147483563; decide), _, _, rfl, rfl, ?_⟩⟩⟩
    · omega
    · omega
    refine ⟨_, rfl, _, _, rfl, rfl, ⟨by decide, by decide, by decide⟩, _, _, rfl, rfl, _, _, rfl, _, rfl, (by show 2 ≤ sizeLine; decide), fun p np => q p _ ⟨_, _, upd_same, ?_, ?_, ?_⟩ (same_new np _) np⟩
    · split <;> omega
    · omega
    · omega
def sp_law_draw (_ : PySem.W.Frag) (_ : Addr) : Sp := fun vs H Q _ => ∃ a n, vs = [.ref a, .int ((n : Nat) : Int)] ∧ PotAt H a ∧ 0 < n ∧ n ≤ 1000 ∧ ∀ (d : Nat) H', d < n → Kept a H H' → PotAt H' a → Q (.int (d : Int)) H'
theorem ok_law_draw (D : Def K mg "_law_draw" s_law_draw ["_law_pot_here", "_law_many"]) (B : Bs mg) (Glb : Glo mg) (WK : WebK K mg C) :
    Good P w K mg base "_law_draw" s_law_draw ["_law_pot_here", "_law_many"] 1 (sp_law_draw K C) := by
  refine D.good fun f fd F => ?_
  refine F.ok sc_law_draw (fun vs H Q E h => ?_) (fun cdv A outer s H vs Q E hr h => ?_)
  · obtain ⟨a, n, rfl, ⟨x, y, ha, hx, hy, hy2⟩, hn, hn2, q⟩ := h
    first | rfl | (rcases h with ⟨_, _, rfl, _⟩ | ⟨_, rfl, _⟩ <;> rfl)
  obtain ⟨a, n, rfl, ⟨x, y, ha, hx, hy, hy2⟩, hn, hn2, q⟩ := h
  refine ⟨_, (pss_cons (ps_if (pt_cmpR op_gt (pe_ix ix_list (pv 0) pe_int (fun _ _ => rfl)) pe_int (nomark _))
    (pss_cons (ps_asg (pe_callB call_divmod (by rfl) B.divmod (by decide +kernel) (pa_cons (pe_ix ix_list (pv 0) pe_int (fun _ _ => rfl)) (pa_cons (pv 1) pa_nil))) (pg_tup rfl (pgs_cons (pg_sub (pv 0) pe_int set_list) (pgs_cons (pg_name (i := 2) sc_law_draw.nd rfl (by first | exact Or.inl rfl | exact Or.inr rfl)) pgs_nil))))
  (pss_one (ps_ret (pv 2)))) pss_nil)
  (pss_cons (ps_asg (pe_op op_mod (pe_callTy call_int1 (by rfl) B.int (by decide +kernel) (pa_cons (pe_op op_mul (pe_ix ix_list (pv 0) pe_int (fun _ _ => rfl)) pe_int) pa_nil)) pe_int) (pg_sub (pv 0) pe_int set_list))
  (pss_one (ps_ret (pe_op op_mod (pe_callTy call_int1 (by rfl) B.int (by decide +kernel) (pa_cons (pe_op op_fdiv (pe_ix ix_list (pv 0) pe_int (fun _ _ => rfl)) pe_int) pa_nil)) (pv 1)))))), ?_⟩
  refine ⟨_, rfl, _, _, _, .int x, rfl, rfl, SqL.of ha, rfl, _, _, rfl, rfl, _, rfl, ?_⟩
  refine ite2 (fun c1 => ?_) (fun c1 => ?_)
  · have hpos : (0 : Int) < x := of_decide_eq_true c1
    refine ⟨_, rfl, _, _, _, .int x, rfl, rfl, SqL.of ha, rfl, _, rfl, _, _, rfl, ⟨by omega, by omega⟩, fun p np => ?_⟩
    have hpa : a ≠ p := ne_of_none ha np
    have ha' : (upd H p (.tup [.int (x / (n : Int)), .int (x % (n : Int))])) a = some (.lst [.int x, .int y]) := by
      rw [upd_ne hpa]
      exact ha
    have ed : (((x % (n : Int)).toNat : Nat) : Int) = x % (n : Int) := Int.toNat_of_nonneg (Int.emod_nonneg _ (by omega))
    have el := Int.emod_lt_of_pos x (show (0 : Int) < (n : Int) by omega)
    refine ⟨_, _, rfl, SqT.of upd_same, rfl, _, _, rfl, _, rfl, _, _, _, 0, rfl, rfl, ha', rfl, _, _, rfl, rfl, ?_⟩
    refine ⟨_, rfl, ?_⟩
    have := q (x % (n : Int)).toNat (upd (upd H p (.tup [.int (x / (n : Int)), .int (x % (n : Int))])) a (.lst [.int (x / (n : Int)), .int y])) (by omega) (fun b o e nb => by rw [upd_ne nb, upd_ne (ne_of_none e np)]; exact e)
      ⟨_, _, upd_same, Int.ediv_nonneg hx (by omega), hy, hy2⟩
    rw [ed] at this
    exact this
  · refine ⟨_, rfl, _, _, _, .int y, rfl, rfl, SqL.of ha, rfl, _, _, rfl, rfl, .inl ⟨by omega, by omega⟩, .inl ⟨_, rfl, _, _, rfl, rfl, (by show (0 : Int) < 2147483647; decide), _, rfl, _, _, _, 1, rfl, rfl, ha, rfl, ?_⟩⟩
    have hz0 : (0 : Int) ≤ (y * 16807) % 2147483647 := by omega
    have hz1 : (y * 16807) % 2147483647 < (2147483647 : Int) := by omega
    have fin : ∀ z : Int, 0 ≤ z → z < 2147483647 → Q (V.int (z / 13 % (n : Int))) (upd H a (.lst [.int x, .int z])) := fun z hz0 hz1 => by
      have ed : (((z / 13 % (n : Int)).toNat : Nat) : Int) = z / 13 % (n : Int) := Int.toNat_of_nonneg (Int.emod_nonneg _ (by omega))
      have el := Int.emod_lt_of_pos (z / 13) (show (0 : Int) < (n : Int) by omega)
      have := q (z / 13 % (n : Int)).toNat (upd H a (.lst [.int x, .int z])) (by omega) (fun b o e nb => by rw [upd_ne nb]; exact e) ⟨_, _, upd_same, hx, hz0, by omega⟩
      rw [ed] at this
      exact this
    refine ⟨_, rfl, _, _, _, .int ((y * 16807) % 2147483647), rfl, rfl, SqL.of upd_same, rfl, _, _, rfl, rfl, ⟨by decide, by decide⟩, .inl ⟨_, rfl, _, rfl, _, _, rfl, rfl, (by show (0 : Int) < (n : Int); omega), ?_⟩⟩
    exact fin _ hz0 hz1
def sp_law_ties (_ : PySem.W.Frag) (_ : Addr) : Sp := fun vs H Q _ => ∃ a N m, vs = [.ref a, .int ((N : Nat) : Int), .int ((m : Nat) : Int)] ∧ PotAt H a ∧ 0 < N ∧ N ≤ 1000 ∧ m ≤ 20 ∧ ∀ l ts H', ts.length ≤ m → (∀ e ∈ ts, e.1 < N ∧ e.2 < N) → Kept a H H' → PotAt H' a → H l = none → TiesAt H' l ts → Q (.ref l) H'
theorem ok_law_ties (D : Def K mg "_law_ties" s_law_ties ["_law_pot_here", "_law_places", "_law_most"]) (B : Bs mg) (Glb : Glo mg) (WK : WebK K mg C)
    (h_law_draw : Good P w K mg base "_law_draw" s_law_draw ["_law_pot_here", "_law_many"] 1 (sp_law_draw K C)) :
    Good P w K mg base "_law_ties" s_law_ties ["_law_pot_here", "_law_places", "_law_most"] 2 (sp_law_ties K C) := by
  refine D.good fun f fd F => ?_
  obtain ⟨f_law_draw, d_law_draw, O_law_draw, m_law_draw, k_law_draw, b_law_draw, F_law_draw⟩ := h_law_draw
  refine F.ok sc_law_ties (fun vs H Q E h => ?_) (fun cdv A outer s H vs Q E hr h => ?_)
  · obtain ⟨a, N, m, rfl, hp, hN, hN2, hm, q⟩ := h
    first | rfl | (rcases h with ⟨_, _, rfl, _⟩ | ⟨_, rfl, _⟩ <;> rfl)
  obtain ⟨a, N, m, rfl, hp, hN, hN2, hm, q⟩ := h
  refine ⟨_, (pss_cons (ps_set (i := 3) sc_law_ties.nd rfl (by first | exact Or.inl rfl | exact Or.inr rfl) (pe_lst pa_nil))
  (pss_cons (ps_for PassesOwn.never rfl (pi_range1 (by rfl) B.range (pa_cons (pe_call O_law_draw hr rfl m_law_draw k_law_draw b_law_draw .nil pass0 (pa_cons (pv 0) (pa_cons (pe_op op_add (pv 2) pe_int) pa_nil))) pa_nil)) (pg_name (i := 4) sc_law_ties.nd rfl (by first | exact Or.inl rfl | exact Or.inr rfl))
    (pss_one (ps_expr (pe_bm PySem.F.plainAttrs_list PySem.F.slot_list_append PySem.F.type_list_append mt_append (pv 3) (pa_cons (pe_tup (pa_cons (pe_call O_law_draw hr rfl m_law_draw k_law_draw b_law_draw .nil pass0 (pa_cons (pv 0) (pa_cons (pv 1) pa_nil))) (pa_cons (pe_call O_law_draw hr rfl m_law_draw k_law_draw b_law_draw .nil pass0 (pa_cons (pv 0) (pa_cons (pv 1) pa_nil))) pa_nil))) pa_nil)))))
  (pss_one (ps_ret (pv 3))))), ?_⟩
  refine ⟨Nat.zero_le _, fun l nl => ?_⟩
  refine ⟨_, rfl, _, rfl, _, _, rfl, rfl, a, m + 1, rfl, hp.new nl, by omega, by omega, fun d H1 hd hk1 hp1 => ⟨_, rfl, by omega, by omega, ?_⟩⟩
  have hla : l ≠ a := hp.ne nl
  refine for_range (lo := 0) (n := d) (fun i σ H' => ∃ (v : Option V) (ts : List (Nat × Nat)), σ = [some (.ref a), some (.int (N : Int)), some (.int (m : Int)), some (.ref l), v] ∧ ts.length = i ∧ (∀ e ∈ ts, e.1 < N ∧ e.2 < N) ∧ Kept a H H' ∧ PotAt H' a ∧ TiesAt H' l ts) ?_ ?_ ?_
  · exact ⟨none, [], rfl, rfl, by simp, (Same.kept (same_new nl _)).trans hk1, hp1, TiesAt.nil.kept hk1 (hp.new nl) hla⟩
  · rintro i σ H2 hi ⟨v, ts, rfl, hlen, hts, hk, hpp, hT⟩
    refine ⟨_, rfl, ?_⟩
    obtain ⟨xs0, hxs0, _⟩ := hT.get
    refine ⟨.inl ⟨rfl, _, SqL.of hxs0⟩, _, rfl, _, rfl, a, N, rfl, hpp, hN, hN2, fun u H3 hu hk3 hp3 => ⟨_, rfl, _, rfl, a, N, rfl, hp3, hN, hN2, fun x H4 hx hk4 hp4 => ⟨(by show 2 ≤ sizeLine; decide), fun tp ntp => ?_⟩⟩⟩
    have hT4 := (hT.kept hk3 hpp hla).kept hk4 hp3 hla
    obtain ⟨xs, g1, g2, g3⟩ := hT4.push (u := u) (v := x) ntp
    refine ⟨l, _, _, rfl, rfl, g1, by rw [g2, hlen]; exact Nat.lt_of_le_of_lt (by omega : i ≤ 100) (by decide), ?_⟩
    refine ⟨_, ts ++ [(u, x)], rfl, by rw [List.length_append, hlen]; rfl, fun e he => ?_, (((hk.trans hk3).trans hk4).new ntp).put nl, (hp4.new ntp).put hla, g3⟩
    rcases List.mem_append.mp he with h | h
    · exact hts e h
    · rw [List.mem_singleton.mp h]; exact ⟨hu, hx⟩
  · rintro σ H2 ⟨v, ts, rfl, hlen, hts, hk, hpp, hT⟩
    exact ⟨_, rfl, q l ts H2 (by omega) hts hk hpp nl hT⟩
def sp_law_ring (_ : PySem.W.Frag) (_ : Addr) : Sp := fun vs H Q _ => ∃ f m, vs = [.int ((f : Nat) : Int), .int ((m : Nat) : Int)] ∧ 0 < m ∧ m ≤ 20 ∧ ∀ l ts H', ts.length = m → (∀ e ∈ ts, e.1 < f + m ∧ e.2 < f + m) → Same H H' → H l = none → TiesAt H' l ts → Q (.ref l) H'
theorem ok_law_ring (D : Def K mg "_law_ring" s_law_ring ["_law_first", "_law_many"]) (B : Bs mg) (Glb : Glo mg) (WK : WebK K mg C) :
    Good P w K mg base "_law_ring" s_law_ring ["_law_first", "_law_many"] 1 (sp_law_ring K C) := by
  refine D.good fun f fd F => ?_
  refine F.ok sc_law_ring (fun vs H Q E h => ?_) (fun cdv A outer s H vs Q E hr h => ?_)
  · obtain ⟨f, m, rfl, hm, hm2, q⟩ := h
    first | rfl | (rcases h with ⟨_, _, rfl, _⟩ | ⟨_, rfl, _⟩ <;> rfl)
  obtain ⟨f, m, rfl, hm, hm2, q⟩ := h
  refine ⟨_, (pss_cons (ps_set (i := 2) sc_law_ring.nd rfl (by first | exact Or.inl rfl | exact Or.inr rfl) (pe_lst pa_nil))
  (pss_cons (ps_for PassesOwn.never rfl (pi_range1 (by rfl) B.range (pa_cons (pv 1) pa_nil)) (pg_name (i := 3) sc_law_ring.nd rfl (by first | exact Or.inl rfl | exact Or.inr rfl))
    (pss_one (ps_expr (pe_bm PySem.F.plainAttrs_list PySem.F.slot_list_append PySem.F.type_list_append mt_append (pv 2) (pa_cons (pe_tup (pa_cons (pe_op op_add (pv 0) (pv 3)) (pa_cons (pe_op op_add (pv 0) (pe_op op_mod (pe_op op_add (pv 3) pe_int) (pv 1))) pa_nil))) pa_nil)))))
  (pss_one (ps_ret (pv 2))))), ?_⟩
  refine ⟨Nat.zero_le _, fun l nl => ?_⟩
  refine ⟨_, rfl, _, rfl, by omega, by omega, ?_⟩
  refine for_range (lo := 0) (n := m) (fun i σ H' => ∃ (v : Option V) (ts : List (Nat × Nat)), σ = [some (.int (f : Int)), some (.int (m : Int)), some (.ref l), v] ∧ ts.length = i ∧ (∀ e ∈ ts, e.1 < f + m ∧ e.2 < f + m) ∧ Same H H' ∧ TiesAt H' l ts) ?_ ?_ ?_
  · exact ⟨none, [], rfl, rfl, by simp, same_new nl _, TiesAt.nil⟩
  · rintro i σ H2 hi ⟨v, ts, rfl, hlen, hts, hk, hT⟩
    obtain ⟨xs0, hxs0, _⟩ := hT.get
    have e1 : (f : Int) + (0 + (i : Int)) = ((f + i : Nat) : Int) := by omega
    have e2 : (f : Int) + ((0 + (i : Int)) + 1) % (m : Int) = ((f + (i + 1) % m : Nat) : Int) := by
      rw [show (0 : Int) + (i : Int) + 1 = ((i + 1 : Nat) : Int) by omega]
      rfl
    refine ⟨_, rfl, .inl ⟨rfl, _, SqL.of hxs0⟩, _, rfl, _, rfl, _, _, rfl, rfl, _, rfl, _, rfl, _, _, rfl, rfl, _, rfl, _, _, rfl, rfl, (by show (0 : Int) < (m : Int); omega), _, _, rfl, rfl, (by show 2 ≤ sizeLine; decide), fun tp ntp => ?_⟩
    obtain ⟨xs, g1, g2, g3⟩ := hT.pushV (congrArg V.int e1) (congrArg V.int e2) ntp
    refine ⟨l, _, _, rfl, rfl, g1, by rw [g2, hlen]; exact Nat.lt_of_le_of_lt (by omega : i ≤ 100) (by decide), ?_⟩
    refine ⟨_, ts ++ [(f + i, f + (i + 1) % m)], rfl, by rw [List.length_append, hlen]; rfl, fun e he => ?_, same_upd (fun b o z => same_new ntp _ _ _ (hk _ _ z)) nl, g3⟩
    rcases List.mem_append.mp he with h | h
    · exact hts e h
    · rw [List.mem_singleton.mp h]
      have := Nat.mod_lt (i + 1) hm
      exact ⟨by show f + i < f + m; omega, by show f + (i + 1) % m < f + m; omega⟩
  · rintro σ H2 ⟨v, ts, rfl, hlen, hts, hk, hT⟩
    exact ⟨_, rfl, q l ts H2 hlen hts hk nl hT⟩
end
end My
namespace My
open PySem L2 PyProof.Rows
theorem TiesAt.new {H : Hp} {l p : Addr} {ts : List (Nat × Nat)} {o : HO} (h : TiesAt H l ts) (np : H p = none) : TiesAt (upd H p o) l ts := h.same (same_new np o)
theorem TiesAt.rev {H : Hp} {l p : Addr} {ts : List (Nat × Nat)} (h : TiesAt H l ts) (np : H p = none) : ∃ xs, H l = some (.lst xs) ∧ TiesAt (upd H p (.lst xs.reverse)) p ts.reverse := by
  obtain ⟨tas, h1, h2⟩ := h
  refine ⟨_, h1, tas.reverse, by rw [upd_same, List.map_reverse], paired_mono (fun q e hq => same_new np _ _ _ hq) (paired_rev h2)⟩
theorem TiesAt.catOne {H : Hp} {l p : Addr} {ts : List (Nat × Nat)} {tp : Addr} {u v : Nat} (h : TiesAt H l ts) (ht : H tp = some (.tup [.int (u : Int), .int (v : Int)])) (np : H p = none) :
    ∃ xs, H l = some (.lst xs) ∧ xs.length = ts.length ∧ TiesAt (upd H p (.lst (xs ++ [.ref tp]))) p (ts ++ [(u, v)]) := by
  obtain ⟨tas, h1, h2⟩ := h
  refine ⟨_, h1, by rw [List.length_map]; exact paired_len h2, tas ++ [tp], by rw [upd_same, List.map_append]; rfl, paired_app (paired_mono (fun q e hq => same_new np _ _ _ hq) h2) (same_new np _ _ _ ht)⟩
theorem Kept.free {a p : Addr} {H H' : Hp} (h : Kept a H H') (hn : H' p = none) (np : p ≠ a) : H p = none := by
  cases e : H p with
  | none => rfl
  | some o =>
    have := h p o e np
    rw [hn] at this
    cases this
theorem ok_app {N : Nat} {ts us : List (Nat × Nat)} (h : ∀ e ∈ ts, e.1 < N ∧ e.2 < N) (k : ∀ e ∈ us, e.1 < N ∧ e.2 < N) : ∀ e ∈ ts ++ us, e.1 < N ∧ e.2 < N := fun e he => (List.mem_append.mp he).elim (h e) (k e)
theorem ok_one {N u v : Nat} (h1 : u < N) (h2 : v < N) : ∀ e ∈ [(u, v)], e.1 < N ∧ e.2 < N := fun e he => by rw [List.mem_singleton.mp he]; exact ⟨h1, h2⟩
theorem ok_up {N M : Nat} {ts : List (Nat × Nat)} (h : ∀ e ∈ ts, e.1 < N ∧ e.2 < N) (hm : N ≤ M) : ∀ e ∈ ts, e.1 < M ∧ e.2 < M := fun e he => ⟨Nat.lt_of_lt_of_le (h e he).1 hm, Nat.lt_of_lt_of_le (h e he).2 hm⟩
section
variable {P : Program} {w : World} {K : PySem.W.Frag} {mg : Str → Option Value} {base : Heap} {C : Addr}
def sp_law_made (_ : PySem.W.Frag) (_ : Addr) : Sp := fun vs H Q _ => ∃ a, vs = [.ref a] ∧ PotAt H a ∧ ∀ t l N ts H', Kept a H H' → PotAt H' a → H' t = some (.tup [.int ((N : Nat) : Int), .ref l]) → TiesAt H' l ts → OkWeb N ts → l ≠ a → Q (.ref t) H'
theorem ok_law_made (D : Def K mg "_law_made" s_law_made ["_law_pot_here"]) (B : Bs mg) (Glb : Glo mg) (WK : WebK K mg C)
    (h_law_draw : Good P w K mg base "_law_draw" s_law_draw ["_law_pot_here", "_law_many"] 1 (sp_law_draw K C))
    (h_law_ring : Good P w K mg base "_law_ring" s_law_ring ["_law_first", "_law_many"] 1 (sp_law_ring K C))
    (h_law_ties : Good P w K mg base "_law_ties" s_law_ties ["_law_pot_here", "_law_places", "_law_most"] 2 (sp_law_ties K C)) :
    Good P w K mg base "_law_made" s_law_made ["_law_pot_here"] 3 (sp_law_made K C) := by
  refine D.good fun f fd F => ?_
  obtain ⟨f_law_draw, d_law_draw, O_law_draw, m_law_draw, k_law_draw, b_law_draw, F_law_draw⟩ := h_law_draw
  obtain ⟨f_law_ring, d_law_ring, O_law_ring, m_law_ring, k_law_ring, b_law_ring, F_law_ring⟩ := h_law_ring
  obtain ⟨f_law_ties, d_law_ties, O_law_ties, m_law_ties, k_law_ties, b_law_ties, F_law_ties⟩ := h_law_ties
  refine F.ok sc_law_made (fun vs H Q E h => ?_) (fun cdv A outer s H vs Q E hr h => ?_)
  · obtain ⟨a, rfl, hp, q⟩ := h
    first | rfl | (rcases h with ⟨_, _, rfl, _⟩ | ⟨_, rfl, _⟩ <;> rfl)
  obtain ⟨a, rfl, hp, q⟩ := h
  refine ⟨_, (pss_cons (ps_set (i := 1) sc_law_made.nd rfl (by first | exact Or.inl rfl | exact Or.inr rfl) (pe_call O_law_draw (hr.mono (by decide)) rfl m_law_draw k_law_draw b_law_draw .nil pass0 (pa_cons (pv 0) (pa_cons pe_int pa_nil))))
  (pss_cons (ps_if (pt_cmpR op_lt (pv 1) pe_int (nomark _))
    (pss_cons (ps_set (i := 2) sc_law_made.nd rfl (by first | exact Or.inl rfl | exact Or.inr rfl) (pe_op op_add pe_int (pe_call O_law_draw (hr.mono (by decide)) rfl m_law_draw k_law_draw b_law_draw .nil pass0 (pa_cons (pv 0) (pa_cons pe_int pa_nil)))))
  (pss_one (ps_ret (pe_tup (pa_cons (pv 2) (pa_cons (pe_call O_law_ties hr rfl m_law_ties k_law_ties b_law_ties .nil pass0 (pa_cons (pv 0) (pa_cons (pv 2) (pa_cons pe_int pa_nil)))) pa_nil)))))) pss_nil)
  (pss_cons (ps_par (i := 3) (j := 4) (by rfl) sc_law_made.nd rfl rfl (by decide) rfl rfl (pa_cons (pe_op op_add pe_int (pe_call O_law_draw (hr.mono (by decide)) rfl m_law_draw k_law_draw b_law_draw .nil pass0 (pa_cons (pv 0) (pa_cons pe_int pa_nil)))) (pa_cons (pe_op op_add pe_int (pe_call O_law_draw (hr.mono (by decide)) rfl m_law_draw k_law_draw b_law_draw .nil pass0 (pa_cons (pv 0) (pa_cons pe_int pa_nil)))) pa_nil)) (by rfl))
  (pss_cons (ps_if (pt_cmpR op_eq (pv 1) pe_int (nomark _))
    (pss_one (ps_ret (pe_tup (pa_cons (pv 3) (pa_cons (pe_call O_law_ring (hr.mono (by decide)) rfl m_law_ring k_law_ring b_law_ring .nil pass0 (pa_cons pe_int (pa_cons (pv 3) pa_nil))) pa_nil))))) pss_nil)
  (pss_cons (ps_set (i := 5) sc_law_made.nd rfl (by first | exact Or.inl rfl | exact Or.inr rfl) (pe_op op_cat (pe_call O_law_ring (hr.mono (by decide)) rfl m_law_ring k_law_ring b_law_ring .nil pass0 (pa_cons pe_int (pa_cons (pv 3) pa_nil))) (pe_call O_law_ring (hr.mono (by decide)) rfl m_law_ring k_law_ring b_law_ring .nil pass0 (pa_cons (pv 3) (pa_cons (pv 4) pa_nil)))))
  (pss_cons (ps_if (pt_cmpR op_eq (pv 1) pe_int (nomark _))
    (pss_one (ps_ret (pe_tup (pa_cons (pe_op op_add (pv 3) (pv 4)) (pa_cons (pe_op op_cat (pv 5) (pe_call O_law_ties hr rfl m_law_ties k_law_ties b_law_ties .nil pass0 (pa_cons (pv 0) (pa_cons (pe_op op_add (pv 3) (pv 4)) (pa_cons pe_int pa_nil))))) pa_nil))))) pss_nil)
  (pss_cons (ps_set (i := 5) sc_law_made.nd rfl (by first | exact Or.inl rfl | exact Or.inr rfl) (pe_op op_cat (pv 5) (pe_lst (pa_cons (pe_tup (pa_cons (pe_call O_law_draw (hr.mono (by decide)) rfl m_law_draw k_law_draw b_law_draw .nil pass0 (pa_cons (pv 0) (pa_cons (pv 3) pa_nil))) (pa_cons (pe_op op_add (pv 3) (pe_call O_law_draw (hr.mono (by decide)) rfl m_law_draw k_law_draw b_law_draw .nil pass0 (pa_cons (pv 0) (pa_cons (pv 4) pa_nil)))) pa_nil))) pa_nil))))
  (pss_cons (ps_if (pt_cmpR op_eq (pv 1) pe_int (nomark _))
    (pss_one (ps_expr (pe_bm PySem.F.plainAttrs_list PySem.F.slot_list_append PySem.F.type_list_append mt_append (pv 5) (pa_cons (pe_tup (pa_cons (pe_op op_add (pv 3) (pe_call O_law_draw (hr.mono (by decide)) rfl m_law_draw k_law_draw b_law_draw .nil pass0 (pa_cons (pv 0) (pa_cons (pv 4) pa_nil)))) (pa_cons (pe_call O_law_draw (hr.mono (by decide)) rfl m_law_draw k_law_draw b_law_draw .nil pass0 (pa_cons (pv 0) (pa_cons (pv 3) pa_nil))) pa_nil))) pa_nil)))) pss_nil)
  (pss_one (ps_ret (pe_tup (pa_cons (pe_op op_add (pv 3) (pv 4)) (pa_cons (pe_ifExp (pt_cmpR op_eq (pe_call O_law_draw (hr.mono (by decide)) rfl m_law_draw k_law_draw b_law_draw .nil pass0 (pa_cons (pv 0) (pa_cons pe_int pa_nil))) pe_int (nomark _)) (pe_revL (pv 5)) (pv 5)) pa_nil))))))))))))), ?_⟩
  refine ⟨_, rfl, a, 6, rfl, hp, by decide, by decide, fun k H1 hk hk1 hp1 => ?_⟩
  refine ⟨_, rfl, _, _, rfl, rfl, _, rfl, ?_⟩
  refine ite2 (fun c1 => ?_) (fun c1 => ?_)
  · refine ⟨_, rfl, a, 5, rfl, hp1, by decide, by decide, fun d H2 hd hk2 hp2 => ⟨_, _, rfl, rfl, ?_⟩⟩
    refine ⟨_, rfl, _, rfl, _, rfl, a, 1 + d, 9, rfl, hp2, by omega, by omega, by decide, fun l ts H3 h1 h2 hk3 hp3 nl hT => ⟨(by show 2 ≤ sizeLine; decide), fun tp ntp => ?_⟩⟩
    exact q tp l (1 + d) ts _ (((hk1.trans hk2).trans hk3).new ntp) (hp3.new ntp) upd_same (hT.new ntp) ⟨by omega, by omega, by omega, h2⟩ (hp2.ne nl)
  refine ⟨_, rfl, a, 3, rfl, hp1, by decide, by decide, fun d1 H2 hd1 hk2 hp2 => ⟨_, _, rfl, rfl, _, rfl, a, 2, rfl, hp2, by decide, by decide, fun d2 H3 hd2 hk3 hp3 => ⟨_, _, rfl, rfl, _, _, rfl, ?_⟩⟩⟩
  have hk03 := (hk1.trans hk2).trans hk3
  refine ⟨_, rfl, rfl, _, rfl, ?_⟩
  refine ite2 (fun c2 => ?_) (fun c2 => ?_)
  · refine ⟨_, rfl, _, rfl, 0, 1 + d1, rfl, by omega, by omega, fun l ts H4 h1 h2 hS4 nl hT => ⟨(by show 2 ≤ sizeLine; decide), fun tp ntp => ?_⟩⟩
    exact q tp l (1 + d1) ts _ ((hk03.trans (Same.kept hS4)).new ntp) ((hp3.same hS4).new ntp) upd_same (hT.new ntp) ⟨by omega, by omega, by omega, ok_up h2 (by omega)⟩ (hp3.ne nl)
  refine ⟨_, rfl, 0, 1 + d1, rfl, by omega, by omega, fun l1 ts1 H4 len1 b1 hS4 nl1 hT1 => ⟨_, rfl, _, rfl, 1 + d1, 1 + d2, rfl, by omega, by omega, fun l2 ts2 H5 len2 b2 hS5 nl2 hT2 => ?_⟩⟩
  have hT15 := hT1.same hS5
  obtain ⟨xs0, hxs0, hln0⟩ := hT15.get
  obtain ⟨zs0, hzs0, hlz0⟩ := hT2.get
  refine ⟨l1, l2, _, _, rfl, rfl, hxs0, hzs0, by rw [hln0, hlz0, len1, len2]; exact Nat.le_trans (by omega : 1 + d1 + (1 + d2) ≤ 100) (by decide), fun l3 nl3 => ?_⟩
  have hp5 := (hp3.same hS4).same hS5
  have hk05 := (hk03.trans (Same.kept hS4)).trans (Same.kept hS5)
  obtain ⟨xs, zs, g1, g2, g3, g4, hT3⟩ := hT15.cat hT2 nl3
  rw [hxs0] at g1
  cases g1
  rw [hzs0] at g2
  cases g2
  have hb3 : ∀ e ∈ ts1 ++ ts2, e.1 < 1 + d1 + (1 + d2) ∧ e.2 < 1 + d1 + (1 + d2) := ok_app (ok_up b1 (by omega)) b2
  have hl3 : (ts1 ++ ts2).length ≤ 10 := by rw [List.length_append]; omega
  have n3a : l3 ≠ a := hp5.ne nl3
  have hk06 := hk05.new (o := .lst (xs0 ++ zs0)) nl3
  have hp6 := hp5.new (o := .lst (xs0 ++ zs0)) nl3
  generalize upd H5 l3 (.lst (xs0 ++ zs0)) = H6 at hT3 hk06 hp6
  generalize ts1 ++ ts2 = ts3 at hT3 hb3 hl3
  refine ⟨_, rfl, rfl, _, rfl, ?_⟩
  refine ite2 (fun c3 => ?_) (fun c3 => ?_)
  · refine ⟨_, rfl, _, rfl, _, _, rfl, rfl, _, rfl, _, rfl, _, rfl, _, rfl, _, _, rfl, rfl, a, 1 + d1 + (1 + d2), 3, rfl, hp6, by omega, by omega, by decide, fun l4 ts4 H7 len4 b4 hk7 hp7 nl4 hT4 => ?_⟩
    have hT37 := hT3.kept hk7 hp6 n3a
    obtain ⟨xs, hxs, hln⟩ := hT37.get
    obtain ⟨zs, hzs, hlz⟩ := hT4.get
    refine ⟨l3, l4, _, _, rfl, rfl, hxs, hzs, by rw [hln, hlz]; exact Nat.le_trans (by omega : ts3.length + ts4.length ≤ 100) (by decide), fun l5 nl5 => ⟨(by show 2 ≤ sizeLine; decide), fun tp ntp => ?_⟩⟩
    obtain ⟨xs', zs', g1, g2, g3, g4, hT5⟩ := hT37.cat hT4 nl5
    rw [hxs] at g1
    cases g1
    rw [hzs] at g2
    cases g2
    exact q tp l5 (1 + d1 + (1 + d2)) _ _ (((hk06.trans hk7).new nl5).new ntp) ((hp7.new nl5).new ntp) upd_same (hT5.new ntp) ⟨by omega, by omega, by rw [List.length_append]; omega, ok_app hb3 b4⟩ (hp7.ne nl5)
  refine ⟨_, rfl, _, rfl, _, rfl, a, 1 + d1, rfl, hp6, by omega, by omega, fun u H7 hu hk7 hp7 => ⟨_, rfl, _, rfl, _, rfl, a, 1 + d2, rfl, hp7, by omega, by omega, fun v H8 hv hk8 hp8 => ⟨_, _, rfl, rfl, (by show 2 ≤ sizeLine; decide), fun tp ntp => ⟨(by show 1 ≤ sizeLine; decide), fun lp nlp => ?_⟩⟩⟩⟩
  have hT38 := (hT3.kept hk7 hp6 n3a).kept hk8 hp7 n3a
  have ev : (fun i j => V.int (i + j)) (((1 + d1 : Nat) : Int)) ((v : Nat) : Int) = V.int ((1 + d1 + v : Nat) : Int) := rfl
  have hT39 := (hT38.new (o := .tup [.int (u : Int), .int ((1 + d1 + v : Nat) : Int)]) ntp).new (o := .lst [.ref tp]) nlp
  obtain ⟨xs1, hxs1, hln1⟩ := hT39.get
  have nlt : lp ≠ tp := fun z => by rw [z, upd_same] at nlp; cases nlp
  refine ⟨l3, lp, _, _, rfl, rfl, hxs1, upd_same, by rw [hln1]; exact Nat.le_trans (by show ts3.length + 1 ≤ 100; omega) (by decide), fun l6 nl6 => ?_⟩
  dsimp only at nl6 ⊢
  rw [show (1 + (d1 : Int)) + (v : Int) = ((1 + d1 + v : Nat) : Int) by omega] at nl6 ⊢
  obtain ⟨xs', g1, g2, hT6⟩ := hT39.catOne (u := u) (v := 1 + d1 + v) (tp := tp) (by rw [upd_ne nlt.symm, upd_same]) nl6
  rw [hxs1] at g1
  cases g1
  have hp9 : PotAt _ a := (hp8.new (o := .tup [.int (u : Int), .int ((1 + d1 + v : Nat) : Int)]) ntp).new (o := .lst [.ref tp]) nlp
  have n6a : l6 ≠ a := hp9.ne nl6
  have hk09 := ((((hk06.trans hk7).trans hk8).new (o := .tup [.int (u : Int), .int ((1 + d1 + v : Nat) : Int)]) ntp).new (o := .lst [.ref tp]) nlp).new (o := .lst (xs1 ++ [.ref tp])) nl6
  have hp10 := hp9.new (o := .lst (xs1 ++ [.ref tp])) nl6
  have hb6 : ∀ e ∈ ts3 ++ [(u, 1 + d1 + v)], e.1 < 1 + d1 + (1 + d2) ∧ e.2 < 1 + d1 + (1 + d2) := ok_app hb3 (ok_one (by omega) (by omega))
  have hl6 : (ts3 ++ [(u, 1 + d1 + v)]).length ≤ 11 := by rw [List.length_append, List.length_singleton]; omega
  generalize ts3 ++ [(u, 1 + d1 + v)] = ts6 at hT6 hb6 hl6
  have hn6 : H l6 = none := ((((hk06.trans hk7).trans hk8).new (o := .tup [.int (u : Int), .int ((1 + d1 + v : Nat) : Int)]) ntp).new (o := .lst [.ref tp]) nlp).free nl6 n6a
  generalize upd (upd (upd H8 tp (.tup [.int (u : Int), .int ((1 + d1 + v : Nat) : Int)])) lp (.lst [.ref tp])) l6 (.lst (xs1 ++ [.ref tp])) = H10 at hT6 hk09 hp10
  refine ⟨_, rfl, rfl, _, rfl, ?_⟩
  refine ite2 (fun c4 => ?pos) (fun c4 => ?neg)
  case' pos =>
    obtain ⟨xs0', hxs0', _⟩ := hT6.get
    refine ⟨_, rfl, .inl ⟨rfl, _, SqL.of hxs0'⟩, _, rfl, _, rfl, _, rfl, a, 1 + d2, rfl, hp10, by omega, by omega, fun v2 H11 hv2 hk11 hp11 => ⟨_, _, rfl, rfl, _, rfl, _, rfl, a, 1 + d1, rfl, hp11, by omega, by omega, fun u2 H12 hu2 hk12 hp12 => ⟨(by show 2 ≤ sizeLine; decide), fun tp2 ntp2 => ?_⟩⟩⟩
    obtain ⟨xs2, g1, g2, hTf⟩ := ((hT6.kept hk11 hp10 n6a).kept hk12 hp11 n6a).push (u := 1 + d1 + v2) (v := u2) ntp2
    refine ⟨l6, _, _, rfl, rfl, g1, by rw [g2]; exact Nat.lt_of_le_of_lt (by omega : ts6.length ≤ 100) (by decide), ?_⟩
    have hkf := (((hk09.trans hk11).trans hk12).new (o := .tup [.int ((1 + d1 + v2 : Nat) : Int), .int (u2 : Int)]) ntp2).put (o := .lst (xs2 ++ [.ref tp2])) hn6
    have hpf := (hp12.new (o := .tup [.int ((1 + d1 + v2 : Nat) : Int), .int (u2 : Int)]) ntp2).put (o := .lst (xs2 ++ [.ref tp2])) n6a
    have hbf : ∀ e ∈ ts6 ++ [(1 + d1 + v2, u2)], e.1 < 1 + d1 + (1 + d2) ∧ e.2 < 1 + d1 + (1 + d2) := ok_app hb6 (ok_one (by omega) (by omega))
    have hlf : (ts6 ++ [(1 + d1 + v2, u2)]).length ≤ 12 := by rw [List.length_append, List.length_singleton]; omega
    generalize ts6 ++ [(1 + d1 + v2, u2)] = tsf at hTf hbf hlf
  case' neg =>
    obtain ⟨tsf, hTf, hbf, hlf⟩ : ∃ tsf, TiesAt H10 l6 tsf ∧ (∀ e ∈ tsf, e.1 < 1 + d1 + (1 + d2) ∧ e.2 < 1 + d1 + (1 + d2)) ∧ tsf.length ≤ 12 := ⟨ts6, hT6, hb6, by omega⟩
    have hkf := hk09
    have hpf := hp10
  all_goals
    refine ⟨_, rfl, _, rfl, _, _, rfl, rfl, _, rfl, a, 2, rfl, hpf, by decide, by decide, fun z Hz hz hkz hpz => ⟨rfl, _, rfl, ?_⟩⟩
    have hTz := hTf.kept hkz hpf n6a
    refine ite2 (fun c5 => ?_) (fun c5 => ?_)
    · obtain ⟨xs0', hxs0', _⟩ := hTz.get
      refine ⟨_, rfl, l6, _, rfl, SqL.of hxs0', fun l7 nl7 => ⟨(by show 2 ≤ sizeLine; decide), fun tpz ntpz => ?_⟩⟩
      obtain ⟨xs, g1, hTr⟩ := hTz.rev nl7
      rw [hxs0'] at g1
      cases g1
      exact q tpz l7 (1 + d1 + (1 + d2)) _ _ (((hkf.trans hkz).new nl7).new ntpz) ((hpz.new nl7).new ntpz) upd_same (hTr.new ntpz) ⟨by omega, by omega, by rw [List.length_reverse]; omega, fun e he => hbf e (List.mem_reverse.mp he)⟩ (hpz.ne nl7)
    · refine ⟨_, rfl, (by show 2 ≤ sizeLine; decide), fun tpz ntpz => ?_⟩
      exact q tpz l6 (1 + d1 + (1 + d2)) tsf _ ((hkf.trans hkz).new ntpz) (hpz.new ntpz) upd_same (hTz.new ntpz) ⟨by omega, by omega, by omega, hbf⟩ n6a
end
end My
namespace My
open PySem L2 PyProof.Rows
/-! ### lists of ties compared with the empty list -/
abbrev tzD (e : Nat × Nat) : PyData := .tuple [.int (e.1 : Int), .int (e.2 : Int)]
abbrev tz (ts : List (Nat × Nat)) : PyData := .list (ts.map tzD)
theorem dpAll_tz {K : PySem.W.Frag} {H : Hp} : ∀ {tas : List Addr} {ts : List (Nat × Nat)}, Paired (TupAt H) tas ts → DpAll K H (tas.map V.ref) (ts.map tzD)
  | _, _, .nil => .nil
  | _, _, .cons h r => .cons (.tup (SqT.of h) (.cons (.int _) (.cons (.int _) .nil))) (dpAll_tz r)
theorem dp_tz {K : PySem.W.Frag} {H : Hp} {t : Addr} {ts : List (Nat × Nat)} (h : TiesAt H t ts) : Dp K H (.ref t) (tz ts) := by
  obtain ⟨tas, h1, h2⟩ := h
  exact .lst (SqL.of h1) (dpAll_tz h2)
theorem layAll_tz : ∀ ts : List (Nat × Nat), PyData.canLayAll0 (ts.map tzD) = true
  | [] => rfl
  | e :: r => by
    show (PyData.canLay0 (tzD e) && PyData.canLayAll0 (r.map tzD)) = true
    rw [layAll_tz r]
    rfl
theorem depthAll_tz (e : Nat × Nat) : ∀ r : List (Nat × Nat), PyData.depthAll ((e :: r).map tzD) = 1
  | [] => rfl
  | f :: r => by
    show max (PyData.depth (tzD e)) (PyData.depthAll ((f :: r).map tzD)) = 1
    rw [depthAll_tz f r]
    rfl
theorem shaped_tz : ∀ ts : List (Nat × Nat), SeqAt.shaped (tz ts) = true
  | [] => shaped_iz []
  | e :: r => by
    unfold SeqAt.shaped
    have h1 : PyData.canLay0 (tz (e :: r)) = true := by
      show PyData.canLay0 (.list ((e :: r).map tzD)) = true
      unfold PyData.canLay0
      exact layAll_tz _
    have h2 : PyData.depth (tz (e :: r)) = 2 := by
      show PyData.depth (.list ((e :: r).map tzD)) = 2
      unfold PyData.depth
      rw [depthAll_tz]
    rw [h1, h2]
    rfl
theorem eqv_tz (ts : List (Nat × Nat)) : PyData.eqv (tz ts) (dz []) = decide (ts = []) := by
  cases ts with
  | nil => rfl
  | cons n r => rfl
section
variable {P : Program} {w : World} {K : PySem.W.Frag} {mg : Str → Option Value} {base : Heap} {C : Addr}
def sp_law_without (_ : PySem.W.Frag) (_ : Addr) : Sp := fun vs H Q _ => ∃ a t ts, vs = [.ref a, .ref t] ∧ PotAt H a ∧ TiesAt H t ts ∧ t ≠ a ∧ ts.length ≤ 80 ∧ ∀ l W H', (∀ x ∈ W, x < ts.length) → W.length ≤ 3 → Kept a H H' → PotAt H' a → H l = none → H' l = some (.lst (iv W)) → Q (.ref l) H'
theorem ok_law_without (D : Def K mg "_law_without" s_law_without ["_law_pot_here", "_law_ties_here"]) (B : Bs mg) (Glb : Glo mg) (WK : WebK K mg C)
    (h_law_draw : Good P w K mg base "_law_draw" s_law_draw ["_law_pot_here", "_law_many"] 1 (sp_law_draw K C)) :
    Good P w K mg base "_law_without" s_law_without ["_law_pot_here", "_law_ties_here"] 2 (sp_law_without K C) := by
  refine D.good fun f fd F => ?_
  obtain ⟨f_law_draw, d_law_draw, O_law_draw, m_law_draw, k_law_draw, b_law_draw, F_law_draw⟩ := h_law_draw
  refine F.ok sc_law_without (fun vs H Q E h => ?_) (fun cdv A outer s H vs Q E hr h => ?_)
  · obtain ⟨a, t, ts, rfl, hp, hT, hta, hm, q⟩ := h
    first | rfl | (rcases h with ⟨_, _, rfl, _⟩ | ⟨_, rfl, _⟩ <;> rfl)
  obtain ⟨a, t, ts, rfl, hp, hT, hta, hm, q⟩ := h
  refine ⟨_, (pss_cons (ps_set (i := 2) sc_law_without.nd rfl (by first | exact Or.inl rfl | exact Or.inr rfl) (pe_lst pa_nil))
  (pss_cons (ps_for PassesOwn.never rfl (pi_range1 (by rfl) B.range (pa_cons (pe_ifExp (pt_cmpR (op_neD hr.units) (pv 1) (pe_lst pa_nil) (nomark _)) (pe_call O_law_draw hr rfl m_law_draw k_law_draw b_law_draw .nil pass0 (pa_cons (pv 0) (pa_cons pe_int pa_nil))) pe_int) pa_nil)) (pg_name (i := 3) sc_law_without.nd rfl (by first | exact Or.inl rfl | exact Or.inr rfl))
    (pss_one (ps_expr (pe_bm PySem.F.plainAttrs_list PySem.F.slot_list_append PySem.F.type_list_append mt_append (pv 2) (pa_cons (pe_call O_law_draw hr rfl m_law_draw k_law_draw b_law_draw .nil pass0 (pa_cons (pv 0) (pa_cons (pe_callB call_len_seq (by rfl) B.len (by decide +kernel) (pa_cons (pv 1) pa_nil)) pa_nil))) pa_nil)))))
  (pss_one (ps_ret (pv 2))))), ?_⟩
  refine ⟨Nat.zero_le _, fun l nl => ?_⟩
  have hla : l ≠ a := hp.ne nl
  refine ⟨_, rfl, Nat.zero_le _, fun p0 np0 => ⟨_, _, dp_tz ((hT.new nl).new np0), dp_iz (L := []) upd_same, shaped_tz _, shaped_iz _, _, rfl, ?_⟩⟩
  rw [eqv_tz]
  have hT1 := (hT.new (o := .lst []) nl).new (o := .lst []) np0
  have hp1 := (hp.new (o := .lst []) nl).new (o := .lst []) np0
  have hk1 := (Same.kept (same_new nl (.lst []))).new (a := a) (o := .lst []) np0
  have hl1 : (upd (upd H l (.lst [])) p0 (.lst [])) l = some (.lst []) := same_new np0 _ _ _ upd_same
  generalize upd (upd H l (.lst [])) p0 (.lst []) = H1 at hT1 hp1 hk1 hl1
  by_cases c : ts = []
  · refine iteNot' c ⟨_, rfl, by decide, by decide, ?_⟩
    refine for_range (lo := 0) (n := 0) (fun i σ H' => H' = H1 ∧ ∃ v, σ = [some (.ref a), some (.ref t), some (.ref l), v]) ⟨rfl, _, rfl⟩ ?_ ?_
    · rintro i σ H2 hi _
      omega
    · rintro σ H2 ⟨rfl, v, rfl⟩
      exact ⟨_, rfl, q l [] H2 (by simp) (by decide) hk1 hp1 nl hl1⟩
  · refine iteNot c ⟨_, rfl, a, 4, rfl, hp1, by decide, by decide, fun d H2 hd hk2 hp2 => ⟨_, rfl, by omega, by omega, ?_⟩⟩
    have hpos : 0 < ts.length := List.length_pos_iff.mpr c
    refine for_range (lo := 0) (n := d) (fun i σ H' => ∃ (v : Option V) (W : List Nat), σ = [some (.ref a), some (.ref t), some (.ref l), v] ∧ W.length = i ∧ (∀ x ∈ W, x < ts.length) ∧ Kept a H H' ∧ PotAt H' a ∧ TiesAt H' t ts ∧ H' l = some (.lst (iv W))) ?_ ?_ ?_
    · exact ⟨none, [], rfl, rfl, by simp, hk1.trans hk2, hp2, hT1.kept hk2 hp1 hta, hk2 _ _ hl1 hla⟩
    · rintro i σ H3 hi ⟨v, W, rfl, hlen, hW, hk3, hp3, hT3, hl3⟩
      obtain ⟨xs, hxs, hln⟩ := hT3.get
      refine ⟨_, rfl, .inl ⟨rfl, _, SqL.of hl3⟩, _, rfl, _, rfl, _, _, rfl, .inl (SqL.of hxs), a, ts.length, by rw [hln]; rfl, hp3, hpos, by omega, fun u H4 hu hk4 hp4 => ?_⟩
      have hl4 := hk4 _ _ hl3 hla
      refine ⟨l, _, _, rfl, rfl, hl4, by rw [List.length_map, hlen]; exact Nat.lt_of_le_of_lt (by omega : i ≤ 100) (by decide), ?_⟩
      have hT4 := hT3.kept hk4 hp3 hta
      have ntl : t ≠ l := fun z => by
        obtain ⟨xs, hxs, _⟩ := hT.get
        rw [z, nl] at hxs
        cases hxs
      refine ⟨_, W ++ [u], rfl, by rw [List.length_append, hlen]; rfl, fun x hx => ?_, (hk3.trans hk4).put nl, hp4.put hla, ?_, ?_⟩
      · rcases List.mem_append.mp hx with h | h
        · exact hW x h
        · rw [List.mem_singleton.mp h]; exact hu
      · obtain ⟨tas, g1, g2⟩ := hT4
        refine ⟨tas, by rw [upd_ne ntl]; exact g1, paired_mono (fun p e hpe => ?_) g2⟩
        have : p ≠ l := ne_of hpe hl4 (by intro z; cases z)
        show upd _ _ _ p = _
        rw [upd_ne this]
        exact hpe
      · rw [upd_same, iv_app]
    · rintro σ H3 ⟨v, W, rfl, hlen, hW, hk3, hp3, hT3, hl3⟩
      exact ⟨_, rfl, q l W H3 hW (by omega) hk3 hp3 nl hl3⟩
def sp_law_reach (_ : PySem.W.Frag) (_ : Addr) : Sp := fun vs H Q _ => ∃ t ts p s W N, vs = [.ref t, .int ((p : Nat) : Int), .ref s] ∧ TiesAt H t ts ∧ OkWeb N ts ∧ p < N ∧ SeqAt H s W ∧ ∀ H' l R, H l = none → H' l = some (.lst (iz R)) → Same H H' → IsReach (Edge ts W) p R → Q (.ref l) H'
theorem ok_law_reach (D : Def K mg "_law_reach" s_law_reach ["_law_ties_here", "_law_place", "_law_without_here"]) (B : Bs mg) (Glb : Glo mg) (WK : WebK K mg C) :
    Good P w K mg base "_law_reach" s_law_reach ["_law_ties_here", "_law_place", "_law_without_here"] 1 (sp_law_reach K C) := by
  refine D.good fun f fd F => ?_
  refine F.ok sc_law_reach (fun vs H Q E h => ?_) (fun cdv A outer s H vs Q E hr h => ?_)
  · obtain ⟨t, ts, p, s, W, N, rfl, hT, ho, hp, hs, q⟩ := h
    first | rfl | (rcases h with ⟨_, _, rfl, _⟩ | ⟨_, rfl, _⟩ <;> rfl)
  obtain ⟨t, ts, p, s, W, N, rfl, hT, ho, hp, hs, q⟩ := h
  refine ⟨_, (pss_cons (ps_par (i := 3) (j := 4) (by rfl) sc_law_reach.nd rfl rfl (by decide) rfl rfl (pa_cons (pe_lst (pa_cons (pv 1) pa_nil)) (pa_cons (pe_lst (pa_cons (pv 1) pa_nil)) pa_nil)) (by rfl))
  (pss_cons (ps_while PassesOwn.never (pt_cmpR (op_neD hr.units) (pv 4) (pe_lst pa_nil) (nomark _))
    (pss_cons (ps_set (i := 5) sc_law_reach.nd rfl (by first | exact Or.inl rfl | exact Or.inr rfl) (pe_bm0 PySem.F.plainAttrs_list PySem.F.slot_list_pop PySem.F.type_list_pop mt_pop (pv 4)))
  (pss_one (ps_for PassesOwn.never rfl (pi_enum (by rfl) B.enumerate (pa_cons (pv 0) pa_nil)) (pg_tup rfl (pgs_cons (pg_name (i := 6) sc_law_reach.nd rfl (by first | exact Or.inl rfl | exact Or.inr rfl)) (pgs_cons (pg_name (i := 7) sc_law_reach.nd rfl (by first | exact Or.inl rfl | exact Or.inr rfl)) pgs_nil)))
    (pss_one (ps_if (PW.pt (pw_and (pt_cmpR op_eq (pe_ix ix_tup (pv 7) pe_int (fun _ _ => rfl)) (pv 5) (nomark _)) (pw_and (pt_cmpR op_notIn_seq (pv 6) (pv 2) (by rfl)) (pw_and1 (pt_cmpR op_notIn_seq (pe_ix ix_tup (pv 7) pe_int (fun _ _ => rfl)) (pv 3) (by rfl))))))
    (pss_cons (ps_expr (pe_bm PySem.F.plainAttrs_list PySem.F.slot_list_append PySem.F.type_list_append mt_append (pv 3) (pa_cons (pe_ix ix_tup (pv 7) pe_int (fun _ _ => rfl)) pa_nil)))
  (pss_one (ps_expr (pe_bm PySem.F.plainAttrs_list PySem.F.slot_list_append PySem.F.type_list_append mt_append (pv 4) (pa_cons (pe_ix ix_tup (pv 7) pe_int (fun _ _ => rfl)) pa_nil))))) pss_nil))))))
  (pss_one (ps_ret (pe_callB cr_sortedI (by rfl) B.sorted (by decide +kernel) (pa_cons (pv 3) pa_nil)))))), ?_⟩
  have hN := ho.n1
  have hm := ho.m
  refine ⟨_, rfl, (by show 1 ≤ sizeLine; decide), fun sd nsd => ⟨_, rfl, (by show 1 ≤ sizeLine; decide), fun wl nwl => ⟨_, _, rfl, ?_⟩⟩⟩
  have nws : wl ≠ sd := fun z => by rw [z, upd_same] at nwl; cases nwl
  have nwl2 : H wl = none := by rw [upd_ne nws] at nwl; exact nwl
  let Pv : Nat → L2.St → Hp → Prop := fun m σ H' => ∃ (v5 v6 v7 : Option V) (seen waiting : List Nat), σ = [some (.ref t), some (.int (p : Int)), some (.ref s), some (.ref sd), some (.ref wl), v5, v6, v7] ∧ Same H H' ∧ H' sd = some (.lst (iv seen)) ∧ H' wl = some (.lst (iv waiting)) ∧ RInv (Edge ts W) p seen waiting ∧ (∀ x ∈ seen, x < N) ∧ (N - seen.length) + waiting.length = m ∧ m ≤ 60
  refine ⟨Pv, ⟨_, none, none, none, [p], [p], rfl, same_upd (same_new nsd _) nwl2, by rw [upd_ne nws.symm]; exact upd_same, upd_same, r_start p, fun x hx => by rw [List.mem_singleton.mp hx]; exact hp, rfl, by show (N - 1) + 1 ≤ 60; omega⟩, ?_⟩
  rintro m σ H3 ⟨v5, v6, v7, seen, waiting, rfl, hS3, hsd, hwl, hI, hlt, hμ, hm60⟩
  refine ⟨_, rfl, Nat.zero_le _, fun p0 np0 => ⟨_, _, dp_iv (same_new np0 _ _ _ hwl), dp_iz (L := []) upd_same, shaped_iz _, shaped_iz _, _, rfl, ?_⟩⟩
  have hS4 : Same H (upd H3 p0 (.lst [])) := fun b o e => same_new np0 _ _ _ (hS3 _ _ e)
  have hsd4 : (upd H3 p0 (.lst [])) sd = some (.lst (iv seen)) := same_new np0 _ _ _ hsd
  have hwl4 : (upd H3 p0 (.lst [])) wl = some (.lst (iv waiting)) := same_new np0 _ _ _ hwl
  generalize upd H3 p0 (.lst []) = H4 at hS4 hsd4 hwl4
  rw [eqv_empty]
  rcases List.eq_nil_or_concat waiting with rfl | ⟨rest, here, rfl⟩
  · refine iteNot' (by rfl) ?_
    refine ⟨_, rfl, sd, seen.map fun n : Nat => (n : Int), rfl, SqL.of (by rw [hsd4, iv_iz]), fun ys l hperm hsort nl => ?_⟩
    exact q _ l ys (hS4.free nl) upd_same (fun b o e => same_new nl _ _ _ (hS4 _ _ e)) (isReach_of hI hperm hsort)
  · rw [List.concat_eq_append] at *
    refine iteNot (by simp) ?_
    have hin : here ∈ seen := hI.sub here (by simp)
    have hhere := hlt _ hin
    refine ⟨fun σ' H' => ∃ m', m' < m ∧ Pv m' σ' H', fun σ' H' h => h, ?_⟩
    refine ⟨_, rfl, .inl ⟨rfl, _, SqL.of hwl4⟩, wl, _, _, rfl, rfl, hwl4, snoc_at _ _, ?_⟩
    rw [snoc_drop]
    generalize e5 : upd H4 wl (.lst (iv rest)) = H5
    have hS5 : Same H H5 := by rw [← e5]; exact same_upd hS4 nwl2
    have hsd5 : H5 sd = some (.lst (iv seen)) := by rw [← e5, upd_ne nws.symm]; exact hsd4
    have hwl5 : H5 wl = some (.lst (iv rest)) := by rw [← e5]; exact upd_same
    obtain ⟨tas, ht0, hP0⟩ := hT
    refine ⟨_, rfl, t, _, rfl, SqL.of (hS5 _ _ ht0), ?_⟩
    refine for_it (walk_enum (K := K) (a := t) (xs := tas.map V.ref)) (fun i σ H' => ∃ (v6 v7 : Option V) (seen waiting : List Nat), σ = [some (.ref t), some (.int (p : Int)), some (.ref s), some (.ref sd), some (.ref wl), some (.int (here : Int)), v6, v7] ∧ Same H H' ∧ H' sd = some (.lst (iv seen)) ∧ H' wl = some (.lst (iv waiting)) ∧ RMid (Edge ts W) p here (fun v => ∃ j, j < i ∧ ts[j]? = some (here, v) ∧ j ∉ W) seen waiting ∧ (∀ x ∈ seen, x < N) ∧ (N - seen.length) + waiting.length + 1 = m) ?_ ?_ ?_ ?_
    · refine ⟨v6, v7, seen, rest, rfl, hS5, hsd5, hwl5, r_old (r_pop hI) (fun x hx => by obtain ⟨j, hj, _⟩ := hx; omega), hlt, ?_⟩
      rw [List.length_append, List.length_singleton] at hμ
      omega
    · rintro i σ H' hi ⟨_, _, _, _, rfl, hS', _⟩
      exact SqL.of (hS' _ _ ht0)
    · rintro i x σ H6 H7 hi ⟨w6, w7, seen', waiting', rfl, hS6, hsd6, hwl6, hM, hlt', hμ'⟩ ⟨T0, x1, x2, rfl, nT0, rfl, e1, e2⟩
      cases e1
      rw [List.length_map] at hi
      replace e2 : (tas.map V.ref)[i]? = some x2 := e2
      rw [List.getElem?_map, List.getElem?_eq_getElem hi] at e2
      cases e2
      obtain ⟨⟨u, v⟩, he, hpe⟩ := paired_get hP0 (List.getElem?_eq_getElem hi)
      have hvN := (ho.ok _ (List.mem_of_getElem? he)).2
      have hS7 : Same H (upd H6 T0 (.tup [.int (i : Int), .ref tas[i]])) := fun b o e => same_new nT0 _ _ _ (hS6 _ _ e)
      have hT7 : (upd H6 T0 (.tup [.int (i : Int), .ref tas[i]])) T0 = some (.tup [.int (i : Int), .ref tas[i]]) := upd_same
      have hsd7 := same_new nT0 (.tup [.int (i : Int), .ref tas[i]]) _ _ hsd6
      have hwl7 := same_new nT0 (.tup [.int (i : Int), .ref tas[i]]) _ _ hwl6
      generalize upd H6 T0 (.tup [.int (i : Int), .ref tas[i]]) = H7 at hS7 hT7 hsd7 hwl7
      have hp7 : H7 tas[i] = some (.tup [.int (u : Int), .int (v : Int)]) := hS7 _ _ hpe
      have split : ∀ z : Nat, (∃ j, j < i + 1 ∧ ts[j]? = some (here, z) ∧ j ∉ W) → (∃ j, j < i ∧ ts[j]? = some (here, z) ∧ j ∉ W) ∨ (u = here ∧ z = v ∧ i ∉ W) := by
        rintro z ⟨j, hj, e1, e2⟩
        by_cases cj : j = i
        · subst cj
          rw [he] at e1
          have := Option.some.inj e1
          exact .inr ⟨congrArg Prod.fst this, (congrArg Prod.snd this).symm, e2⟩
        · exact .inl ⟨j, by omega, e1, e2⟩
      refine ⟨T0, _, rfl, SqT.of hT7, rfl, _, _, rfl, _, _, rfl, rfl, ?_⟩
      refine ⟨_, rfl, _, _, _, .int (u : Int), rfl, rfl, SqT.of hp7, rfl, _, rfl, rfl, _, rfl, ?_⟩
      by_cases cu : u = here
      case' neg =>
        refine iteNo (fun z => cu (by have := int_eq.mp z; omega)) (iteF ⟨_, _, seen', waiting', rfl, hS7, hsd7, hwl7, r_old hM (fun z hz => ?_), hlt', hμ'⟩)
        rcases split z hz with h | h
        · exact .inl h
        · exact absurd h.1 cu
      refine iteYes (int_eq.mpr (by rw [cu])) ⟨_, rfl, _, rfl, s, _, rfl, (hs.same hS7).seq, rfl, flat_iv _, _, rfl, ?_⟩
      rw [inV_iv]
      by_cases cW : i ∈ W
      · refine iteNot' cW (iteF ⟨_, _, seen', waiting', rfl, hS7, hsd7, hwl7, r_old hM (fun z hz => ?_), hlt', hμ'⟩)
        rcases split z hz with h | h
        · exact .inl h
        · exact absurd cW h.2.2
      refine iteNot cW ⟨_, rfl, _, _, _, .int (v : Int), rfl, rfl, SqT.of hp7, rfl, _, rfl, sd, _, rfl, .inl (SqL.of hsd7), rfl, flat_iv _, _, rfl, ?_⟩
      rw [inV_iv]
      by_cases c : v ∈ seen'
      · refine iteNot' c ⟨_, _, seen', waiting', rfl, hS7, hsd7, hwl7, r_old hM (fun z hz => ?_), hlt', hμ'⟩
        rcases split z hz with h | h
        · exact .inl h
        · rw [h.2.1]; exact .inr c
      refine iteNot c ?_
      have hfew := few hM.nd hlt'
      have hE : Edge ts W here v := ⟨i, by rw [he, cu], cW⟩
      have hfew2 : (seen' ++ [v]).length ≤ N := few (by rw [List.nodup_append]; exact ⟨hM.nd, by simp, fun p hp q hq => by rw [List.mem_singleton.mp hq]; rintro rfl; exact c hp⟩) (fun z hz => by
        rcases List.mem_append.mp hz with h | h
        · exact hlt' z h
        · rw [List.mem_singleton.mp h]; exact hvN)
      rw [List.length_append, List.length_singleton] at hfew2
      refine ⟨_, rfl, .inl ⟨rfl, _, SqL.of hsd7⟩, _, rfl, _, _, _, .int (v : Int), rfl, rfl, SqT.of hp7, rfl, sd, _, _, rfl, rfl, hsd7, by rw [List.length_map]; exact Nat.lt_of_le_of_lt (by omega : seen'.length ≤ 60) (by decide), ?_⟩
      have nts : tas[i] ≠ sd := ne_of hp7 hsd7 (by intro z; cases z)
      have hwl8 : upd H7 sd (.lst (iv seen' ++ [.int (v : Int)])) wl = some (.lst (iv waiting')) := by rw [upd_ne nws]; exact hwl7
      have hp8 : upd H7 sd (.lst (iv seen' ++ [.int (v : Int)])) tas[i] = some (.tup [.int (u : Int), .int (v : Int)]) := by rw [upd_ne nts]; exact hp7
      refine ⟨_, rfl, .inl ⟨rfl, _, SqL.of hwl8⟩, _, rfl, _, _, _, .int (v : Int), rfl, rfl, SqT.of hp8, rfl, wl, _, _, rfl, rfl, hwl8, by rw [List.length_map]; exact Nat.lt_of_le_of_lt (by omega : waiting'.length ≤ 60) (by decide), ?_⟩
      refine ⟨_, _, seen' ++ [v], waiting' ++ [v], rfl, same_upd (same_upd hS7 nsd) nwl2, ?_, ?_, r_new hM hE c (fun z hz => ?_), fun z hz => ?_, ?_⟩
      · rw [upd_ne nws.symm, upd_same, iv_app]
      · rw [upd_same, iv_app]
      · rcases split z hz with h | h
        · exact .inl h
        · exact .inr h.2.1
      · rcases List.mem_append.mp hz with h | h
        · exact hlt' z h
        · rw [List.mem_singleton.mp h]; exact hvN
      · rw [List.length_append, List.length_append, List.length_singleton]
        omega
    · rintro σ H6 ⟨w6, w7, seen', waiting', rfl, hS6, hsd6, hwl6, hM, hlt', hμ'⟩
      refine ⟨_, by rw [← hμ']; exact Nat.lt_succ_self _, _, _, _, seen', waiting', rfl, hS6, hsd6, hwl6, r_done hM (fun v hv => ?_), hlt', rfl, by omega⟩
      obtain ⟨j, h1, h2⟩ := hv
      refine ⟨j, ?_, h1, h2⟩
      rw [List.length_map, paired_len hP0]
      exact (List.getElem?_eq_some_iff.mp h1).1
end
end My
namespace My
open PySem L2 PyProof.Rows
section
variable {P : Program} {w : World} {K : PySem.W.Frag} {mg : Str → Option Value} {base : Heap} {C : Addr}
def sp_law_fewest (_ : PySem.W.Frag) (_ : Addr) : Sp := fun vs H Q _ => ∃ t ts near far s W N, vs = [.ref t, .int ((near : Nat) : Int), .int ((far : Nat) : Int), .ref s] ∧ TiesAt H t ts ∧ OkWeb N ts ∧ near < N ∧ SeqAt H s W ∧ (∀ H' (D : Nat), Same H H' → Few (Edge ts W) near far D → Q (.int (D : Int)) H') ∧ (∀ H', Same H H' → NoWay ts W near far → Q .non H')
theorem ok_law_fewest (D : Def K mg "_law_fewest" s_law_fewest ["_law_ties_here", "_law_near", "_law_far", "_law_without_here"]) (B : Bs mg) (Glb : Glo mg) (WK : WebK K mg C) :
    Good P w K mg base "_law_fewest" s_law_fewest ["_law_ties_here", "_law_near", "_law_far", "_law_without_here"] 1 (sp_law_fewest K C) := by
  refine D.good fun f fd F => ?_
  refine F.ok sc_law_fewest (fun vs H Q E h => ?_) (fun cdv A outer s H vs Q E hr h => ?_)
  · obtain ⟨t, ts, near, far, s, W, N, rfl, hT, ho, hn, hs, q1, q2⟩ := h
    first | rfl | (rcases h with ⟨_, _, rfl, _⟩ | ⟨_, rfl, _⟩ <;> rfl)
  obtain ⟨t, ts, near, far, s, W, N, rfl, hT, ho, hn, hs, q1, q2⟩ := h
  refine ⟨_, (pss_cons (ps_par3 (i := 4) (j := 5) (l := 6) (by rfl) sc_law_fewest.nd rfl rfl rfl (by decide) (by decide) (by decide) rfl rfl rfl (pa_cons (pe_lst (pa_cons (pv 1) pa_nil)) (pa_cons (pe_lst pa_nil) (pa_cons pe_int pa_nil))) (by rfl))
  (pss_cons (ps_while PassesOwn.never (pt_cmpR (op_neD hr.units) (pv 4) (pe_lst pa_nil) (nomark _))
    (pss_cons (ps_par (i := 7) (j := 6) (by rfl) sc_law_fewest.nd rfl rfl (by decide) rfl rfl (pa_cons (pe_lst pa_nil) (pa_cons (pe_op op_add (pv 6) pe_int) pa_nil)) (by rfl))
  (pss_cons (ps_for PassesOwn.never rfl (pi_enum (by rfl) B.enumerate (pa_cons (pv 0) pa_nil)) (pg_tup rfl (pgs_cons (pg_name (i := 8) sc_law_fewest.nd rfl (by first | exact Or.inl rfl | exact Or.inr rfl)) (pgs_cons (pg_name (i := 9) sc_law_fewest.nd rfl (by first | exact Or.inl rfl | exact Or.inr rfl)) pgs_nil)))
    (pss_one (ps_if (PW.pt (pw_and (pt_cmpR op_in_seq (pe_ix ix_tup (pv 9) pe_int (fun _ _ => rfl)) (pv 4) (by rfl)) (pw_and (pt_cmpR op_notIn_seq (pv 8) (pv 3) (by rfl)) (pw_and1 (pt_cmpR op_notIn_seq (pe_ix ix_tup (pv 9) pe_int (fun _ _ => rfl)) (pv 5) (by rfl))))))
    (pss_cons (ps_expr (pe_bm PySem.F.plainAttrs_list PySem.F.slot_list_append PySem.F.type_list_append mt_append (pv 5) (pa_cons (pe_ix ix_tup (pv 9) pe_int (fun _ _ => rfl)) pa_nil)))
  (pss_one (ps_expr (pe_bm PySem.F.plainAttrs_list PySem.F.slot_list_append PySem.F.type_list_append mt_append (pv 7) (pa_cons (pe_ix ix_tup (pv 9) pe_int (fun _ _ => rfl)) pa_nil))))) pss_nil)))
  (pss_cons (ps_if (pt_cmpR op_in_seq (pv 2) (pv 5) (by rfl))
    (pss_one (ps_ret (pv 6))) pss_nil)
  (pss_one (ps_set (i := 4) sc_law_fewest.nd rfl (by first | exact Or.inl rfl | exact Or.inr rfl) (pv 7)))))))
  (pss_one (ps_ret pe_non)))), ?_⟩
  have hN := ho.n1
  have hm := ho.m
  refine ⟨_, rfl, (by show 1 ≤ sizeLine; decide), fun hl nhl => ⟨Nat.zero_le _, fun ml nml => ⟨_, _, _, rfl, ?_⟩⟩⟩
  have nmh : ml ≠ hl := fun z => by rw [z, upd_same] at nml; cases nml
  have nml0 : H ml = none := by rw [upd_ne nmh] at nml; exact nml
  let Pv : Nat → L2.St → Hp → Prop := fun μ σ H' => ∃ (v7 v8 v9 : Option V) (ha : Addr) (here met : List Nat) (m : Nat), σ = [some (.ref t), some (.int (near : Int)), some (.int (far : Int)), some (.ref s), some (.ref ha), some (.ref ml), some (.int (m : Int)), v7, v8, v9] ∧ Same H H' ∧ H' ha = some (.lst (iv here)) ∧ H' ml = some (.lst (iv met)) ∧ ha ≠ ml ∧ Lev (Edge ts W) near far m here met ∧ (∀ x ∈ met, x < N) ∧ μ = 2 * (N - met.length) + (if here = [] then 0 else 1)
  refine ⟨Pv, ⟨_, none, none, none, hl, [near], [], 0, rfl, fun b o e => same_new nml _ b o (same_new nhl _ b o e), by rw [upd_ne nmh.symm]; exact upd_same, upd_same, nmh.symm, lev_start near far, by simp, rfl⟩, ?_⟩
  rintro μ σ H3 ⟨v7, v8, v9, ha, here, met, m, rfl, hS3, hha, hml, nha, hL, hlt, hμ⟩
  refine ⟨_, rfl, Nat.zero_le _, fun p0 np0 => ⟨_, _, dp_iv (same_new np0 _ _ _ hha), dp_iz (L := []) upd_same, shaped_iz _, shaped_iz _, _, rfl, ?_⟩⟩
  have hS4 : Same H (upd H3 p0 (.lst [])) := fun b o e => same_new np0 _ _ _ (hS3 _ _ e)
  have hha4 : (upd H3 p0 (.lst [])) ha = some (.lst (iv here)) := same_new np0 _ _ _ hha
  have hml4 : (upd H3 p0 (.lst [])) ml = some (.lst (iv met)) := same_new np0 _ _ _ hml
  generalize upd H3 p0 (.lst []) = H4 at hS4 hha4 hml4
  rw [eqv_empty]
  by_cases ch : here = []
  · refine iteNot' (by rw [ch]; rfl) ?_
    rw [ch] at hL
    exact q2 _ hS4 (lev_none hL)
  refine iteNot (by simpa using ch) ⟨fun σ' H' => ∃ m', m' < μ ∧ Pv m' σ' H', fun σ' H' h => h, ?_⟩
  rw [if_neg ch] at hμ
  refine ⟨Nat.zero_le _, fun ll nll => ⟨_, rfl, _, _, rfl, rfl, _, _, rfl, ?_⟩⟩
  have nllha : ha ≠ ll := ne_of_none hha4 nll
  have nllml : ml ≠ ll := ne_of_none hml4 nll
  have nll0 := hS4.free nll
  have hS5 : Same H (upd H4 ll (.lst [])) := fun b o e => same_new nll _ _ _ (hS4 _ _ e)
  have hha5 : (upd H4 ll (.lst [])) ha = some (.lst (iv here)) := same_new nll _ _ _ hha4
  have hml5 : (upd H4 ll (.lst [])) ml = some (.lst (iv met)) := same_new nll _ _ _ hml4
  have hll5 : (upd H4 ll (.lst [])) ll = some (.lst (iv [])) := upd_same
  generalize upd H4 ll (.lst []) = H5 at hS5 hha5 hml5 hll5
  obtain ⟨tas, ht0, hP0⟩ := hT
  refine ⟨_, rfl, t, _, rfl, SqL.of (hS5 _ _ ht0), ?_⟩
  refine for_it (walk_enum (K := K) (a := t) (xs := tas.map V.ref)) (fun i σ H' => ∃ (v8 v9 : Option V) (later : List Nat), σ = [some (.ref t), some (.int (near : Int)), some (.int (far : Int)), some (.ref s), some (.ref ha), some (.ref ml), some (.int ((m + 1 : Nat) : Int)), some (.ref ll), v8, v9] ∧ Same H H' ∧ H' ha = some (.lst (iv here)) ∧ H' ml = some (.lst (iv (met ++ later))) ∧ H' ll = some (.lst (iv later)) ∧
    (∀ x : Nat, x ∈ later ↔ x ∉ met ∧ ∃ j u, j < i ∧ u ∈ here ∧ ts[j]? = some (u, x) ∧ j ∉ W) ∧ (met ++ later).Nodup ∧ (∀ x ∈ met ++ later, x < N)) ?_ ?_ ?_ ?_
  · exact ⟨v8, v9, [], rfl, hS5, hha5, by rw [List.append_nil]; exact hml5, hll5, fun x => ⟨fun h => by simp at h, fun ⟨_, j, u, hj, _⟩ => by omega⟩, by rw [List.append_nil]; exact hL.nd, by rw [List.append_nil]; exact hlt⟩
  · rintro i σ H' hi ⟨_, _, _, rfl, hS', _⟩
    exact SqL.of (hS' _ _ ht0)
  · rintro i x σ H6 H7 hi ⟨w8, w9, later, rfl, hS6, hha6, hml6, hll6, hlat, hnd, hltm⟩ ⟨T0, x1, x2, rfl, nT0, rfl, e1, e2⟩
    cases e1
    rw [List.length_map] at hi
    replace e2 : (tas.map V.ref)[i]? = some x2 := e2
    rw [List.getElem?_map, List.getElem?_eq_getElem hi] at e2
    cases e2
    obtain ⟨⟨u, v⟩, he, hpe⟩ := paired_get hP0 (List.getElem?_eq_getElem hi)
    have hvN := (ho.ok _ (List.mem_of_getElem? he)).2
    have hS7 : Same H (upd H6 T0 (.tup [.int (i : Int), .ref tas[i]])) := fun b o e => same_new nT0 _ _ _ (hS6 _ _ e)
    have hT7 : (upd H6 T0 (.tup [.int (i : Int), .ref tas[i]])) T0 = some (.tup [.int (i : Int), .ref tas[i]]) := upd_same
    have hha7 := same_new nT0 (.tup [.int (i : Int), .ref tas[i]]) _ _ hha6
    have hml7 := same_new nT0 (.tup [.int (i : Int), .ref tas[i]]) _ _ hml6
    have hll7 := same_new nT0 (.tup [.int (i : Int), .ref tas[i]]) _ _ hll6
    generalize upd H6 T0 (.tup [.int (i : Int), .ref tas[i]]) = H7 at hS7 hT7 hha7 hml7 hll7
    have hp7 : H7 tas[i] = some (.tup [.int (u : Int), .int (v : Int)]) := hS7 _ _ hpe
    have keep : (u ∈ here → i ∉ W → v ∈ met ++ later) → ∀ x : Nat, x ∈ later ↔ x ∉ met ∧ ∃ j u, j < i + 1 ∧ u ∈ here ∧ ts[j]? = some (u, x) ∧ j ∉ W := fun hc x => by
      rw [hlat]
      constructor
      · rintro ⟨h1, j, u', h2, h3⟩
        exact ⟨h1, j, u', by omega, h3⟩
      · rintro ⟨h1, j, u', h2, h3, h4, h5⟩
        refine ⟨h1, ?_⟩
        by_cases cj : j = i
        · subst cj
          rw [he] at h4
          cases h4
          rcases List.mem_append.mp (hc h3 h5) with z | z
          · exact absurd z h1
          · exact ((hlat v).mp z).2
        · exact ⟨j, u', by omega, h3, h4, h5⟩
    refine ⟨T0, _, rfl, SqT.of hT7, rfl, _, _, rfl, _, _, rfl, rfl, ?_⟩
    refine ⟨_, rfl, _, _, _, .int (u : Int), rfl, rfl, SqT.of hp7, rfl, _, rfl, ha, _, rfl, .inl (SqL.of hha7), rfl, flat_iv _, _, rfl, ?_⟩
    rw [inV_iv]
    by_cases cu : u ∈ here
    case' neg => refine iteNo cu (iteF ⟨_, _, later, rfl, hS7, hha7, hml7, hll7, keep (fun h => absurd h cu), hnd, hltm⟩)
    refine iteYes cu ⟨_, rfl, _, rfl, s, _, rfl, (hs.same hS7).seq, rfl, flat_iv _, _, rfl, ?_⟩
    rw [inV_iv]
    by_cases cW : i ∈ W
    · exact iteNot' cW (iteF ⟨_, _, later, rfl, hS7, hha7, hml7, hll7, keep (fun _ h => absurd cW h), hnd, hltm⟩)
    refine iteNot cW ⟨_, rfl, _, _, _, .int (v : Int), rfl, rfl, SqT.of hp7, rfl, _, rfl, ml, _, rfl, .inl (SqL.of hml7), rfl, flat_iv _, _, rfl, ?_⟩
    rw [inV_iv]
    by_cases c : v ∈ met ++ later
    · exact iteNot' c ⟨_, _, later, rfl, hS7, hha7, hml7, hll7, keep (fun _ _ => c), hnd, hltm⟩
    refine iteNot c ?_
    have hfew := few hnd hltm
    rw [List.length_append] at hfew
    have ntm : tas[i] ≠ ml := ne_of hp7 hml7 (by intro z; cases z)
    refine ⟨_, rfl, .inl ⟨rfl, _, SqL.of hml7⟩, _, rfl, _, _, _, .int (v : Int), rfl, rfl, SqT.of hp7, rfl, ml, _, _, rfl, rfl, hml7, by rw [List.length_map, List.length_append]; exact Nat.lt_of_le_of_lt (by omega : met.length + later.length ≤ 60) (by decide), ?_⟩
    have hll8 : upd H7 ml (.lst (iv (met ++ later) ++ [.int (v : Int)])) ll = some (.lst (iv later)) := by rw [upd_ne nllml.symm]; exact hll7
    have hp8 : upd H7 ml (.lst (iv (met ++ later) ++ [.int (v : Int)])) tas[i] = some (.tup [.int (u : Int), .int (v : Int)]) := by rw [upd_ne ntm]; exact hp7
    refine ⟨_, rfl, .inl ⟨rfl, _, SqL.of hll8⟩, _, rfl, _, _, _, .int (v : Int), rfl, rfl, SqT.of hp8, rfl, ll, _, _, rfl, rfl, hll8, by rw [List.length_map]; exact Nat.lt_of_le_of_lt (by omega : later.length ≤ 60) (by decide), ?_⟩
    refine ⟨_, _, later ++ [v], rfl, same_upd (same_upd hS7 nml0) nll0, ?_, ?_, ?_, fun x => ?_, ?_, fun x hx => ?_⟩
    · rw [upd_ne nllha, upd_ne nha]
      exact hha7
    · rw [upd_ne nllml, upd_same, ← List.append_assoc, iv_app]
    · rw [upd_same, iv_app]
    · rw [List.mem_append, List.mem_singleton, hlat]
      constructor
      · rintro (⟨h1, j, u', h2, h3⟩ | rfl)
        · exact ⟨h1, j, u', by omega, h3⟩
        · exact ⟨fun h => c (List.mem_append_left _ h), i, u, by omega, cu, he, cW⟩
      · rintro ⟨h1, j, u', h2, h3, h4, h5⟩
        by_cases cj : j = i
        · subst cj
          rw [he] at h4
          cases h4
          exact .inr rfl
        · exact .inl ⟨h1, j, u', by omega, h3, h4, h5⟩
    · rw [← List.append_assoc, List.nodup_append]
      exact ⟨hnd, by simp, fun p hp q hq => by rw [List.mem_singleton.mp hq]; rintro rfl; exact c hp⟩
    · rw [← List.append_assoc] at hx
      rcases List.mem_append.mp hx with h | h
      · exact hltm x h
      · rw [List.mem_singleton.mp h]; exact hvN
  · rintro σ H6 ⟨w8, w9, later, rfl, hS6, hha6, hml6, hll6, hlat, hnd, hltm⟩
    have hlat2 : ∀ x, x ∈ later ↔ x ∉ met ∧ ∃ u ∈ here, Edge ts W u x := fun x => by
      rw [hlat]
      constructor
      · rintro ⟨h1, j, u, h2, h3, h4, h5⟩
        exact ⟨h1, u, h3, j, h4, h5⟩
      · rintro ⟨h1, u, h3, j, h4, h5⟩
        refine ⟨h1, j, u, ?_, h3, h4, h5⟩
        rw [List.length_map, paired_len hP0]
        exact (List.getElem?_eq_some_iff.mp h4).1
    have hmet2 : ∀ x, x ∈ met ++ later ↔ x ∈ met ∨ ∃ u ∈ here, Edge ts W u x := fun x => by
      rw [List.mem_append, hlat2]
      by_cases z : x ∈ met
      · simp [z]
      · simp [z]
    have hnx := lev_next hL hmet2 hlat2
    refine ⟨_, rfl, _, rfl, ml, _, rfl, .inl (SqL.of hml6), rfl, flat_iv _, _, rfl, ?_⟩
    rw [inV_iv]
    by_cases cf : far ∈ met ++ later
    · exact iteYes cf ⟨_, rfl, q1 _ (m + 1) hS6 (lev_few hL hnx.1 cf)⟩
    refine iteNo cf ⟨_, rfl, ?_⟩
    have hfew := few hnd hltm
    refine ⟨_, ?_, some (.ref ll), w8, w9, ll, later, met ++ later, m + 1, rfl, hS6, hll6, hml6, nllml.symm, ⟨hnx.1, hnx.2, cf, hnd⟩, hltm, rfl⟩
    rw [List.length_append] at hfew ⊢
    by_cases cl : later = []
    · rw [if_pos cl, cl]
      simp
      omega
    · rw [if_neg cl]
      have := List.length_pos_iff.mpr cl
      omega
end
end My
namespace My
open PySem L2 PyProof.Rows
theorem ix_listK {X : Cx} {K : PySem.W.Frag} (h : X.K = K) : IxR X (rIxL K) := h ▸ ix_list
theorem ix_tupK {X : Cx} {K : PySem.W.Frag} (h : X.K = K) : IxR X (rIxT K) := h ▸ ix_tup
theorem op_in_seqK {X : Cx} {K : PySem.W.Frag} (h : X.K = K) : OpR X (compareOp .In) (rIn K false) := h ▸ op_in_seq
theorem op_notIn_seqK {X : Cx} {K : PySem.W.Frag} (h : X.K = K) : OpR X (compareOp .NotIn) (rIn K true) := h ▸ op_notIn_seq
theorem cut1 (xs : List V) : cutV xs (some 1) none = xs.drop 1 := by
  unfold cutV
  cases xs with
  | nil => rfl
  | cons x r =>
    have e1 : HT.sIx (x :: r).length 0 (some 1) = 1 := by
      unfold HT.sIx
      simp
    have e2 : HT.sIx (x :: r).length (x :: r).length none = (x :: r).length := rfl
    rw [e1, e2]
    exact List.take_of_length_le (by simp)
theorem pth_head {ts : List (Nat × Nat)} {W p : List Nat} {a b : Nat} (h : Pth ts W a p b) : ∃ t v r, p = t :: r ∧ ts[t]? = some (a, v) := by
  cases h with
  | one e _ => exact ⟨_, _, _, rfl, e⟩
  | cons e _ _ => exact ⟨_, _, _, rfl, e⟩
theorem pth_last {ts : List (Nat × Nat)} {W p : List Nat} {a b : Nat} (h : Pth ts W a p b) : ∃ t u r, p = r ++ [t] ∧ ts[t]? = some (u, b) := by
  induction h with
  | one e _ => exact ⟨_, _, [], rfl, e⟩
  | @cons t u x v r e _ _ ih =>
    obtain ⟨t', u', r', h1, h2⟩ := ih
    exact ⟨t', u', t :: r', by rw [h1]; rfl, h2⟩
theorem pth_out {ts : List (Nat × Nat)} {W p : List Nat} {a b : Nat} (h : Pth ts W a p b) : ∀ x ∈ p, x ∉ W := by
  induction h with
  | one _ n => intro x hx; rw [List.mem_singleton.mp hx]; exact n
  | cons _ n _ ih =>
    intro x hx
    rcases List.mem_cons.mp hx with z | z
    · rw [z]; exact n
    · exact ih x z
theorem pth_step {ts : List (Nat × Nat)} {W p : List Nat} {a b : Nat} (h : Pth ts W a p b) : ∀ i s t : Nat, p[i]? = some s → p[i + 1]? = some t → ∃ u x v, ts[s]? = some (u, x) ∧ ts[t]? = some (x, v) := by
  induction h with
  | one _ _ => intro i s t h1 h2; simp at h2
  | @cons t0 u x v r e _ hr ih =>
    intro i s t h1 h2
    cases i with
    | zero =>
      simp at h1
      subst h1
      obtain ⟨t', v', r', g1, g2⟩ := pth_head hr
      subst g1
      simp at h2
      subst h2
      exact ⟨u, x, v', e, g2⟩
    | succ i => exact ih i s t (by simpa using h1) (by simpa using h2)
section
variable {P : Program} {w : World} {K : PySem.W.Frag} {mg : Str → Option Value} {base : Heap} {C : Addr}
def sp_law_is_way (_ : PySem.W.Frag) (_ : Addr) : Sp := fun vs H Q _ => ∃ t ts near far s W l p, vs = [.ref t, .int ((near : Nat) : Int), .int ((far : Nat) : Int), .ref s, .ref l] ∧ TiesAt H t ts ∧ SeqAt H s W ∧ H l = some (.lst (iv p)) ∧ Pth ts W near p far ∧ p.length ≤ 1000 ∧ ∀ H', Same H H' → Q (.bl true) H'
theorem ok_law_is_way (D : Def K mg "_law_is_way" s_law_is_way ["_law_ties_here", "_law_near", "_law_far", "_law_without_here", "_law_value"]) (B : Bs mg) (Glb : Glo mg) (WK : WebK K mg C) :
    Good P w K mg base "_law_is_way" s_law_is_way ["_law_ties_here", "_law_near", "_law_far", "_law_without_here", "_law_value"] 1 (sp_law_is_way K C) := by
  refine D.good fun f fd F => ?_
  refine F.ok sc_law_is_way (fun vs H Q E h => ?_) (fun cdv A outer s H vs Q E hr h => ?_)
  · obtain ⟨t, ts, near, far, s, W, l, p, rfl, hT, hs, hl, hP, hlen, q⟩ := h
    first | rfl | (rcases h with ⟨_, _, rfl, _⟩ | ⟨_, rfl, _⟩ <;> rfl)
  obtain ⟨t, ts, near, far, s, W, l, p, rfl, hT, hs, hl, hP, hlen, q⟩ := h
  refine ⟨_, (pss_cons (ps_if (PW.pt (pw_or (pt_not (pt_val (pe_callB call_isi (by rfl) B.isinstance (by decide +kernel) (pa_cons (pv 4) (pa_cons (pe_bltn (v := .ty "list") (by rfl) B.list (by decide +kernel) rfl) pa_nil))))) (pw_or (pt_cmpR op_ne (pe_ix ix_tup (pe_ix ix_list (pv 0) (pe_ix ix_list (pv 4) pe_int (fun _ _ => rfl)) (fun _ _ => rfl)) pe_int (fun _ _ => rfl)) (pv 1) (nomark _)) (pw_or1 (pt_cmpR op_ne (pe_ix ix_tup (pe_ix ix_list (pv 0) (pe_ix ix_list (pv 4) (pe_un un_neg pe_int) (fun _ _ => rfl)) (fun _ _ => rfl)) pe_int (fun _ _ => rfl)) (pv 2) (nomark _))))))
    (pss_one (ps_ret pe_bl)) pss_nil)
  (pss_cons (ps_if (pt_val (pe_callB (cr_any rfl) (by rfl) B.any (by decide +kernel) (pa_cons (pe_lc (own := [("_law_one", 5)]) (g := gName 5) (by rfl) sc_law_is_way.nd (pi_list (pv 4)) (blkOk_by (own := [("_law_one", 5)]) (N := ["_law_ties_here", "_law_near", "_law_far", "_law_without_here", "_law_value", "_law_one", "_law_other"]) (sc := defScope s_law_is_way) (by decide +kernel)) (fun _ _ _ _ _ => (pg_name (i := 5) sc_law_is_way.nd rfl (by first | exact Or.inl rfl | exact Or.inr rfl))) (fun _ _ _ _ _ => pts_nil) (fun _ _ _ _ _ => (pe_cmpR (op_in_seqK (K := K) rfl) (pv 5) (pv 3) (by rfl)))) pa_nil)))
    (pss_one (ps_ret pe_bl)) pss_nil)
  (pss_one (ps_ret (pe_callB (cr_all rfl) (by rfl) B.all (by decide +kernel) (pa_cons (pe_lc (own := [("_law_one", 5), ("_law_other", 6)]) (g := gTup K 2 (gCons (gName 5) (gCons (gName 6) gNil))) (by rfl) sc_law_is_way.nd (pi_zip (by rfl) B.zip (pa_cons (pv 4) (pa_cons (pe_slice sl_list (pv 4) (po_some pe_int) po_none) pa_nil))) (blkOk_by (own := [("_law_one", 5), ("_law_other", 6)]) (N := ["_law_ties_here", "_law_near", "_law_far", "_law_without_here", "_law_value", "_law_one", "_law_other"]) (sc := defScope s_law_is_way) (by decide +kernel)) (fun _ _ _ _ _ => (pg_tup rfl (pgs_cons (pg_name (i := 5) sc_law_is_way.nd rfl (by first | exact Or.inl rfl | exact Or.inr rfl)) (pgs_cons (pg_name (i := 6) sc_law_is_way.nd rfl (by first | exact Or.inl rfl | exact Or.inr rfl)) pgs_nil)))) (fun _ _ _ _ _ => pts_nil) (fun _ _ _ _ _ => (pe_cmpR op_eq (pe_ix (ix_tupK (K := K) rfl) (pe_ix (ix_listK (K := K) rfl) (pv 0) (pv 5) (fun _ _ => rfl)) pe_int (fun _ _ => rfl)) (pe_ix (ix_tupK (K := K) rfl) (pe_ix (ix_listK (K := K) rfl) (pv 0) (pv 6) (fun _ _ => rfl)) pe_int (fun _ _ => rfl)) (nomark _)))) pa_nil)))))), ?_⟩
  obtain ⟨t0, v0, r0, e0, et0⟩ := pth_head hP
  obtain ⟨t1, u1, r1, e1, et1⟩ := pth_last hP
  obtain ⟨tas0, tp0, a1, a2, a3⟩ := ties_at (K := K) hT et0
  obtain ⟨tas1, tp1, b1, b2, b3⟩ := ties_at (K := K) hT et1
  have hat0 : atI (iv p) 0 = some (.int (t0 : Int)) := by rw [e0]; exact atI_nat (j := 0) rfl
  have hat1 : atI (iv p) (-1) = some (.int (t1 : Int)) := by rw [e1]; exact iv_neg1 r1 t1
  refine ⟨_, rfl, _, _, _, _, true, rfl, .ty _, .base (.lst hl), kit_ty (by decide +kernel), _, rfl, iteF ?_⟩
  refine ⟨_, rfl, _, rfl, _, _, _, .int (t0 : Int), rfl, rfl, SqL.of hl, hat0, _, _, _, .ref tp0, rfl, rfl, a1, a2, _, _, _, .int (near : Int), rfl, rfl, a3, rfl, _, rfl, rfl, _, rfl, iteNot' rfl ?_⟩
  refine ⟨_, rfl, _, rfl, _, rfl, _, _, _, .int (t1 : Int), rfl, rfl, SqL.of hl, hat1, _, _, _, .ref tp1, rfl, rfl, b1, b2, _, _, _, .int (far : Int), rfl, rfl, b3, rfl, _, rfl, rfl, _, rfl, iteNot' rfl ?_⟩
  -- any
  refine ⟨_, rfl, l, rfl, ⟨_, SqL.of hl⟩, fun D nD => ?_⟩
  refine lc_list (K := K) (a := l) (xs := iv p) (fun i H' => Same H H' ∧ H' D = some (.lst ((List.replicate i false).map V.bl))) ⟨same_new nD _, upd_same⟩ (fun i H' _ ⟨hS', _⟩ => SqL.of (hS' _ _ hl)) ?_ ?_
  · rintro i x H1 hx ⟨hS1, hD⟩
    have hi := (List.getElem?_eq_some_iff.mp hx).1
    rw [List.length_map] at hi
    rw [List.getElem?_map, List.getElem?_eq_getElem hi] at hx
    cases hx
    have hno := pth_out hP p[i] (List.getElem_mem hi)
    refine ⟨rfl, _, rfl, _, rfl, s, _, rfl, (hs.same hS1).seq, rfl, flat_iv _, _, hD, ?_, same_upd hS1 nD, ?_⟩
    · rw [List.length_map, List.length_replicate]
      exact Nat.lt_of_lt_of_le hi (Nat.le_trans hlen (by decide))
    · rw [upd_same]
      show some (HO.lst ((List.replicate i false).map V.bl ++ [V.bl (inV (V.int ((p[i] : Nat) : Int)) (iv W))])) = _
      rw [inV_iv, decide_eq_false hno, List.replicate_succ', List.map_append]
      rfl
  rintro H1 ⟨hS1, hD⟩
  refine ⟨D, _, rfl, SqL.of hD, _, rfl, ?_⟩
  have ea : (List.replicate (iv p).length false).any id = false := by simp
  rw [ea]
  refine iteF ?_
  -- all
  have hl1 := hS1 _ _ hl
  refine ⟨_, rfl, _, rfl, _, rfl, l, _, rfl, SqL.of hl1, fun sl nsl => ?_⟩
  rw [cut1]
  have hS2 : Same H (upd H1 sl (.lst ((iv p).drop 1))) := fun b o e => same_new nsl _ _ _ (hS1 _ _ e)
  have hl2 : (upd H1 sl (.lst ((iv p).drop 1))) sl = some (.lst ((iv p).drop 1)) := upd_same
  generalize upd H1 sl (.lst ((iv p).drop 1)) = H2 at hS2 hl2
  refine ⟨l, sl, _, _, rfl, SqL.of (hS2 _ _ hl), SqL.of hl2, fun D2 nD2 => ?_⟩
  have hD20 := hS2.free nD2
  have nsD : sl ≠ D2 := ne_of_none hl2 nD2
  refine lc_it (walk_zip (K := K) (a := l) (b := sl) (xs := iv p) (ys := (iv p).drop 1) (n := p.length - 1) (by rw [List.length_drop, List.length_map]; omega)) (fun i H' => Same H2 H' ∧ H' D2 = some (.lst ((List.replicate i true).map V.bl))) ⟨same_new nD2 _, upd_same⟩ (fun i H' _ ⟨hS', _⟩ => ⟨SqL.of (hS' _ _ (hS2 _ _ hl)), SqL.of (hS' _ _ hl2)⟩) ?_ ?_
  · rintro i x H3 H4 hi ⟨hS3, hD3⟩ ⟨T0, x1, x2, rfl, nT0, rfl, g1, g2⟩
    replace g1 : (iv p)[i]? = some x1 := g1
    replace g2 : ((iv p).drop 1)[i]? = some x2 := g2
    rw [List.getElem?_drop, Nat.add_comm 1 i] at g2
    have i1 : i < p.length := by omega
    have i2 : i + 1 < p.length := by omega
    rw [List.getElem?_map, List.getElem?_eq_getElem i1] at g1
    rw [List.getElem?_map, List.getElem?_eq_getElem i2] at g2
    cases g1
    cases g2
    obtain ⟨u, y, v, k1, k2⟩ := pth_step hP i _ _ (List.getElem?_eq_getElem i1) (List.getElem?_eq_getElem i2)
    have hS4 : Same H2 (upd H3 T0 (.tup [.int (p[i] : Int), .int (p[i + 1] : Int)])) := fun b o e => same_new nT0 _ _ _ (hS3 _ _ e)
    have hD4 := same_new nT0 (.tup [.int (p[i] : Int), .int (p[i + 1] : Int)]) _ _ hD3
    have hT4 : (upd H3 T0 (.tup [.int (p[i] : Int), .int (p[i + 1] : Int)])) T0 = some (.tup [.int (p[i] : Int), .int (p[i + 1] : Int)]) := upd_same
    have hTi : TiesAt (upd H3 T0 (.tup [.int (p[i] : Int), .int (p[i + 1] : Int)])) t ts := (hT.same hS2).same hS4
    obtain ⟨tas, tp, m1, m2, m3⟩ := ties_at (K := K) hTi k1
    obtain ⟨tas', tp', n1, n2, n3⟩ := ties_at (K := K) hTi k2
    refine ⟨T0, _, rfl, SqT.of hT4, rfl, _, _, rfl, _, _, rfl, rfl, rfl, ?_⟩
    refine ⟨_, rfl, _, rfl, _, _, _, .ref tp, rfl, rfl, m1, m2, _, _, _, .int (y : Int), rfl, rfl, m3, rfl, _, rfl, _, rfl, _, _, _, .ref tp', rfl, rfl, n1, n2, _, _, _, .int (y : Int), rfl, rfl, n3, rfl, rfl, _, hD4, ?_, same_upd hS4 nD2, ?_⟩
    · rw [List.length_map, List.length_replicate]
      exact Nat.lt_of_lt_of_le i1 (Nat.le_trans hlen (by decide))
    · rw [upd_same, decide_eq_true rfl, List.replicate_succ', List.map_append]
      rfl
  · rintro H3 ⟨hS3, hD3⟩
    refine ⟨D2, _, rfl, SqL.of hD3, ?_⟩
    have ea : (List.replicate (p.length - 1) true).all id = true := by simp
    rw [ea]
    exact q _ fun b o e => hS3 _ _ (hS2 _ _ e)
end
end My
namespace My
open PySem L2 PyProof.Rows
/-- all keywords, turned about -/
def gR {α : Type} : List α → List α → List α | [], ws => ws.reverse | _ :: _, _ => []
theorem gR_inv3 {α : Type} {us ws : List α} (h : (gR us ws).length = 3) : us = [] ∧ ∃ a b c, ws = [a, b, c] := by
  match us, ws, h with
  | [], [a, b, c], _ => exact ⟨rfl, a, b, c, rfl⟩
  | [], [], h => exact absurd h (by simp [gR])
  | [], [_], h => exact absurd h (by simp [gR])
  | [], [_, _], h => exact absurd h (by simp [gR])
  | [], _ :: _ :: _ :: _ :: _, h => exact absurd h (by simp [gR])
  | _ :: _, _, h => exact absurd h (by simp [gR])
theorem gR_inv4 {α : Type} {us ws : List α} (h : (gR us ws).length = 4) : us = [] ∧ ∃ a b c d, ws = [a, b, c, d] := by
  match us, ws, h with
  | [], [a, b, c, d], _ => exact ⟨rfl, a, b, c, d, rfl⟩
  | [], [], h => exact absurd h (by simp [gR])
  | [], [_], h => exact absurd h (by simp [gR])
  | [], [_, _], h => exact absurd h (by simp [gR])
  | [], [_, _, _], h => exact absurd h (by simp [gR])
  | [], _ :: _ :: _ :: _ :: _ :: _, h => exact absurd h (by simp [gR])
  | _ :: _, _, h => exact absurd h (by simp [gR])
theorem relR {vs : List V} {us : List Value} {zs : List V} {ws : List Value} (a : Vals vs us) (b : Vals zs ws) : Vals (gR vs zs) (gR us ws) := by
  cases a with
  | nil => exact paired_rev b
  | cons r a => exact .nil
theorem edge_rev (ts : List (Nat × Nat)) (W : List Nat) : Edge ts W.reverse = Edge ts W := by
  funext u v
  apply propext
  constructor
  · rintro ⟨i, h, n⟩
    exact ⟨i, h, fun z => n (List.mem_reverse.mpr z)⟩
  · rintro ⟨i, h, n⟩
    exact ⟨i, h, fun z => n (List.mem_reverse.mp z)⟩
theorem few_noway {ts : List (Nat × Nat)} {W : List Nat} {a b D : Nat} (h : Few (Edge ts W) a b D) (k : NoWay ts W a b) : False := k D h.1 h.2.1
section
variable {P : Program} {w : World} {K : PySem.W.Frag} {mg : Str → Option Value} {base : Heap} {C : Addr}
def sp_law_right (_ : PySem.W.Frag) (_ : Addr) : Sp := fun vs H Q _ => ∃ a, vs = [.ref a] ∧ PotAt H a ∧ ∀ H', Q (.bl true) H'
theorem ok_law_right (D : Def K mg "_law_right" s_law_right ["_law_pot_here"]) (B : Bs mg) (Glb : Glo mg) (WK : WebK K mg C)
    (h_law_made : Good P w K mg base "_law_made" s_law_made ["_law_pot_here"] 3 (sp_law_made K C))
    (hway : Good P w K mg base "way" sway ["web", "near", "far", "without"] 7 (spway K C))
    (h_law_fewest : Good P w K mg base "_law_fewest" s_law_fewest ["_law_ties_here", "_law_near", "_law_far", "_law_without_here"] 1 (sp_law_fewest K C))
    (h_law_without : Good P w K mg base "_law_without" s_law_without ["_law_pot_here", "_law_ties_here"] 2 (sp_law_without K C))
    (hreach : Good P w K mg base "reach" sreach ["web", "place", "without"] 6 (spreach K C))
    (h_law_reach : Good P w K mg base "_law_reach" s_law_reach ["_law_ties_here", "_law_place", "_law_without_here"] 1 (sp_law_reach K C))
    (h_law_is_way : Good P w K mg base "_law_is_way" s_law_is_way ["_law_ties_here", "_law_near", "_law_far", "_law_without_here", "_law_value"] 1 (sp_law_is_way K C))
    (hWeb___init__ : GoodI P w K mg base C "__init__" "Web.__init__" sWeb___init__ ["self", "places", "ties"] 5 (spWeb___init__ K C)) :
    Good P w K mg base "_law_right" s_law_right ["_law_pot_here"] 8 (sp_law_right K C) := by
  refine D.good fun f fd F => ?_
  obtain ⟨f_law_made, d_law_made, O_law_made, m_law_made, k_law_made, b_law_made, F_law_made⟩ := h_law_made
  obtain ⟨fway, dway, Oway, mway, kway, bway, Fway⟩ := hway
  obtain ⟨f_law_fewest, d_law_fewest, O_law_fewest, m_law_fewest, k_law_fewest, b_law_fewest, F_law_fewest⟩ := h_law_fewest
  obtain ⟨f_law_without, d_law_without, O_law_without, m_law_without, k_law_without, b_law_without, F_law_without⟩ := h_law_without
  obtain ⟨freach, dreach, Oreach, mreach, kreach, breach, Freach⟩ := hreach
  obtain ⟨f_law_reach, d_law_reach, O_law_reach, m_law_reach, k_law_reach, b_law_reach, F_law_reach⟩ := h_law_reach
  obtain ⟨f_law_is_way, d_law_is_way, O_law_is_way, m_law_is_way, k_law_is_way, b_law_is_way, F_law_is_way⟩ := h_law_is_way
  obtain ⟨fWeb___init__, dWeb___init__, OWeb___init__, MK, bWeb___init__⟩ := hWeb___init__
  have kb_reach_without_place_web : KBinds K dreach ["web", "place", "without"] ["without", "place", "web"] gR gR := fun_kbinds Freach gR gR relR (fun _ _ _ _ _ _ us ws hl => by
    obtain ⟨rfl, a0, a1, a2, rfl⟩ := gR_inv3 hl
    rfl)
  have kb_way_without_far_near_web : KBinds K dway ["web", "near", "far", "without"] ["without", "far", "near", "web"] gR gR := fun_kbinds Fway gR gR relR (fun _ _ _ _ _ _ us ws hl => by
    obtain ⟨rfl, a0, a1, a2, a3, rfl⟩ := gR_inv4 hl
    rfl)
  refine F.ok sc_law_right (fun vs H Q E h => ?_) (fun cdv A outer s H vs Q E hr h => ?_)
  · obtain ⟨a, rfl, hp, q⟩ := h
    first | rfl | (rcases h with ⟨_, _, rfl, _⟩ | ⟨_, rfl, _⟩ <;> rfl)
  obtain ⟨a, rfl, hp, q⟩ := h
  refine ⟨_, (pss_cons (ps_asg (pe_call O_law_made (hr.mono (by decide)) rfl m_law_made k_law_made b_law_made .nil pass0 (pa_cons (pv 0) pa_nil)) (pg_tup rfl (pgs_cons (pg_name (i := 1) sc_law_right.nd rfl (by first | exact Or.inl rfl | exact Or.inr rfl)) (pgs_cons (pg_name (i := 2) sc_law_right.nd rfl (by first | exact Or.inl rfl | exact Or.inr rfl)) pgs_nil))))
  (pss_cons (ps_set (i := 3) sc_law_right.nd rfl (by first | exact Or.inl rfl | exact Or.inr rfl) (pe_make MK OWeb___init__ (hr.mono (by decide)) rfl WK.mgC bWeb___init__ .nil pass0 (pa_cons (pv 1) (pa_cons (pv 2) pa_nil))))
  (pss_cons (ps_for PassesOwn.never rfl (pi_range1 (by rfl) B.range (pa_cons (pv 1) pa_nil)) (pg_name (i := 4) sc_law_right.nd rfl (by first | exact Or.inl rfl | exact Or.inr rfl))
    (pss_cons (ps_set (i := 5) sc_law_right.nd rfl (by first | exact Or.inl rfl | exact Or.inr rfl) (pe_call O_law_without (hr.mono (by decide)) rfl m_law_without k_law_without b_law_without .nil pass0 (pa_cons (pv 0) (pa_cons (pv 2) pa_nil))))
  (pss_cons (ps_if (pt_cmpR (op_neD hr.units) (pe_call Oreach (hr.mono (by decide)) rfl mreach kreach breach .nil pass0 (pa_cons (pv 3) (pa_cons (pv 4) (pa_cons (pv 5) pa_nil)))) (pe_call O_law_reach (hr.mono (by decide)) rfl m_law_reach k_law_reach b_law_reach .nil pass0 (pa_cons (pv 2) (pa_cons (pv 4) (pa_cons (pv 5) pa_nil)))) (nomark _))
    (pss_one (ps_ret pe_bl)) pss_nil)
  (pss_cons (ps_if (pt_cmpR (op_neD hr.units) (pe_callKK Oreach (hr.mono (by decide)) (by rfl) mreach kreach kb_reach_without_place_web pass0 (pk_cons (pe_callTy call_tuple_of (by rfl) B.tuple (by decide +kernel) (pa_cons (pe_revL (pv 5)) pa_nil)) (pk_cons (pv 4) (pk_cons (pv 3) pk_nil)))) (pe_call Oreach (hr.mono (by decide)) rfl mreach kreach breach .nil pass0 (pa_cons (pv 3) (pa_cons (pv 4) (pa_cons (pv 5) pa_nil)))) (nomark _))
    (pss_one (ps_ret pe_bl)) pss_nil)
  (pss_one (ps_for PassesOwn.never rfl (pi_range1 (by rfl) B.range (pa_cons (pv 1) pa_nil)) (pg_name (i := 6) sc_law_right.nd rfl (by first | exact Or.inl rfl | exact Or.inr rfl))
    (pss_cons (ps_set (i := 7) sc_law_right.nd rfl (by first | exact Or.inl rfl | exact Or.inr rfl) (pe_call O_law_fewest (hr.mono (by decide)) rfl m_law_fewest k_law_fewest b_law_fewest .nil pass0 (pa_cons (pv 2) (pa_cons (pv 4) (pa_cons (pv 6) (pa_cons (pv 5) pa_nil))))))
  (pss_cons (ps_set (i := 8) sc_law_right.nd rfl (by first | exact Or.inl rfl | exact Or.inr rfl) (pe_call Oway hr rfl mway kway bway .nil pass0 (pa_cons (pv 3) (pa_cons (pv 4) (pa_cons (pv 6) (pa_cons (pv 5) pa_nil))))))
  (pss_cons (ps_if (PW.pt (pw_or (PW.pt (pw_and (pt_cmpR op_isN (pv 7) pe_non (nomark _)) (pw_and1 (pt_cmpR op_notN (pv 8) pe_non (nomark _))))) (pw_or1 (PW.pt (pw_and (pt_cmpR op_notN (pv 7) pe_non (nomark _)) (pw_and1 (pt_cmpR op_isN (pv 8) pe_non (nomark _))))))))
    (pss_one (ps_ret pe_bl)) pss_nil)
  (pss_cons (ps_if (PW.pt (pw_and (pt_cmpR op_notN (pv 7) pe_non (nomark _)) (pw_and1 (pt_cmpR op_ne (pe_callB call_len_seq (by rfl) B.len (by decide +kernel) (pa_cons (pv 8) pa_nil)) (pv 7) (nomark _)))))
    (pss_one (ps_ret pe_bl)) pss_nil)
  (pss_one (ps_if (PW.pt (pw_and (pt_cmpR op_notN (pv 7) pe_non (nomark _)) (pw_and1 (pt_not (pt_val (pe_call O_law_is_way (hr.mono (by decide)) rfl m_law_is_way k_law_is_way b_law_is_way .nil pass0 (pa_cons (pv 2) (pa_cons (pv 4) (pa_cons (pv 6) (pa_cons (pv 5) (pa_cons (pv 8) pa_nil)))))))))))
    (pss_one (ps_ret pe_bl)) pss_nil))))))))))))
  (pss_cons (ps_set (i := 8) sc_law_right.nd rfl (by first | exact Or.inl rfl | exact Or.inr rfl) (pe_callKK Oway hr (by rfl) mway kway kb_way_without_far_near_web pass0 (pk_cons (pe_tup pa_nil) (pk_cons pe_int (pk_cons pe_int (pk_cons (pv 3) pk_nil))))))
  (pss_cons (ps_set (i := 7) sc_law_right.nd rfl (by first | exact Or.inl rfl | exact Or.inr rfl) (pe_call O_law_fewest (hr.mono (by decide)) rfl m_law_fewest k_law_fewest b_law_fewest .nil pass0 (pa_cons (pv 2) (pa_cons pe_int (pa_cons pe_int (pa_cons (pe_lst pa_nil) pa_nil))))))
  (pss_one (ps_ret (pe_ifExp (pt_cmpR op_isN (pv 7) pe_non (nomark _)) (pe_cmpR op_isN (pv 8) pe_non (nomark _)) (pe_cmpR op_eq (pe_callB call_len_seq (by rfl) B.len (by decide +kernel) (pa_cons (pv 8) pa_nil)) (pv 7) (nomark _)))))))))), ?_⟩
  refine ⟨_, rfl, a, rfl, hp, fun t l N ts H1 hk1 hp1 ht hT ho hla => ?_⟩
  refine ⟨t, _, rfl, SqT.of ht, rfl, _, _, rfl, _, _, rfl, rfl, ?_⟩
  refine ⟨_, rfl, _, rfl, fun x dx nx ndx ndxx => ?_⟩
  have hS01 : Same H1 (upd (upd H1 dx (.own x)) x (.ins C dx [])) := fun b o e => by
    rw [upd_ne (ne_of_none e nx), upd_ne (ne_of_none e ndx)]
    exact e
  refine ⟨x, dx, N, l, ts, rfl, ho, hT.same hS01, upd_same, fun H2 hk2 hw2 => ⟨rfl, ?_⟩⟩
  have hS2 : Same H1 H2 := fun b o e => hk2 _ _ (hS01 _ _ e) (ne_of_none e nx)
  have hN := ho.n1
  have hm := ho.m
  have hp2 := hp1.same hS2
  have hT2 := hT.same hS2
  have hWs : Same (Sub (upd (upd H1 dx (.own x)) x (.ins C dx [])) H2 x) H2 := Sub.same
  have hWa : Sub (upd (upd H1 dx (.own x)) x (.ins C dx [])) H2 x a = none := by
    obtain ⟨y, z, e, _⟩ := hp1
    exact Sub.none (hS01 _ _ e) (ne_of_none e nx) (hS2 _ _ e)
  generalize Sub (upd (upd H1 dx (.own x)) x (.ins C dx [])) H2 x = Hw at hw2 hWs hWa
  have keep : ∀ {H' H'' : Hp}, Same Hw H' → Kept a H' H'' → Same Hw H'' := fun h k b o e => k _ _ (h _ _ e) (fun z => by rw [z, hWa] at e; cases e)
  refine ⟨_, rfl, _, rfl, by omega, by omega, ?_⟩
  refine for_range (lo := 0) (n := N) (fun i σ H' => ∃ (v4 v5 v6 v7 v8 : Option V), σ = [some (.ref a), some (.int (N : Int)), some (.ref l), some (.ref x), v4, v5, v6, v7, v8] ∧ PotAt H' a ∧ Same Hw H' ∧ TiesAt H' l ts) ⟨none, none, none, none, none, rfl, hp2, hWs, hT2⟩ ?_ ?_
  · rintro i σ H3 hi ⟨v4, v5, v6, v7, v8, rfl, hp3, hw3, hT3⟩
    rw [Int.zero_add]
    refine ⟨_, rfl, _, rfl, a, l, ts, rfl, hp3, hT3, hla, hm, fun wl W H4 hW hWl hk4 hp4 nwl hwl => ?_⟩
    have hw4 := keep hw3 hk4
    have hT4 := hT3.kept hk4 hp3 hla
    refine ⟨_, rfl, _, rfl, _, rfl, x, N, ts, i, wl, W, rfl, hw2.same hw4, ho, hi, .inl hwl, hW, fun H5 r1 R1 nr1 hr1 hS5 hR1 => ?_⟩
    refine ⟨_, rfl, _, rfl, _, rfl, l, ts, i, wl, W, N, rfl, hT4.same hS5, ho, hi, .inl (hS5 _ _ hwl), fun H6 r2 R2 nr2 hr2 hS6 hR2 => ?_⟩
    have eR := hR1.unique hR2
    subst eR
    refine ⟨_, _, dp_iz (hS6 _ _ hr1), dp_iz hr2, shaped_iz _, shaped_iz _, _, rfl, ?_⟩
    refine iteNb (eqv_same R1) ?_
    have hS46 := hS5.trans hS6
    have hwl6 := hS46 _ _ hwl
    have hw6 : Same Hw H6 := hw4.trans hS46
    refine ⟨_, rfl, wl, _, rfl, SqL.of hwl6, fun rv nrv => ⟨rv, _, rfl, .inl ⟨SqL.of upd_same, fun tp ntp => ?_⟩⟩⟩
    have hS8 : Same H6 (upd (upd H6 rv (.lst (iv W).reverse)) tp (.tup (iv W).reverse)) := fun b o e => same_new ntp _ _ _ (same_new nrv _ _ _ e)
    have htp8 : (upd (upd H6 rv (.lst (iv W).reverse)) tp (.tup (iv W).reverse)) tp = some (.tup (iv W.reverse)) := by
      rw [upd_same, iv, iv, List.map_reverse]
    generalize upd (upd H6 rv (.lst (iv W).reverse)) tp (.tup (iv W).reverse) = H8 at hS8 htp8
    refine ⟨_, rfl, _, rfl, x, N, ts, i, tp, W.reverse, rfl, hw2.same (hw6.trans hS8), ho, hi, .inr htp8, fun z hz => hW z (List.mem_reverse.mp hz), fun H9 r3 R3 nr3 hr3 hS9 hR3 => ?_⟩
    rw [edge_rev] at hR3
    have hS69 := hS8.trans hS9
    refine ⟨_, rfl, _, rfl, _, rfl, x, N, ts, i, wl, W, rfl, hw2.same (hw6.trans hS69), ho, hi, .inl (hS69 _ _ hwl6), hW, fun H10 r4 R4 nr4 hr4 hS10 hR4 => ?_⟩
    have eR := hR3.unique hR4
    subst eR
    refine ⟨_, _, dp_iz (hS10 _ _ hr3), dp_iz hr4, shaped_iz _, shaped_iz _, _, rfl, ?_⟩
    refine iteNb (eqv_same R3) ?_
    have hS410 := hS46.trans (hS69.trans hS10)
    have hw10 : Same Hw H10 := hw4.trans hS410
    have hp10 := hp4.same hS410
    have hT10 := hT4.same hS410
    have hwl10 := hS410 _ _ hwl
    refine ⟨_, rfl, _, rfl, by omega, by omega, ?_⟩
    refine for_range (lo := 0) (n := N) (fun j σ H' => ∃ (v6 v7 v8 : Option V), σ = [some (.ref a), some (.int (N : Int)), some (.ref l), some (.ref x), some (.int (i : Int)), some (.ref wl), v6, v7, v8] ∧ Same H10 H') ⟨v6, v7, v8, rfl, fun _ _ e => e⟩ ?_ ?_
    · rintro j σ H11 hj ⟨v6, v7, v8, rfl, hS11⟩
      rw [Int.zero_add]
      refine ⟨_, rfl, _, rfl, _, rfl, _, rfl, l, ts, i, j, wl, W, N, rfl, hT10.same hS11, ho, hi, .inl (hS11 _ _ hwl10), fun H12 D hS12 hF => ?_, fun H12 hS12 hNo => ?_⟩
      · have hS112 := hS11.trans hS12
        refine ⟨_, rfl, _, rfl, _, rfl, _, rfl, x, N, ts, i, j, wl, W, rfl, hw2.same (hw10.trans hS112), ho, hi, hj, .inl (hS112 _ _ hwl10), hW, fun H13 pl p npl hS13 hpl hP hF2 hple => ?_, fun H13 hS13 hNo => (few_noway hF hNo).elim⟩
        have eD : p.length = D := few_unique hF2 hF
        have hS113 := hS112.trans hS13
        refine ⟨_, rfl, rfl, _, rfl, iteNo (by intro h; cases h) (iteF ?_)⟩
        refine ⟨_, rfl, rfl, _, rfl, iteNot (by intro h; cases h) ?_⟩
        refine ⟨_, rfl, rfl, _, rfl, iteNo (by intro h; cases h) ?_⟩
        refine ⟨_, rfl, rfl, _, rfl, iteNot (by intro h; cases h) ?_⟩
        refine ⟨_, rfl, pl, _, rfl, .inl (SqL.of hpl), _, rfl, rfl, _, rfl, iteNot' (int_eq.mpr (by rw [List.length_map, eD])) ?_⟩
        refine ⟨_, rfl, rfl, _, rfl, iteNot (by intro h; cases h) ?_⟩
        exact ⟨_, rfl, _, rfl, _, rfl, _, rfl, _, rfl, l, ts, i, j, wl, W, pl, p, rfl, hT10.same hS113, .inl (hS113 _ _ hwl10), hpl, hP, hple, fun H14 hS14 => ⟨_, rfl, iteF ⟨_, _, _, rfl, hS113.trans hS14⟩⟩⟩
      · have hS112 := hS11.trans hS12
        refine ⟨_, rfl, _, rfl, _, rfl, _, rfl, x, N, ts, i, j, wl, W, rfl, hw2.same (hw10.trans hS112), ho, hi, hj, .inl (hS112 _ _ hwl10), hW, fun H13 pl p npl hS13 hpl hP hF2 hple => (few_noway hF2 hNo).elim, fun H13 hS13 _ => ?_⟩
        refine ⟨_, rfl, rfl, _, rfl, iteYes rfl ?_⟩
        refine ⟨_, rfl, rfl, _, rfl, iteNot' rfl ?_⟩
        refine ⟨_, rfl, rfl, _, rfl, iteNot' rfl (iteF ?_)⟩
        refine ⟨_, rfl, rfl, _, rfl, iteNot' rfl (iteF ?_)⟩
        refine ⟨_, rfl, rfl, _, rfl, iteNot' rfl (iteF ?_)⟩
        exact ⟨_, _, _, rfl, hS112.trans hS13⟩
    · rintro σ H11 ⟨v6, v7, v8, rfl, hS11⟩
      exact ⟨_, _, _, _, _, rfl, hp10.same hS11, hw10.trans hS11, hT10.same hS11⟩
  · rintro σ H3 ⟨v4, v5, v6, v7, v8, rfl, hp3, hw3, hT3⟩
    refine ⟨Nat.zero_le _, fun tp ntp => ⟨_, rfl, ?_⟩⟩
    have hS4 := same_new ntp (.tup [])
    have htp4 : upd H3 tp (.tup []) tp = some (.tup (iv [])) := upd_same
    generalize upd H3 tp (.tup []) = H4 at hS4 htp4
    refine ⟨x, N, ts, 0, 0, tp, [], rfl, hw2.same (hw3.trans hS4), ho, ho.n0, ho.n0, .inr htp4, by simp, fun H5 pl p npl hS5 hpl hP hF hple => ?_, fun H5 hS5 hNo => ?_⟩
    · refine ⟨_, rfl, Nat.zero_le _, fun el nel => ?_⟩
      have hS6 := same_new nel (.lst [])
      have hel : upd H5 el (.lst []) el = some (.lst (iv [])) := upd_same
      generalize upd H5 el (.lst []) = H6 at hS6 hel
      refine ⟨l, ts, 0, 0, el, [], N, rfl, ((hT3.same hS4).same hS5).same hS6, ho, ho.n0, .inl hel, fun H7 D hS7 hF2 => ?_, fun H7 hS7 hNo => (few_noway hF hNo).elim⟩
      refine ⟨_, rfl, rfl, _, rfl, iteNo (by intro h; cases h) ?_⟩
      refine ⟨_, rfl, pl, _, rfl, .inl (SqL.of (hS7 _ _ (hS6 _ _ hpl))), _, rfl, rfl, ?_⟩
      refine bl_true (int_eq.mpr (by rw [List.length_map, few_unique hF hF2])) (q _)
    · refine ⟨_, rfl, Nat.zero_le _, fun el nel => ?_⟩
      have hS6 := same_new nel (.lst [])
      have hel : upd H5 el (.lst []) el = some (.lst (iv [])) := upd_same
      generalize upd H5 el (.lst []) = H6 at hS6 hel
      refine ⟨l, ts, 0, 0, el, [], N, rfl, ((hT3.same hS4).same hS5).same hS6, ho, ho.n0, .inl hel, fun H7 D hS7 hF2 => (few_noway hF2 hNo).elim, fun H7 hS7 _ => ?_⟩
      exact ⟨_, rfl, rfl, _, rfl, iteYes rfl ⟨_, rfl, rfl, q _⟩⟩
def splaw (K : PySem.W.Frag) (_ : Addr) : Sp := fun vs H Q _ => ∃ a, ∃ ns : List Int, vs = [.ref a] ∧ SqL K H a (ns.map V.int) ∧ ns.length ≤ 63 ∧ ∀ H', Q (.bl true) H'
theorem oklaw (D : Def K mg "law" slaw ["_law_script"]) (B : Bs mg) (Glb : Glo mg) (WK : WebK K mg C)
    (h_law_right : Good P w K mg base "_law_right" s_law_right ["_law_pot_here"] 8 (sp_law_right K C))
    (h_law_pot : Good P w K mg base "_law_pot" s_law_pot ["_law_script", "_law_k"] 1 (sp_law_pot K C)) :
    Good P w K mg base "law" slaw ["_law_script"] 9 (splaw K C) := by
  refine D.good fun f fd F => ?_
  obtain ⟨f_law_right, d_law_right, O_law_right, m_law_right, k_law_right, b_law_right, F_law_right⟩ := h_law_right
  obtain ⟨f_law_pot, d_law_pot, O_law_pot, m_law_pot, k_law_pot, b_law_pot, F_law_pot⟩ := h_law_pot
  refine F.ok sclaw (fun vs H Q E h => ?_) (fun cdv A outer s H vs Q E hr h => ?_)
  · obtain ⟨sa, ns, rfl, hs, h63, q⟩ := h
    first | rfl | (rcases h with ⟨_, _, rfl, _⟩ | ⟨_, rfl, _⟩ <;> rfl)
  obtain ⟨sa, ns, rfl, hs, h63, q⟩ := h
  refine ⟨_, (pss_one (ps_ret (pe_call O_law_right hr rfl m_law_right k_law_right b_law_right .nil pass0 (pa_cons (pe_call O_law_pot (hr.mono (by decide)) rfl m_law_pot k_law_pot b_law_pot .nil pass0 (pa_cons (pv 0) (pa_cons pe_int pa_nil))) pa_nil)))), ?_⟩
  exact ⟨_, rfl, sa, ns, rfl, hs, fun p H1 hp hS np => ⟨p, rfl, hp, q⟩⟩
end
end My
namespace My
open PySem L2 PyProof.Rows
/-! ### the end -/
theorem fd_is {K : PySem.W.Frag} {x : Str} {st : Stmt} {f : Addr} {fd fe : FuncData} {oc : Value} {od : Option Addr} {sl : Array (Option Value)} (F : Fun K x x st f fd) (l : K.lookup f = some ⟨oc, od, .func fe, sl⟩) : fd = fe := by
  obtain ⟨oc2, od2, kV, doc, pm, an, cdv, ct, osl, e, lk, c⟩ := F.ex
  rw [lk] at l
  have := Option.some.inj l
  injection this with _ _ h3 _
  injection h3
theorem all_mk {l : PySem.W.OpenLaw} {w : World} {K : PySem.W.Frag} {h : Heap} {mg : Str → Option Value} {fa C : Addr} (X : K.In h) (G : h.Ns mainGlobals mg) (hfa : mg "law" = some (.ref fa))
    {fM0 : Addr} {odM0 anM0 : Option Addr} {slM0 : Array (Option Value)} {ocM0 kVM0 dcM0 pmM0 cdM0 ctM0 : Value} {fM1 : Addr} {odM1 anM1 : Option Addr} {slM1 : Array (Option Value)} {ocM1 kVM1 dcM1 pmM1 cdM1 ctM1 : Value} {pM1 : Addr} {rsM1 : List Value} {fM2 : Addr} {odM2 anM2 : Option Addr} {slM2 : Array (Option Value)} {ocM2 kVM2 dcM2 pmM2 cdM2 ctM2 : Value} {pM2 : Addr} {rsM2 : List Value} {fM3 : Addr} {odM3 anM3 : Option Addr} {slM3 : Array (Option Value)} {ocM3 kVM3 dcM3 pmM3 cdM3 ctM3 : Value} {fM4 : Addr} {odM4 anM4 : Option Addr} {slM4 : Array (Option Value)} {ocM4 kVM4 dcM4 pmM4 cdM4 ctM4 : Value} {f0 : Addr} {od0 an0 : Option Addr} {sl0 : Array (Option Value)} {oc0 kV0 dc0 pm0 cd0 ct0 : Value} {f1 : Addr} {od1 an1 : Option Addr} {sl1 : Array (Option Value)} {oc1 kV1 dc1 pm1 cd1 ct1 : Value} {f2 : Addr} {od2 an2 : Option Addr} {sl2 : Array (Option Value)} {oc2 kV2 dc2 pm2 cd2 ct2 : Value} {f3 : Addr} {od3 an3 : Option Addr} {sl3 : Array (Option Value)} {oc3 kV3 dc3 pm3 cd3 ct3 : Value} {f4 : Addr} {od4 an4 : Option Addr} {sl4 : Array (Option Value)} {oc4 kV4 dc4 pm4 cd4 ct4 : Value} {f5 : Addr} {od5 an5 : Option Addr} {sl5 : Array (Option Value)} {oc5 kV5 dc5 pm5 cd5 ct5 : Value} {f6 : Addr} {od6 an6 : Option Addr} {sl6 : Array (Option Value)} {oc6 kV6 dc6 pm6 cd6 ct6 : Value} {f7 : Addr} {od7 an7 : Option Addr} {sl7 : Array (Option Value)} {oc7 kV7 dc7 pm7 cd7 ct7 : Value} {f8 : Addr} {od8 an8 : Option Addr} {sl8 : Array (Option Value)} {oc8 kV8 dc8 pm8 cd8 ct8 : Value} {f9 : Addr} {od9 an9 : Option Addr} {sl9 : Array (Option Value)} {oc9 kV9 dc9 pm9 cd9 ct9 : Value} {f10 : Addr} {od10 an10 : Option Addr} {sl10 : Array (Option Value)} {oc10 kV10 dc10 pm10 cd10 ct10 : Value} {f11 : Addr} {od11 an11 : Option Addr} {sl11 : Array (Option Value)} {oc11 kV11 dc11 pm11 cd11 ct11 : Value} {f12 : Addr} {od12 an12 : Option Addr} {sl12 : Array (Option Value)} {oc12 kV12 dc12 pm12 cd12 ct12 : Value} {f13 : Addr} {od13 an13 : Option Addr} {sl13 : Array (Option Value)} {oc13 kV13 dc13 pm13 cd13 ct13 : Value} {f14 : Addr} {od14 an14 : Option Addr} {sl14 : Array (Option Value)} {oc14 kV14 dc14 pm14 cd14 ct14 : Value} {f15 : Addr} {od15 an15 : Option Addr} {sl15 : Array (Option Value)} {oc15 kV15 dc15 pm15 cd15 ct15 : Value} {f16 : Addr} {od16 an16 : Option Addr} {sl16 : Array (Option Value)} {oc16 kV16 dc16 pm16 cd16 ct16 : Value} {f17 : Addr} {od17 an17 : Option Addr} {sl17 : Array (Option Value)} {oc17 kV17 dc17 pm17 cd17 ct17 : Value} {f18 : Addr} {od18 an18 : Option Addr} {sl18 : Array (Option Value)} {oc18 kV18 dc18 pm18 cd18 ct18 : Value} {f19 : Addr} {od19 an19 : Option Addr} {sl19 : Array (Option Value)} {oc19 kV19 dc19 pm19 cd19 ct19 : Value} {f20 : Addr} {od20 an20 : Option Addr} {sl20 : Array (Option Value)} {oc20 kV20 dc20 pm20 cd20 ct20 : Value} {f21 : Addr} {od21 an21 : Option Addr} {sl21 : Array (Option Value)} {oc21 kV21 dc21 pm21 cd21 ct21 : Value} {f22 : Addr} {od22 an22 : Option Addr} {sl22 : Array (Option Value)} {oc22 kV22 dc22 pm22 cd22 ct22 : Value} {f23 : Addr} {od23 an23 : Option Addr} {sl23 : Array (Option Value)} {oc23 kV23 dc23 pm23 cd23 ct23 : Value} {f24 : Addr} {od24 an24 : Option Addr} {sl24 : Array (Option Value)} {oc24 kV24 dc24 pm24 cd24 ct24 : Value} {t0 : Tok} {t1 : Tok}
    (aC : PySem.W.nsIn K mainGlobals "Web" = some (some (.ref C)))
    (aM0 : PySem.W.findIn K (.ref C) "__init__" = some (some (.ref fM0))) (iM0 : PySem.W.isFn K (.ref fM0) = true) (lM0 : K.lookup fM0 = some ⟨ocM0, odM0, .func (PySem.W.fnOf "__init__" "Web.__init__" (defArgs sWeb___init__) (defBody sWeb___init__) (defScope sWeb___init__) .none kVM0 dcM0 pmM0 anM0 cdM0 ctM0), slM0⟩) (cM0 : PySem.W.codeIn K cdM0 "Web.__init__" = true) (kM0 : PySem.W.keepIn K (.ref fM0) = true)
    (aM1 : PySem.W.findIn K (.ref C) "places" = some (some (.ref pM1))) (gM1 : PySem.W.specialIn K (.ref pM1) "__get__" = some (some (.builtin "property.__get__"))) (tM1 : PySem.W.takesIn K (.ref pM1) = some true) (rM1 : PySem.W.recIn K pM1 "property" = some (.ref fM1 :: rsM1)) (lM1 : K.lookup fM1 = some ⟨ocM1, odM1, .func (PySem.W.fnOf "places" "Web.places" (defArgs sWeb_places) (defBody sWeb_places) (defScope sWeb_places) .none kVM1 dcM1 pmM1 anM1 cdM1 ctM1), slM1⟩) (cM1 : PySem.W.codeIn K cdM1 "Web.places" = true) (kM1 : PySem.W.keepIn K (.ref fM1) = true)
    (aM2 : PySem.W.findIn K (.ref C) "many" = some (some (.ref pM2))) (gM2 : PySem.W.specialIn K (.ref pM2) "__get__" = some (some (.builtin "property.__get__"))) (tM2 : PySem.W.takesIn K (.ref pM2) = some true) (rM2 : PySem.W.recIn K pM2 "property" = some (.ref fM2 :: rsM2)) (lM2 : K.lookup fM2 = some ⟨ocM2, odM2, .func (PySem.W.fnOf "many" "Web.many" (defArgs sWeb_many) (defBody sWeb_many) (defScope sWeb_many) .none kVM2 dcM2 pmM2 anM2 cdM2 ctM2), slM2⟩) (cM2 : PySem.W.codeIn K cdM2 "Web.many" = true) (kM2 : PySem.W.keepIn K (.ref fM2) = true)
    (aM3 : PySem.W.findIn K (.ref C) "ties" = some (some (.ref fM3))) (iM3 : PySem.W.isFn K (.ref fM3) = true) (lM3 : K.lookup fM3 = some ⟨ocM3, odM3, .func (PySem.W.fnOf "ties" "Web.ties" (defArgs sWeb_ties) (defBody sWeb_ties) (defScope sWeb_ties) .none kVM3 dcM3 pmM3 anM3 cdM3 ctM3), slM3⟩) (cM3 : PySem.W.codeIn K cdM3 "Web.ties" = true) (kM3 : PySem.W.keepIn K (.ref fM3) = true)
    (aM4 : PySem.W.findIn K (.ref C) "ties_from" = some (some (.ref fM4))) (iM4 : PySem.W.isFn K (.ref fM4) = true) (lM4 : K.lookup fM4 = some ⟨ocM4, odM4, .func (PySem.W.fnOf "ties_from" "Web.ties_from" (defArgs sWeb_ties_from) (defBody sWeb_ties_from) (defScope sWeb_ties_from) .none kVM4 dcM4 pmM4 anM4 cdM4 ctM4), slM4⟩) (cM4 : PySem.W.codeIn K cdM4 "Web.ties_from" = true) (kM4 : PySem.W.keepIn K (.ref fM4) = true)
    (a0 : PySem.W.nsIn K mainGlobals "is_integer" = some (some (.ref f0))) (l0 : K.lookup f0 = some ⟨oc0, od0, .func (PySem.W.fnOf "is_integer" "is_integer" (defArgs sis_integer) (defBody sis_integer) (defScope sis_integer) .none kV0 dc0 pm0 an0 cd0 ct0), sl0⟩) (c0 : PySem.W.codeIn K cd0 "is_integer" = true) (k0 : PySem.W.keepIn K (.ref f0) = true)
    (a1 : PySem.W.nsIn K mainGlobals "is_count" = some (some (.ref f1))) (l1 : K.lookup f1 = some ⟨oc1, od1, .func (PySem.W.fnOf "is_count" "is_count" (defArgs sis_count) (defBody sis_count) (defScope sis_count) .none kV1 dc1 pm1 an1 cd1 ct1), sl1⟩) (c1 : PySem.W.codeIn K cd1 "is_count" = true) (k1 : PySem.W.keepIn K (.ref f1) = true)
    (a2 : PySem.W.nsIn K mainGlobals "is_between" = some (some (.ref f2))) (l2 : K.lookup f2 = some ⟨oc2, od2, .func (PySem.W.fnOf "is_between" "is_between" (defArgs sis_between) (defBody sis_between) (defScope sis_between) .none kV2 dc2 pm2 an2 cd2 ct2), sl2⟩) (c2 : PySem.W.codeIn K cd2 "is_between" = true) (k2 : PySem.W.keepIn K (.ref f2) = true)
    (a3 : PySem.W.nsIn K mainGlobals "is_below" = some (some (.ref f3))) (l3 : K.lookup f3 = some ⟨oc3, od3, .func (PySem.W.fnOf "is_below" "is_below" (defArgs sis_below) (defBody sis_below) (defScope sis_below) .none kV3 dc3 pm3 an3 cd3 ct3), sl3⟩) (c3 : PySem.W.codeIn K cd3 "is_below" = true) (k3 : PySem.W.keepIn K (.ref f3) = true)
    (a4 : PySem.W.nsIn K mainGlobals "is_listed" = some (some (.ref f4))) (l4 : K.lookup f4 = some ⟨oc4, od4, .func (PySem.W.fnOf "is_listed" "is_listed" (defArgs sis_listed) (defBody sis_listed) (defScope sis_listed) .none kV4 dc4 pm4 an4 cd4 ct4), sl4⟩) (c4 : PySem.W.codeIn K cd4 "is_listed" = true) (k4 : PySem.W.keepIn K (.ref f4) = true)
    (a5 : PySem.W.nsIn K mainGlobals "are_ties" = some (some (.ref f5))) (l5 : K.lookup f5 = some ⟨oc5, od5, .func (PySem.W.fnOf "are_ties" "are_ties" (defArgs sare_ties) (defBody sare_ties) (defScope sare_ties) .none kV5 dc5 pm5 an5 cd5 ct5), sl5⟩) (c5 : PySem.W.codeIn K cd5 "are_ties" = true) (k5 : PySem.W.keepIn K (.ref f5) = true)
    (a6 : PySem.W.nsIn K mainGlobals "need_web" = some (some (.ref f6))) (l6 : K.lookup f6 = some ⟨oc6, od6, .func (PySem.W.fnOf "need_web" "need_web" (defArgs sneed_web) (defBody sneed_web) (defScope sneed_web) .none kV6 dc6 pm6 an6 cd6 ct6), sl6⟩) (c6 : PySem.W.codeIn K cd6 "need_web" = true) (k6 : PySem.W.keepIn K (.ref f6) = true)
    (a7 : PySem.W.nsIn K mainGlobals "need_place" = some (some (.ref f7))) (l7 : K.lookup f7 = some ⟨oc7, od7, .func (PySem.W.fnOf "need_place" "need_place" (defArgs sneed_place) (defBody sneed_place) (defScope sneed_place) .none kV7 dc7 pm7 an7 cd7 ct7), sl7⟩) (c7 : PySem.W.codeIn K cd7 "need_place" = true) (k7 : PySem.W.keepIn K (.ref f7) = true)
    (a8 : PySem.W.nsIn K mainGlobals "are_numbers" = some (some (.ref f8))) (l8 : K.lookup f8 = some ⟨oc8, od8, .func (PySem.W.fnOf "are_numbers" "are_numbers" (defArgs sare_numbers) (defBody sare_numbers) (defScope sare_numbers) .none kV8 dc8 pm8 an8 cd8 ct8), sl8⟩) (c8 : PySem.W.codeIn K cd8 "are_numbers" = true) (k8 : PySem.W.keepIn K (.ref f8) = true)
    (a9 : PySem.W.nsIn K mainGlobals "_need_without" = some (some (.ref f9))) (l9 : K.lookup f9 = some ⟨oc9, od9, .func (PySem.W.fnOf "_need_without" "_need_without" (defArgs s_need_without) (defBody s_need_without) (defScope s_need_without) .none kV9 dc9 pm9 an9 cd9 ct9), sl9⟩) (c9 : PySem.W.codeIn K cd9 "_need_without" = true) (k9 : PySem.W.keepIn K (.ref f9) = true)
    (a10 : PySem.W.nsIn K mainGlobals "_places_to" = some (some (.ref f10))) (l10 : K.lookup f10 = some ⟨oc10, od10, .func (PySem.W.fnOf "_places_to" "_places_to" (defArgs s_places_to) (defBody s_places_to) (defScope s_places_to) .none kV10 dc10 pm10 an10 cd10 ct10), sl10⟩) (c10 : PySem.W.codeIn K cd10 "_places_to" = true) (k10 : PySem.W.keepIn K (.ref f10) = true)
    (a11 : PySem.W.nsIn K mainGlobals "reach" = some (some (.ref f11))) (l11 : K.lookup f11 = some ⟨oc11, od11, .func (PySem.W.fnOf "reach" "reach" (defArgs sreach) (defBody sreach) (defScope sreach) .none kV11 dc11 pm11 an11 cd11 ct11), sl11⟩) (c11 : PySem.W.codeIn K cd11 "reach" = true) (k11 : PySem.W.keepIn K (.ref f11) = true)
    (a12 : PySem.W.nsIn K mainGlobals "way" = some (some (.ref f12))) (l12 : K.lookup f12 = some ⟨oc12, od12, .func (PySem.W.fnOf "way" "way" (defArgs sway) (defBody sway) (defScope sway) .none kV12 dc12 pm12 an12 cd12 ct12), sl12⟩) (c12 : PySem.W.codeIn K cd12 "way" = true) (k12 : PySem.W.keepIn K (.ref f12) = true)
    (a13 : PySem.W.nsIn K mainGlobals "_walk_back" = some (some (.ref f13))) (l13 : K.lookup f13 = some ⟨oc13, od13, .func (PySem.W.fnOf "_walk_back" "_walk_back" (defArgs s_walk_back) (defBody s_walk_back) (defScope s_walk_back) .none kV13 dc13 pm13 an13 cd13 ct13), sl13⟩) (c13 : PySem.W.codeIn K cd13 "_walk_back" = true) (k13 : PySem.W.keepIn K (.ref f13) = true)
    (a14 : PySem.W.nsIn K mainGlobals "_law_pot" = some (some (.ref f14))) (l14 : K.lookup f14 = some ⟨oc14, od14, .func (PySem.W.fnOf "_law_pot" "_law_pot" (defArgs s_law_pot) (defBody s_law_pot) (defScope s_law_pot) .none kV14 dc14 pm14 an14 cd14 ct14), sl14⟩) (c14 : PySem.W.codeIn K cd14 "_law_pot" = true) (k14 : PySem.W.keepIn K (.ref f14) = true)
    (a15 : PySem.W.nsIn K mainGlobals "_law_draw" = some (some (.ref f15))) (l15 : K.lookup f15 = some ⟨oc15, od15, .func (PySem.W.fnOf "_law_draw" "_law_draw" (defArgs s_law_draw) (defBody s_law_draw) (defScope s_law_draw) .none kV15 dc15 pm15 an15 cd15 ct15), sl15⟩) (c15 : PySem.W.codeIn K cd15 "_law_draw" = true) (k15 : PySem.W.keepIn K (.ref f15) = true)
    (a16 : PySem.W.nsIn K mainGlobals "_law_ties" = some (some (.ref f16))) (l16 : K.lookup f16 = some ⟨oc16, od16, .func (PySem.W.fnOf "_law_ties" "_law_ties" (defArgs s_law_ties) (defBody s_law_ties) (defScope s_law_ties) .none kV16 dc16 pm16 an16 cd16 ct16), sl16⟩) (c16 : PySem.W.codeIn K cd16 "_law_ties" = true) (k16 : PySem.W.keepIn K (.ref f16) = true)
    (a17 : PySem.W.nsIn K mainGlobals "_law_ring" = some (some (.ref f17))) (l17 : K.lookup f17 = some ⟨oc17, od17, .func (PySem.W.fnOf "_law_ring" "_law_ring" (defArgs s_law_ring) (defBody s_law_ring) (defScope s_law_ring) .none kV17 dc17 pm17 an17 cd17 ct17), sl17⟩) (c17 : PySem.W.codeIn K cd17 "_law_ring" = true) (k17 : PySem.W.keepIn K (.ref f17) = true)
    (a18 : PySem.W.nsIn K mainGlobals "_law_made" = some (some (.ref f18))) (l18 : K.lookup f18 = some ⟨oc18, od18, .func (PySem.W.fnOf "_law_made" "_law_made" (defArgs s_law_made) (defBody s_law_made) (defScope s_law_made) .none kV18 dc18 pm18 an18 cd18 ct18), sl18⟩) (c18 : PySem.W.codeIn K cd18 "_law_made" = true) (k18 : PySem.W.keepIn K (.ref f18) = true)
    (a19 : PySem.W.nsIn K mainGlobals "_law_reach" = some (some (.ref f19))) (l19 : K.lookup f19 = some ⟨oc19, od19, .func (PySem.W.fnOf "_law_reach" "_law_reach" (defArgs s_law_reach) (defBody s_law_reach) (defScope s_law_reach) .none kV19 dc19 pm19 an19 cd19 ct19), sl19⟩) (c19 : PySem.W.codeIn K cd19 "_law_reach" = true) (k19 : PySem.W.keepIn K (.ref f19) = true)
    (a20 : PySem.W.nsIn K mainGlobals "_law_fewest" = some (some (.ref f20))) (l20 : K.lookup f20 = some ⟨oc20, od20, .func (PySem.W.fnOf "_law_fewest" "_law_fewest" (defArgs s_law_fewest) (defBody s_law_fewest) (defScope s_law_fewest) .none kV20 dc20 pm20 an20 cd20 ct20), sl20⟩) (c20 : PySem.W.codeIn K cd20 "_law_fewest" = true) (k20 : PySem.W.keepIn K (.ref f20) = true)
    (a21 : PySem.W.nsIn K mainGlobals "_law_is_way" = some (some (.ref f21))) (l21 : K.lookup f21 = some ⟨oc21, od21, .func (PySem.W.fnOf "_law_is_way" "_law_is_way" (defArgs s_law_is_way) (defBody s_law_is_way) (defScope s_law_is_way) .none kV21 dc21 pm21 an21 cd21 ct21), sl21⟩) (c21 : PySem.W.codeIn K cd21 "_law_is_way" = true) (k21 : PySem.W.keepIn K (.ref f21) = true)
    (a22 : PySem.W.nsIn K mainGlobals "_law_without" = some (some (.ref f22))) (l22 : K.lookup f22 = some ⟨oc22, od22, .func (PySem.W.fnOf "_law_without" "_law_without" (defArgs s_law_without) (defBody s_law_without) (defScope s_law_without) .none kV22 dc22 pm22 an22 cd22 ct22), sl22⟩) (c22 : PySem.W.codeIn K cd22 "_law_without" = true) (k22 : PySem.W.keepIn K (.ref f22) = true)
    (a23 : PySem.W.nsIn K mainGlobals "_law_right" = some (some (.ref f23))) (l23 : K.lookup f23 = some ⟨oc23, od23, .func (PySem.W.fnOf "_law_right" "_law_right" (defArgs s_law_right) (defBody s_law_right) (defScope s_law_right) .none kV23 dc23 pm23 an23 cd23 ct23), sl23⟩) (c23 : PySem.W.codeIn K cd23 "_law_right" = true) (k23 : PySem.W.keepIn K (.ref f23) = true)
    (a24 : PySem.W.nsIn K mainGlobals "law" = some (some (.ref f24))) (l24 : K.lookup f24 = some ⟨oc24, od24, .func (PySem.W.fnOf "law" "law" (defArgs slaw) (defBody slaw) (defScope slaw) .none kV24 dc24 pm24 an24 cd24 ct24), sl24⟩) (c24 : PySem.W.codeIn K cd24 "law" = true) (k24 : PySem.W.keepIn K (.ref f24) = true)
    (pg : PySem.W.plainGet K C Str.empty = true) (hd : PySem.W.hasDictIn K C = true) (po : PySem.W.plainOver K C = true) (sa : PySem.W.findIn K (.ref C) "__setattr__" = some (some (.builtin "object.__setattr__"))) (mk : PySem.W.makesIn K C = true) (kc : PySem.W.keepIn K (.ref C) = true)
    (n0 : PySem.W.findIn K (.ref C) "_places" = some none)
    (n1 : PySem.W.findIn K (.ref C) "_ties" = some none)
    (n2 : PySem.W.findIn K (.ref C) "_ties_from" = some none)
    (n3 : PySem.W.findIn K (.ref C) "_ties_to" = some none)
    (q1 : PySem.W.findIn K (.ref C) "__class__" = some (some (.builtin "object.__class__"))) (q2 : PySem.W.specialIn K (.builtin "object.__class__") "__get__" = some (some (.builtin "getset_descriptor.__get__"))) (q3 : PySem.W.takesIn K (.builtin "object.__class__") = some true) (q4 : PySem.W.mroIn K C (.type "object") = some true)
    (z0 : PySem.W.nsIn K mainGlobals "isinstance" = some none)
    (z1 : PySem.W.nsIn K mainGlobals "int" = some none)
    (z2 : PySem.W.nsIn K mainGlobals "bool" = some none)
    (z3 : PySem.W.nsIn K mainGlobals "list" = some none)
    (z4 : PySem.W.nsIn K mainGlobals "tuple" = some none)
    (z5 : PySem.W.nsIn K mainGlobals "len" = some none)
    (z6 : PySem.W.nsIn K mainGlobals "range" = some none)
    (z7 : PySem.W.nsIn K mainGlobals "abs" = some none)
    (z8 : PySem.W.nsIn K mainGlobals "max" = some none)
    (z9 : PySem.W.nsIn K mainGlobals "divmod" = some none)
    (z10 : PySem.W.nsIn K mainGlobals "sorted" = some none)
    (z11 : PySem.W.nsIn K mainGlobals "enumerate" = some none)
    (z12 : PySem.W.nsIn K mainGlobals "zip" = some none)
    (z13 : PySem.W.nsIn K mainGlobals "any" = some none)
    (z14 : PySem.W.nsIn K mainGlobals "all" = some none)
    (y0 : PySem.W.nsIn K mainGlobals "MOST_PLACES" = some (some (.int 60 t0)))
    (y1 : PySem.W.nsIn K mainGlobals "MOST_TIES" = some (some (.int 80 t1)))
    : ∃ fd : FuncData, (∀ (s : Shared) (v : Value), BindsTo s fd ⟨[v], []⟩ [("_law_script", v)]) ∧ ∀ base : Heap, K.In base → base.Ns mainGlobals mg → FnOk l.prog w K mg base CX0 9 fa fd ["_law_script"] (splaw K 0) := by
  have e := hfa.symm.trans (PySem.W.mg_of X G a24)
  cases e
  have B : Bs mg := ⟨PySem.W.mg_none_of X G z0, PySem.W.mg_none_of X G z1, PySem.W.mg_none_of X G z2, PySem.W.mg_none_of X G z3, PySem.W.mg_none_of X G z4, PySem.W.mg_none_of X G z5, PySem.W.mg_none_of X G z6, PySem.W.mg_none_of X G z7, PySem.W.mg_none_of X G z8, PySem.W.mg_none_of X G z9, PySem.W.mg_none_of X G z10, PySem.W.mg_none_of X G z11, PySem.W.mg_none_of X G z12, PySem.W.mg_none_of X G z13, PySem.W.mg_none_of X G z14⟩
  have Glb : Glo mg := ⟨⟨t0, PySem.W.mg_of X G y0⟩, ⟨t1, PySem.W.mg_of X G y1⟩⟩
  have WK : WebK K mg C := ⟨⟨pg, hd, po, sa⟩, n0, n1, n2, n3, PySem.W.mg_of X G aC, q1, q2, q3, q4, (by unfold PySem.W.kitOne; exact if_pos (beq_self_eq_true _))⟩
  have DWeb___init__ : DefI K C "__init__" "Web.__init__" sWeb___init__ ["self", "places", "ties"] := ⟨fM0, _, fun_mk (st := sWeb___init__) lM0 cM0 kM0, ⟨mk, aM0, iM0, kc⟩, (fun_mk (st := sWeb___init__) lM0 cM0 kM0).binds (ps := ["self", "places", "ties"]) fun _ _ _ _ _ _ us hl => match us, hl with | [_, _, _], _ => rfl⟩
  have DWeb_places : DefP K C "places" "Web.places" sWeb_places ["self"] := ⟨pM1, fM1, _, fun_mk (st := sWeb_places) lM1 cM1 kM1, ⟨aM1, gM1, tM1, _, rM1⟩, (fun_mk (st := sWeb_places) lM1 cM1 kM1).binds (ps := ["self"]) fun _ _ _ _ _ _ us hl => match us, hl with | [_], _ => rfl⟩
  have DWeb_many : DefP K C "many" "Web.many" sWeb_many ["self"] := ⟨pM2, fM2, _, fun_mk (st := sWeb_many) lM2 cM2 kM2, ⟨aM2, gM2, tM2, _, rM2⟩, (fun_mk (st := sWeb_many) lM2 cM2 kM2).binds (ps := ["self"]) fun _ _ _ _ _ _ us hl => match us, hl with | [_], _ => rfl⟩
  have DWeb_ties : DefM K C "ties" "Web.ties" sWeb_ties ["self"] := ⟨fM3, _, fun_mk (st := sWeb_ties) lM3 cM3 kM3, ⟨aM3, iM3, kM3⟩, (fun_mk (st := sWeb_ties) lM3 cM3 kM3).binds (ps := ["self"]) fun _ _ _ _ _ _ us hl => match us, hl with | [_], _ => rfl⟩
  have DWeb_ties_from : DefM K C "ties_from" "Web.ties_from" sWeb_ties_from ["self", "place"] := ⟨fM4, _, fun_mk (st := sWeb_ties_from) lM4 cM4 kM4, ⟨aM4, iM4, kM4⟩, (fun_mk (st := sWeb_ties_from) lM4 cM4 kM4).binds (ps := ["self", "place"]) fun _ _ _ _ _ _ us hl => match us, hl with | [_, _], _ => rfl⟩
  have Dis_integer : Def K mg "is_integer" sis_integer ["value"] := def_mk X G a0 l0 c0 k0 fun _ _ _ _ _ _ us hl => match us, hl with | [_], _ => rfl
  have Dis_count : Def K mg "is_count" sis_count ["value"] := def_mk X G a1 l1 c1 k1 fun _ _ _ _ _ _ us hl => match us, hl with | [_], _ => rfl
  have Dis_between : Def K mg "is_between" sis_between ["value", "least", "most"] := def_mk X G a2 l2 c2 k2 fun _ _ _ _ _ _ us hl => match us, hl with | [_, _, _], _ => rfl
  have Dis_below : Def K mg "is_below" sis_below ["value", "limit"] := def_mk X G a3 l3 c3 k3 fun _ _ _ _ _ _ us hl => match us, hl with | [_, _], _ => rfl
  have Dis_listed : Def K mg "is_listed" sis_listed ["value"] := def_mk X G a4 l4 c4 k4 fun _ _ _ _ _ _ us hl => match us, hl with | [_], _ => rfl
  have Dare_ties : Def K mg "are_ties" sare_ties ["places", "value"] := def_mk X G a5 l5 c5 k5 fun _ _ _ _ _ _ us hl => match us, hl with | [_, _], _ => rfl
  have Dneed_web : Def K mg "need_web" sneed_web ["web"] := def_mk X G a6 l6 c6 k6 fun _ _ _ _ _ _ us hl => match us, hl with | [_], _ => rfl
  have Dneed_place : Def K mg "need_place" sneed_place ["web", "place"] := def_mk X G a7 l7 c7 k7 fun _ _ _ _ _ _ us hl => match us, hl with | [_, _], _ => rfl
  have Dare_numbers : Def K mg "are_numbers" sare_numbers ["web", "value"] := def_mk X G a8 l8 c8 k8 fun _ _ _ _ _ _ us hl => match us, hl with | [_, _], _ => rfl
  have D_need_without : Def K mg "_need_without" s_need_without ["web", "without"] := def_mk X G a9 l9 c9 k9 fun _ _ _ _ _ _ us hl => match us, hl with | [_, _], _ => rfl
  have D_places_to : Def K mg "_places_to" s_places_to ["web", "without"] := def_mk X G a10 l10 c10 k10 fun _ _ _ _ _ _ us hl => match us, hl with | [_, _], _ => rfl
  have Dreach : Def K mg "reach" sreach ["web", "place", "without"] := def_mk X G a11 l11 c11 k11 fun _ _ _ _ _ _ us hl => match us, hl with | [_, _, _], _ => rfl
  have Dway : Def K mg "way" sway ["web", "near", "far", "without"] := def_mk X G a12 l12 c12 k12 fun _ _ _ _ _ _ us hl => match us, hl with | [_, _, _, _], _ => rfl
  have D_walk_back : Def K mg "_walk_back" s_walk_back ["ties", "came_by", "near", "far"] := def_mk X G a13 l13 c13 k13 fun _ _ _ _ _ _ us hl => match us, hl with | [_, _, _, _], _ => rfl
  have D_law_pot : Def K mg "_law_pot" s_law_pot ["_law_script", "_law_k"] := def_mk X G a14 l14 c14 k14 fun _ _ _ _ _ _ us hl => match us, hl with | [_, _], _ => rfl
  have D_law_draw : Def K mg "_law_draw" s_law_draw ["_law_pot_here", "_law_many"] := def_mk X G a15 l15 c15 k15 fun _ _ _ _ _ _ us hl => match us, hl with | [_, _], _ => rfl
  have D_law_ties : Def K mg "_law_ties" s_law_ties ["_law_pot_here", "_law_places", "_law_most"] := def_mk X G a16 l16 c16 k16 fun _ _ _ _ _ _ us hl => match us, hl with | [_, _, _], _ => rfl
  have D_law_ring : Def K mg "_law_ring" s_law_ring ["_law_first", "_law_many"] := def_mk X G a17 l17 c17 k17 fun _ _ _ _ _ _ us hl => match us, hl with | [_, _], _ => rfl
  have D_law_made : Def K mg "_law_made" s_law_made ["_law_pot_here"] := def_mk X G a18 l18 c18 k18 fun _ _ _ _ _ _ us hl => match us, hl with | [_], _ => rfl
  have D_law_reach : Def K mg "_law_reach" s_law_reach ["_law_ties_here", "_law_place", "_law_without_here"] := def_mk X G a19 l19 c19 k19 fun _ _ _ _ _ _ us hl => match us, hl with | [_, _, _], _ => rfl
  have D_law_fewest : Def K mg "_law_fewest" s_law_fewest ["_law_ties_here", "_law_near", "_law_far", "_law_without_here"] := def_mk X G a20 l20 c20 k20 fun _ _ _ _ _ _ us hl => match us, hl with | [_, _, _, _], _ => rfl
  have D_law_is_way : Def K mg "_law_is_way" s_law_is_way ["_law_ties_here", "_law_near", "_law_far", "_law_without_here", "_law_value"] := def_mk X G a21 l21 c21 k21 fun _ _ _ _ _ _ us hl => match us, hl with | [_, _, _, _, _], _ => rfl
  have D_law_without : Def K mg "_law_without" s_law_without ["_law_pot_here", "_law_ties_here"] := def_mk X G a22 l22 c22 k22 fun _ _ _ _ _ _ us hl => match us, hl with | [_, _], _ => rfl
  have D_law_right : Def K mg "_law_right" s_law_right ["_law_pot_here"] := def_mk X G a23 l23 c23 k23 fun _ _ _ _ _ _ us hl => match us, hl with | [_], _ => rfl
  have Dlaw : Def K mg "law" slaw ["_law_script"] := def_mk X G a24 l24 c24 k24 fun _ _ _ _ _ _ us hl => match us, hl with | [_], _ => rfl
  refine ⟨PySem.W.fnOf "law" "law" (defArgs slaw) (defBody slaw) (defScope slaw) .none kV24 dc24 pm24 an24 cd24 ct24, fun s v => .of_eq rfl, fun base _ _ => ?_⟩
  have H_law_draw := ok_law_draw (P := l.prog) (w := w) (base := base) D_law_draw B Glb WK
  have H_law_ring := ok_law_ring (P := l.prog) (w := w) (base := base) D_law_ring B Glb WK
  have H_law_ties := ok_law_ties (P := l.prog) (w := w) (base := base) D_law_ties B Glb WK H_law_draw
  have H_law_made := ok_law_made (P := l.prog) (w := w) (base := base) D_law_made B Glb WK H_law_draw H_law_ring H_law_ties
  have Hneed_web := okneed_web (P := l.prog) (w := w) (base := base) Dneed_web B Glb WK
  have His_integer := okis_integer (P := l.prog) (w := w) (base := base) Dis_integer B Glb WK
  have His_count := okis_count (P := l.prog) (w := w) (base := base) Dis_count B Glb WK His_integer
  have His_below := okis_below (P := l.prog) (w := w) (base := base) Dis_below B Glb WK His_count
  have HWeb_places := okWeb_places (P := l.prog) (w := w) (base := base) DWeb_places B Glb WK
  have Hneed_place := okneed_place (P := l.prog) (w := w) (base := base) Dneed_place B Glb WK His_below HWeb_places
  have His_listed := okis_listed (P := l.prog) (w := w) (base := base) Dis_listed B Glb WK
  have HWeb_many := okWeb_many (P := l.prog) (w := w) (base := base) DWeb_many B Glb WK
  have Hare_numbers := okare_numbers (P := l.prog) (w := w) (base := base) Dare_numbers B Glb WK His_listed His_below HWeb_many
  have H_need_without := ok_need_without (P := l.prog) (w := w) (base := base) D_need_without B Glb WK Hare_numbers
  have H_walk_back := ok_walk_back (P := l.prog) (w := w) (base := base) D_walk_back B Glb WK
  have HWeb_ties := okWeb_ties (P := l.prog) (w := w) (base := base) DWeb_ties B Glb WK
  have HWeb_ties_from := okWeb_ties_from (P := l.prog) (w := w) (base := base) DWeb_ties_from B Glb WK Hneed_place
  have Hway := okway (P := l.prog) (w := w) (base := base) Dway B Glb WK Hneed_web Hneed_place H_need_without H_walk_back HWeb_ties HWeb_ties_from
  have H_law_fewest := ok_law_fewest (P := l.prog) (w := w) (base := base) D_law_fewest B Glb WK
  have H_law_without := ok_law_without (P := l.prog) (w := w) (base := base) D_law_without B Glb WK H_law_draw
  have H_places_to := ok_places_to (P := l.prog) (w := w) (base := base) D_places_to B Glb WK HWeb_ties HWeb_places
  have Hreach := okreach (P := l.prog) (w := w) (base := base) Dreach B Glb WK Hneed_web Hneed_place H_need_without H_places_to
  have H_law_reach := ok_law_reach (P := l.prog) (w := w) (base := base) D_law_reach B Glb WK
  have H_law_is_way := ok_law_is_way (P := l.prog) (w := w) (base := base) D_law_is_way B Glb WK
  have His_between := okis_between (P := l.prog) (w := w) (base := base) Dis_between B Glb WK His_integer
  have Hare_ties := okare_ties (P := l.prog) (w := w) (base := base) Dare_ties B Glb WK His_listed His_below
  have HWeb___init__ := okWeb___init__ (P := l.prog) (w := w) (base := base) DWeb___init__ B Glb WK His_between Hare_ties
  have H_law_right := ok_law_right (P := l.prog) (w := w) (base := base) D_law_right B Glb WK H_law_made Hway H_law_fewest H_law_without Hreach H_law_reach H_law_is_way HWeb___init__
  have H_law_pot := ok_law_pot (P := l.prog) (w := w) (base := base) D_law_pot B Glb WK
  have Hlaw := oklaw (P := l.prog) (w := w) (base := base) Dlaw B Glb WK H_law_right H_law_pot
  obtain ⟨f, fd, O, m, k, b, F⟩ := Hlaw
  have e2 := m.symm.trans hfa
  cases e2
  rw [fd_is F l24] at O
  exact O
theorem walk {l : PySem.W.OpenLaw} {q : Program} {loose : List Str} {XP : (Str → Option Value) → Heap → Prop} {YP : World → Heap → Prop} {d : DefRec} {K : Params → PySem.W.Frag} (hn : l.most = some 63) (hdf : d.params.defaults = [])
    (hY : ∀ (w : World) (h : Heap), YP w h → (K w.params).In h)
    (F : ∀ (w : World) (mg : Str → Option Value) (fa : Addr) (h : Heap), (K w.params).In h → h.Ns mainGlobals mg → mg d.name = some (.ref fa) →
      ∃ fd : FuncData, (∀ (s : Shared) (u : Value), BindsTo s fd ⟨[u], []⟩ [("_law_script", u)]) ∧ ∀ base : Heap, (K w.params).In base → base.Ns mainGlobals mg → FnOk l.prog w (K w.params) mg base CX0 9 fa fd ["_law_script"] (splaw (K w.params) 0)) :
    PySem.W.WalkO q loose XP YP l.row.toRowW d [] (fun f vs => PySem.call f vs) :=
  L2.walk_of (n := 63) (k := 9) (x := "_law_script") (CX := fun _ => CX0) (sp := fun w => splaw (K w.params) 0) hn (by decide) hdf ⟨rfl, by decide, by decide⟩ hY F (fun _ _ a ns hl _ hS => ⟨a, ns, rfl, hS, hl, fun _ => rfl⟩) fun _ _ _ _ _ z => z
end My
open PySem PySem.W PyProof.Rows
set_option maxRecDepth 100000 in
set_option maxHeartbeats 0 in
theorem PySem.Challenge.cw_suretexts_k22_whole_coming_to_and_ways_holds : PySem.Challenge.rw_suretexts_k22_whole_coming_to_and_ways.Holds := by
  w_on; o_law; k_head; (case hw => w_witness2)
  k_fill
  refine My.walk (l := PySem.Challenge.rw_suretexts_k22_whole_coming_to_and_ways) rfl rfl (fun w h Y => PySem.W.kIn_of Y) ?F
  case F =>
    intro w mg fa h KX G hmg
    refine' My.all_mk KX G hmg ?aC ?aM0 ?iM0 ?lM0 ?cM0 ?kM0 ?aM1 ?gM1 ?tM1 ?rM1 ?lM1 ?cM1 ?kM1 ?aM2 ?gM2 ?tM2 ?rM2 ?lM2 ?cM2 ?kM2 ?aM3 ?iM3 ?lM3 ?cM3 ?kM3 ?aM4 ?iM4 ?lM4 ?cM4 ?kM4 ?a0 ?l0 ?c0 ?k0 ?a1 ?l1 ?c1 ?k1 ?a2 ?l2 ?c2 ?k2 ?a3 ?l3 ?c3 ?k3 ?a4 ?l4 ?c4 ?k4 ?a5 ?l5 ?c5 ?k5 ?a6 ?l6 ?c6 ?k6 ?a7 ?l7 ?c7 ?k7 ?a8 ?l8 ?c8 ?k8 ?a9 ?l9 ?c9 ?k9 ?a10 ?l10 ?c10 ?k10 ?a11 ?l11 ?c11 ?k11 ?a12 ?l12 ?c12 ?k12 ?a13 ?l13 ?c13 ?k13 ?a14 ?l14 ?c14 ?k14 ?a15 ?l15 ?c15 ?k15 ?a16 ?l16 ?c16 ?k16 ?a17 ?l17 ?c17 ?k17 ?a18 ?l18 ?c18 ?k18 ?a19 ?l19 ?c19 ?k19 ?a20 ?l20 ?c20 ?k20 ?a21 ?l21 ?c21 ?k21 ?a22 ?l22 ?c22 ?k22 ?a23 ?l23 ?c23 ?k23 ?a24 ?l24 ?c24 ?k24 ?pg ?hd ?po ?sa ?mk ?kc ?n0 ?n1 ?n2 ?n3 ?q1 ?q2 ?q3 ?q4 ?z0 ?z1 ?z2 ?z3 ?z4 ?z5 ?z6 ?z7 ?z8 ?z9 ?z10 ?z11 ?z12 ?z13 ?z14 ?y0 ?y1
    (case aC => k_is)
    (case aM0 => k_is)
    (case iM0 => k_is)
    (case lM0 => k_is)
    (case cM0 => k_is)
    (case kM0 => k_is)
    (case aM1 => k_is)
    (case gM1 => k_is)
    (case tM1 => k_is)
    (case rM1 => k_is)
    (case lM1 => k_is)
    (case cM1 => k_is)
    (case kM1 => k_is)
    (case aM2 => k_is)
    (case gM2 => k_is)
    (case tM2 => k_is)
    (case rM2 => k_is)
    (case lM2 => k_is)
    (case cM2 => k_is)
    (case kM2 => k_is)
    (case aM3 => k_is)
    (case iM3 => k_is)
    (case lM3 => k_is)
    (case cM3 => k_is)
    (case kM3 => k_is)
    (case aM4 => k_is)
    (case iM4 => k_is)
    (case lM4 => k_is)
    (case cM4 => k_is)
    (case kM4 => k_is)
    (case a0 => k_is)
    (case l0 => k_is)
    (case c0 => k_is)
    (case k0 => k_is)
    (case a1 => k_is)
    (case l1 => k_is)
    (case c1 => k_is)
    (case k1 => k_is)
    (case a2 => k_is)
    (case l2 => k_is)
    (case c2 => k_is)
    (case k2 => k_is)
    (case a3 => k_is)
    (case l3 => k_is)
    (case c3 => k_is)
    (case k3 => k_is)
    (case a4 => k_is)
    (case l4 => k_is)
    (case c4 => k_is)
    (case k4 => k_is)
    (case a5 => k_is)
    (case l5 => k_is)
    (case c5 => k_is)
    (case k5 => k_is)
    (case a6 => k_is)
    (case l6 => k_is)
    (case c6 => k_is)
    (case k6 => k_is)
    (case a7 => k_is)
    (case l7 => k_is)
    (case c7 => k_is)
    (case k7 => k_is)
    (case a8 => k_is)
    (case l8 => k_is)
    (case c8 => k_is)
    (case k8 => k_is)
    (case a9 => k_is)
    (case l9 => k_is)
    (case c9 => k_is)
    (case k9 => k_is)
    (case a10 => k_is)
    (case l10 => k_is)
    (case c10 => k_is)
    (case k10 => k_is)
    (case a11 => k_is)
    (case l11 => k_is)
    (case c11 => k_is)
    (case k11 => k_is)
    (case a12 => k_is)
    (case l12 => k_is)
    (case c12 => k_is)
    (case k12 => k_is)
    (case a13 => k_is)
    (case l13 => k_is)
    (case c13 => k_is)
    (case k13 => k_is)
    (case a14 => k_is)
    (case l14 => k_is)
    (case c14 => k_is)
    (case k14 => k_is)
    (case a15 => k_is)
    (case l15 => k_is)
    (case c15 => k_is)
    (case k15 => k_is)
    (case a16 => k_is)
    (case l16 => k_is)
    (case c16 => k_is)
    (case k16 => k_is)
    (case a17 => k_is)
    (case l17 => k_is)
    (case c17 => k_is)
    (case k17 => k_is)
    (case a18 => k_is)
    (case l18 => k_is)
    (case c18 => k_is)
    (case k18 => k_is)
    (case a19 => k_is)
    (case l19 => k_is)
    (case c19 => k_is)
    (case k19 => k_is)
    (case a20 => k_is)
    (case l20 => k_is)
    (case c20 => k_is)
    (case k20 => k_is)
    (case a21 => k_is)
    (case l21 => k_is)
    (case c21 => k_is)
    (case k21 => k_is)
    (case a22 => k_is)
    (case l22 => k_is)
    (case c22 => k_is)
    (case k22 => k_is)
    (case a23 => k_is)
    (case l23 => k_is)
    (case c23 => k_is)
    (case k23 => k_is)
    (case a24 => k_is)
    (case l24 => k_is)
    (case c24 => k_is)
    (case k24 => k_is)
    (case pg => k_is)
    (case hd => k_is)
    (case po => k_is)
    (case sa => k_is)
    (case mk => k_is)
    (case kc => k_is)
    (case n0 => k_is)
    (case n1 => k_is)
    (case n2 => k_is)
    (case n3 => k_is)
    (case q1 => k_is)
    (case q2 => k_is)
    (case q3 => k_is)
    (case q4 => k_is)
    (case z0 => k_is)
    (case z1 => k_is)
    (case z2 => k_is)
    (case z3 => k_is)
    (case z4 => k_is)
    (case z5 => k_is)
    (case z6 => k_is)
    (case z7 => k_is)
    (case z8 => k_is)
    (case z9 => k_is)
    (case z10 => k_is)
    (case z11 => k_is)
    (case z12 => k_is)
    (case z13 => k_is)
    (case z14 => k_is)
    (case y0 => k_is)
    (case y1 => k_is)
