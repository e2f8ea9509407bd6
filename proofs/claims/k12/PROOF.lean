import PyProof.Rows.All
import Wide.All
import OpenK.AllK
import Wide.FinOn
import HandS.ForMost
import HandS.IsInst
import HandS.SortInts
import HandS.Walk
import PySem.Challenge.RW_suretexts_k12_whole_words_in_rings
set_option Elab.async false
set_option maxRecDepth 100000
set_option linter.all false
namespace My
/-! ### reading round and round -/
def rd (l : List Nat) (p n : Nat) : List Nat := (List.range n).map fun k => l.getD ((p + k) % l.length) 0
theorem rd_len (l : List Nat) (p n : Nat) : (rd l p n).length = n := by simp [rd]
theorem rd_zero (l : List Nat) (p : Nat) : rd l p 0 = [] := rfl
theorem rd_succ (l : List Nat) (p n : Nat) : rd l p (n + 1) = rd l p n ++ [l.getD ((p + n) % l.length) 0] := by
  simp [rd, List.range_succ]
theorem rd_get (l : List Nat) (p n k : Nat) (h : k < n) : (rd l p n)[k]? = some (l.getD ((p + k) % l.length) 0) := by
  simp [rd, h]
theorem rd_drop (l : List Nat) (p n k : Nat) : (rd l p n).drop k = rd l (p + k) (n - k) := by
  apply List.ext_getElem?
  intro i
  rw [List.getElem?_drop]
  by_cases h : k + i < n
  · rw [rd_get _ _ _ _ h, rd_get _ _ _ _ (by omega), Nat.add_assoc]
  · rw [List.getElem?_eq_none (by rw [rd_len]; omega), List.getElem?_eq_none (by rw [rd_len]; omega)]
theorem rd_mod (l : List Nat) (p n : Nat) : rd l (p % l.length) n = rd l p n := by
  unfold rd
  apply List.map_congr_left
  intro k _
  rw [Nat.mod_add_mod]
theorem rd_self (l : List Nat) : rd l 0 l.length = l := by
  apply List.ext_getElem?
  intro i
  by_cases h : i < l.length
  · rw [rd_get _ _ _ _ h, Nat.zero_add, Nat.mod_eq_of_lt h, List.getElem?_eq_getElem h, List.getD_eq_getElem?_getD, List.getElem?_eq_getElem h]
    rfl
  · rw [List.getElem?_eq_none (by rw [rd_len]; omega), List.getElem?_eq_none (by omega)]
/-- turned -/
theorem rd_turn (l : List Nat) (p : Nat) (h : p < l.length) : rd l p l.length = l.drop p ++ l.take p := by
  apply List.ext_getElem?
  intro i
  by_cases hi : i < l.length
  · rw [rd_get _ _ _ _ hi]
    by_cases h2 : i < l.length - p
    · rw [List.getElem?_append_left (by rw [List.length_drop]; exact h2), List.getElem?_drop, Nat.mod_eq_of_lt (by omega), List.getElem?_eq_getElem (by omega), List.getD_eq_getElem?_getD, List.getElem?_eq_getElem (by omega)]
      rfl
    · rw [List.getElem?_append_right (by rw [List.length_drop]; omega), List.length_drop, List.getElem?_take_of_lt (by omega)]
      have e : (p + i) % l.length = i - (l.length - p) := by
        rw [Nat.mod_eq_sub_mod (by omega), Nat.mod_eq_of_lt (by omega)]
        omega
      rw [e, List.getElem?_eq_getElem (by omega), List.getD_eq_getElem?_getD, List.getElem?_eq_getElem (by omega)]
      rfl
  · rw [List.getElem?_eq_none (by rw [rd_len]; omega), List.getElem?_eq_none (by rw [List.length_append, List.length_drop, List.length_take]; omega)]
/-- reading from a turned ring -/
theorem rd_turned (l : List Nat) (b p n : Nat) (hl : 0 < l.length) : rd (rd l b l.length) p n = rd l (b + p) n := by
  unfold rd
  apply List.map_congr_left
  intro k _
  have e : ((List.range l.length).map fun k => l.getD ((b + k) % l.length) 0).length = l.length := by simp
  rw [e]
  have h2 : (p + k) % l.length < l.length := Nat.mod_lt _ hl
  rw [List.getD_eq_getElem?_getD, List.getElem?_map, List.getElem?_range h2]
  show l.getD ((b + (p + k) % l.length) % l.length) 0 = _
  rw [Nat.add_mod_mod, Nat.add_assoc]

/-! ### beginnings that are endings -/
def Pre (w t : List Nat) (k : Nat) : Prop := k ≤ w.length ∧ w.take k <:+ t
def Longest (w t : List Nat) (k : Nat) : Prop := Pre w t k ∧ ∀ k', Pre w t k' → k' ≤ k
def IsLB (p : List Nat) (b : Nat) : Prop := b < p.length ∧ p.take b <:+ p ∧ ∀ b', b' < p.length → p.take b' <:+ p → b' ≤ b
def At (w t : List Nat) (c k : Nat) : Prop := Pre w t k ∧ ∀ k', Pre w t k' → w[k']? = some c → k' ≤ k
theorem suff_one {a t : List Nat} {x c : Nat} : a ++ [x] <:+ t ++ [c] ↔ a <:+ t ∧ x = c := by
  constructor
  · rintro ⟨u, hu⟩
    rw [← List.append_assoc] at hu
    have h := List.append_inj' hu rfl
    exact ⟨⟨u, h.1⟩, by simpa using h.2⟩
  · rintro ⟨⟨u, hu⟩, rfl⟩
    exact ⟨u, by rw [← hu, List.append_assoc]⟩
theorem pre_succ {w t : List Nat} {c k : Nat} : Pre w (t ++ [c]) (k + 1) ↔ Pre w t k ∧ w[k]? = some c := by
  unfold Pre
  constructor
  · rintro ⟨h1, h2⟩
    have hk : k < w.length := by omega
    rw [List.take_succ_eq_append_getElem hk, suff_one] at h2
    exact ⟨⟨by omega, h2.1⟩, by rw [List.getElem?_eq_getElem hk, h2.2]⟩
  · rintro ⟨⟨h1, h2⟩, h3⟩
    have hk : k < w.length := by
      rw [List.getElem?_eq_some_iff] at h3
      exact h3.1
    rw [List.take_succ_eq_append_getElem hk, suff_one]
    rw [List.getElem?_eq_getElem hk] at h3
    exact ⟨by omega, h2, Option.some.inj h3⟩
theorem pre_zero (w t : List Nat) : Pre w t 0 := ⟨Nat.zero_le _, by simp⟩
theorem at_start {w t : List Nat} {c k : Nat} (h : Longest w t k) : At w t c k := ⟨h.1, fun k' h' _ => h.2 k' h'⟩
theorem at_fall {w t : List Nat} {c k b : Nat} (h : At w t c k) (hne : w[k]? ≠ some c) (hb : IsLB (w.take k) b) : At w t c b := by
  obtain ⟨h1, h2⟩ := h
  obtain ⟨b1, b2, b3⟩ := hb
  have lk : (w.take k).length = k := by rw [List.length_take]; have := h1.1; omega
  rw [lk] at b1 b3
  have tk : ∀ j, j ≤ k → (w.take k).take j = w.take j := fun j hj => by rw [List.take_take, Nat.min_eq_left hj]
  refine ⟨⟨by have := h1.1; omega, ?_⟩, fun k' p' e' => ?_⟩
  · rw [← tk b (by omega)]
    exact b2.trans h1.2
  · have l1 := h2 k' p' e'
    have l2 : k' ≠ k := by rintro rfl; exact hne e'
    have l3 : k' < k := by omega
    refine b3 k' l3 ?_
    rw [tk k' (by omega)]
    refine List.suffix_of_suffix_length_le p'.2 h1.2 ?_
    rw [List.length_take, List.length_take]
    have := h1.1
    omega
theorem at_hit {w t : List Nat} {c k : Nat} (h : At w t c k) (he : w[k]? = some c) : Longest w (t ++ [c]) (k + 1) := by
  refine ⟨pre_succ.mpr ⟨h.1, he⟩, fun k' p' => ?_⟩
  cases k' with
  | zero => omega
  | succ j =>
    have q := pre_succ.mp p'
    have := h.2 j q.1 q.2
    omega
theorem at_miss {w t : List Nat} {c : Nat} (h : At w t c 0) (he : w[0]? ≠ some c) : Longest w (t ++ [c]) 0 := by
  refine ⟨pre_zero _ _, fun k' p' => ?_⟩
  cases k' with
  | zero => omega
  | succ j =>
    have q := pre_succ.mp p'
    have l := h.2 j q.1 q.2
    have e : j = 0 := by omega
    subst e
    exact absurd q.2 he
theorem longest_nil (w : List Nat) : Longest w [] 0 := by
  refine ⟨pre_zero _ _, fun k' p' => ?_⟩
  have h := List.suffix_nil.mp p'.2
  have h2 : (w.take k').length = 0 := by rw [h]; rfl
  rw [List.length_take] at h2
  have := p'.1
  omega
theorem longest_le {w t : List Nat} {k : Nat} (h : Longest w t k) : k ≤ t.length := by
  have h1 := h.1.2.length_le
  rw [List.length_take] at h1
  have := h.1.1
  omega
/-- the longest beginning that ends the letters behind the first one is the longest border -/
theorem lb_of_longest {w : List Nat} {i k : Nat} (hi : i < w.length) (h : Longest w ((w.drop 1).take i) k) : IsLB (w.take (i + 1)) k := by
  have hk := longest_le h
  have ht : ((w.drop 1).take i).length = i := by rw [List.length_take, List.length_drop]; omega
  rw [ht] at hk
  have hl : (w.take (i + 1)).length = i + 1 := by rw [List.length_take]; omega
  have tk : ∀ j, j ≤ i + 1 → (w.take (i + 1)).take j = w.take j := fun j hj => by rw [List.take_take, Nat.min_eq_left hj]
  obtain ⟨a, r, rfl⟩ : ∃ a r, w = a :: r := by
    cases w with
    | nil => simp at hi
    | cons a r => exact ⟨a, r, rfl⟩
  have e : (a :: r).take (i + 1) = a :: ((a :: r).drop 1).take i := by simp
  refine ⟨by omega, ?_, fun b' hb' hs => ?_⟩
  · rw [tk k (by omega), e]
    exact h.1.2.trans (List.suffix_cons _ _)
  · rw [hl] at hb'
    refine h.2 b' ⟨by omega, ?_⟩
    rw [tk b' (by omega), e, List.suffix_cons_iff] at hs
    rcases hs with hs | hs
    · have hq := congrArg List.length hs
      rw [List.length_take, ← e, hl] at hq
      omega
    · exact hs
theorem lb_one {w : List Nat} (h : 0 < w.length) : IsLB (w.take 1) 0 := lb_of_longest h (by simpa using longest_nil w)
theorem lb_unique {p : List Nat} {a b : Nat} (h1 : IsLB p a) (h2 : IsLB p b) : a = b := by
  have := h1.2.2 b h2.1 h2.2.1
  have := h2.2.2 a h1.1 h1.2.1
  omega
/-- the list of the longest borders -/
def Bords (w : List Nat) (L : List Nat) : Prop := L.length = w.length ∧ ∀ j, j < w.length → ∃ b, L[j]? = some b ∧ IsLB (w.take (j + 1)) b
theorem bords_unique {w A B : List Nat} (h1 : Bords w A) (h2 : Bords w B) : A = B := by
  apply List.ext_getElem?
  intro i
  by_cases h : i < w.length
  · obtain ⟨a, ea, la⟩ := h1.2 i h
    obtain ⟨b, eb, lb⟩ := h2.2 i h
    rw [ea, eb, lb_unique la lb]
  · rw [List.getElem?_eq_none (by rw [h1.1]; omega), List.getElem?_eq_none (by rw [h2.1]; omega)]
/-- some first ones of them -/
def BordsTo (w : List Nat) (n : Nat) (L : List Nat) : Prop := L.length = n ∧ ∀ j, j < n → ∃ b, L[j]? = some b ∧ IsLB (w.take (j + 1)) b
theorem bordsTo_one {w : List Nat} (h : 0 < w.length) : BordsTo w 1 [0] := by
  refine ⟨rfl, fun j hj => ?_⟩
  have e : j = 0 := by omega
  subst e
  exact ⟨0, rfl, lb_one h⟩
theorem bordsTo_succ {w L : List Nat} {i k : Nat} (hi : i < w.length) (hB : BordsTo w i L) (h : Longest w ((w.drop 1).take i) k) : BordsTo w (i + 1) (L ++ [k]) := by
  refine ⟨by rw [List.length_append, hB.1]; rfl, fun j hj => ?_⟩
  by_cases hji : j < i
  · obtain ⟨b, e, l⟩ := hB.2 j hji
    exact ⟨b, by rw [List.getElem?_append_left (by rw [hB.1]; exact hji)]; exact e, l⟩
  · have e : j = i := by omega
    subst e
    refine ⟨k, ?_, lb_of_longest hi h⟩
    rw [List.getElem?_append_right (by rw [hB.1]; omega), hB.1, Nat.sub_self]
    rfl
theorem bordsTo_at {w L : List Nat} {n k : Nat} (hB : BordsTo w n L) (h0 : 0 < k) (hk : k ≤ n) : ∃ b, L[k - 1]? = some b ∧ IsLB (w.take k) b ∧ b < k := by
  obtain ⟨b, e, l⟩ := hB.2 (k - 1) (by omega)
  rw [show k - 1 + 1 = k by omega] at l
  refine ⟨b, e, l, ?_⟩
  have := l.1
  rw [List.length_take] at this
  omega
theorem bords_of {w L : List Nat} : BordsTo w w.length L ↔ Bords w L := Iff.rfl

/-! ### a word begins at a place -/
def due (l w : List Nat) : List Nat := (List.range l.length).filter fun p => rd l p w.length == w
theorem mem_due {l w : List Nat} {p : Nat} : p ∈ due l w ↔ p < l.length ∧ rd l p w.length = w := by
  simp [due]
/-- of the first n letters read -/
def dueTo (l w : List Nat) (n : Nat) : List Nat := (List.range n).filter fun p => rd l p w.length == w
theorem dueTo_all (l w : List Nat) : dueTo l w l.length = due l w := rfl
theorem dueTo_succ_yes {l w : List Nat} {n : Nat} (h : rd l n w.length = w) : dueTo l w (n + 1) = dueTo l w n ++ [n] := by
  simp [dueTo, List.range_succ, List.filter_append, h]
theorem dueTo_succ_no {l w : List Nat} {n : Nat} (h : ¬ rd l n w.length = w) : dueTo l w (n + 1) = dueTo l w n := by
  simp [dueTo, List.range_succ, List.filter_append, h]
/-- the whole word was just read -/
theorem longest_full {l w : List Nat} {n k : Nat} (h : Longest w (rd l 0 n) k) : k = w.length ↔ w.length ≤ n ∧ rd l (n - w.length) w.length = w := by
  have key : w <:+ rd l 0 n ↔ w.length ≤ n ∧ rd l (n - w.length) w.length = w := by
    constructor
    · intro hs
      have hl := hs.length_le
      rw [rd_len] at hl
      refine ⟨hl, ?_⟩
      have e := List.suffix_iff_eq_drop.mp hs
      rw [rd_len, rd_drop, Nat.zero_add, show n - (n - w.length) = w.length by omega] at e
      exact e.symm
    · rintro ⟨hl, e⟩
      rw [List.suffix_iff_eq_drop, rd_len, rd_drop, Nat.zero_add, show n - (n - w.length) = w.length by omega]
      exact e.symm
  rw [← key]
  constructor
  · rintro rfl
    have := h.1.2
    rw [List.take_length] at this
    exact this
  · intro hs
    have h1 := h.1.1
    have h2 := h.2 w.length ⟨Nat.le_refl _, by rw [List.take_length]; exact hs⟩
    omega

/-! ### the period -/
theorem getD_lt {l : List Nat} {i : Nat} (h : i < l.length) : l[i]? = some (l.getD i 0) := by
  rw [List.getD_eq_getElem?_getD, List.getElem?_eq_getElem h]
  rfl
theorem line_period {l : List Nat} {b : Nat} (h : IsLB l b) (i : Nat) (hi : i + (l.length - b) < l.length) : l.getD (i + (l.length - b)) 0 = l.getD i 0 := by
  have hb := h.1
  have e := List.suffix_iff_eq_drop.mp h.2.1
  have hl : (l.take b).length = b := by rw [List.length_take]; omega
  rw [hl] at e
  have e2 := congrArg (fun z : List Nat => z[i]?) e
  simp only [List.getElem?_take, List.getElem?_drop] at e2
  rw [if_pos (by omega)] at e2
  rw [List.getD_eq_getElem?_getD, List.getD_eq_getElem?_getD, e2, Nat.add_comm]
theorem line_mult {l : List Nat} {s : Nat} (h : ∀ i, i + s < l.length → l.getD (i + s) 0 = l.getD i 0) : ∀ (m i : Nat), i + m * s < l.length → l.getD (i + m * s) 0 = l.getD i 0
  | 0, i, _ => by simp
  | m + 1, i, hi => by
    have e : i + (m + 1) * s = (i + m * s) + s := by rw [Nat.succ_mul]; omega
    rw [e] at hi ⊢
    rw [h _ hi]
    exact line_mult h m i (by omega)
theorem round_period {l : List Nat} {s : Nat} (_hs : 0 < s) (hsl : s ≤ l.length) (hd : l.length % s = 0) (h : ∀ i, i + s < l.length → l.getD (i + s) 0 = l.getD i 0) (i : Nat) (hi : i < l.length) : l.getD ((i + s) % l.length) 0 = l.getD i 0 := by
  by_cases hlt : i + s < l.length
  · rw [Nat.mod_eq_of_lt hlt]
    exact h i hlt
  · have e1 : (i + s) % l.length = i + s - l.length := by
      rw [Nat.mod_eq_sub_mod (by omega), Nat.mod_eq_of_lt (by omega)]
    rw [e1]
    obtain ⟨q, hq⟩ : ∃ q, l.length = s * q := ⟨l.length / s, by rw [Nat.mul_div_cancel' (Nat.dvd_of_mod_eq_zero hd)]⟩
    have hq0 : 0 < q := by
      rcases Nat.eq_zero_or_pos q with z | z
      · subst z; omega
      · exact z
    obtain ⟨r, rfl⟩ : ∃ r, q = r + 1 := ⟨q - 1, by omega⟩
    have e2 : l.length = r * s + s := by rw [hq, Nat.mul_succ, Nat.mul_comm]
    have e3 : i = (i + s - l.length) + r * s := by omega
    have := line_mult h r (i + s - l.length) (by omega)
    rw [← e3] at this
    exact this.symm
/-- the told period -/
def per (l : List Nat) (b : Nat) : Nat := if l.length % (l.length - b) = 0 then l.length - b else l.length
theorem per_turns {l : List Nat} {b : Nat} (h : IsLB l b) (i : Nat) (hi : i < l.length) : l.getD ((i + per l b) % l.length) 0 = l.getD i 0 := by
  have hb := h.1
  unfold per
  split
  · exact round_period (by omega) (by omega) (by assumption) (fun j hj => line_period h j hj) i hi
  · rw [Nat.add_mod_right, Nat.mod_eq_of_lt hi]
theorem rd_per {l : List Nat} {b : Nat} (h : IsLB l b) (p n : Nat) : rd l (p + per l b) n = rd l p n := by
  have hb := h.1
  unfold rd
  apply List.map_congr_left
  intro k _
  rw [show p + per l b + k = (p + k) + per l b by omega, ← Nat.mod_add_mod]
  rw [per_turns h ((p + k) % l.length) (Nat.mod_lt _ (by omega))]
theorem per_pos {l : List Nat} {b : Nat} (h : IsLB l b) : 0 < per l b ∧ per l b ≤ l.length := by
  have hb := h.1
  unfold per
  split <;> omega

/-! ### rising lists of the same numbers are one list -/
theorem rising_ext : ∀ {a b : List Int}, a.Pairwise (· < ·) → b.Pairwise (· < ·) → (∀ x, x ∈ a ↔ x ∈ b) → a = b
  | [], [], _, _, _ => rfl
  | [], y :: ys, _, _, h => by have := (h y).mpr (by simp); simp at this
  | x :: xs, [], _, _, h => by have := (h x).mp (by simp); simp at this
  | x :: xs, y :: ys, ha, hb, h => by
    rw [List.pairwise_cons] at ha hb
    have e : x = y := by
      have h1 := (h x).mp (by simp)
      have h2 := (h y).mpr (by simp)
      rw [List.mem_cons] at h1 h2
      rcases h1 with h1 | h1
      · exact h1
      · rcases h2 with h2 | h2
        · exact h2.symm
        · have := ha.1 y h2
          have := hb.1 x h1
          omega
    subst e
    congr 1
    refine rising_ext ha.2 hb.2 fun z => ?_
    constructor
    · intro hz
      have := (h z).mp (List.mem_cons_of_mem _ hz)
      rw [List.mem_cons] at this
      rcases this with rfl | this
      · have := ha.1 _ hz; omega
      · exact this
    · intro hz
      have := (h z).mpr (List.mem_cons_of_mem _ hz)
      rw [List.mem_cons] at this
      rcases this with rfl | this
      · have := hb.1 _ hz; omega
      · exact this
theorem rising_of {s : List Int} (h : s.Pairwise (· ≤ ·)) (n : s.Nodup) : s.Pairwise (· < ·) := by
  have := h.and n
  exact this.imp fun ⟨h1, h2⟩ => by omega
/-- sorted, and the same numbers, none twice: that is it -/
theorem sorted_is {s m d : List Int} (hp : List.Perm s m) (hs : s.Pairwise (· ≤ ·)) (hn : m.Nodup) (hd : d.Pairwise (· < ·)) (h : ∀ x, x ∈ m ↔ x ∈ d) : s = d := by
  refine rising_ext (rising_of hs (hp.nodup_iff.mpr hn)) hd fun x => ?_
  rw [hp.mem_iff]
  exact h x
theorem due_rising (l w : List Nat) : ((due l w).map fun n : Nat => (n : Int)).Pairwise (· < ·) := by
  rw [List.pairwise_map]
  refine List.Pairwise.imp (fun {a b} (h : a < b) => by omega) ?_
  exact List.Pairwise.filter _ List.pairwise_lt_range
end My
namespace My
open PySem L2 PyProof.Rows
/-- a text by its letters -/
abbrev T (l : List Nat) : V := .str ⟨l.toArray⟩
section
variable {X : Cx}
theorem mul_flat (l : List Nat) (n : Nat) : ((List.replicate n l.toArray).foldl (· ++ ·) (#[] : Array Nat)) = (List.replicate n l).flatten.toArray := by
  have h : ∀ (m : Nat) (acc : List Nat), (List.replicate m l.toArray).foldl (· ++ ·) acc.toArray = (acc ++ (List.replicate m l).flatten).toArray := by
    intro m
    induction m with
    | zero => intro acc; simp
    | succ m ih =>
      intro acc
      rw [List.replicate_succ, List.foldl_cons]
      have e : acc.toArray ++ l.toArray = (acc ++ l).toArray := by simp
      rw [e, ih, List.replicate_succ, List.flatten_cons, List.append_assoc]
  have := h n []
  simpa using this
theorem op_mul_str : OpR X (binaryOp .Mult) (fun x y H Q => ∃ l n, x = T l ∧ y = .int (n : Nat) ∧ 1 ≤ n ∧ n ≤ 1000 ∧ l.length ≤ 1000 ∧ Q (T (List.replicate n l).flatten) H) := by
  intro pins s σ H x y v u Q I rx ry h
  obtain ⟨l, n, rfl, rfl, h1, h2, h3, q⟩ := h
  obtain ⟨t, rfl⟩ := rx
  obtain ⟨t', rfl⟩ := ry
  have hlen : (⟨l.toArray⟩ : Str).length = l.length := by simp [Str.length]
  have ok : MulOk ⟨l.toArray⟩ (n : Int) := by
    refine ⟨?_, fun _ _ => ?_, fun _ _ => ?_⟩
    · have a1 : decide ((n : Int) < -(2 ^ 63 : Int)) = false := decide_eq_false (by omega)
      have a2 : decide ((n : Int) ≥ 2 ^ 63) = false := decide_eq_false (by omega)
      rw [a1, a2]
      rfl
    · rw [hlen]
      have : (1000000 : Int) ≤ (2 ^ 63 - 1) / (n : Int) := by
        rw [Int.le_ediv_iff_mul_le (by omega)]
        omega
      omega
    · rw [hlen]
      have e : (n : Int).toNat = n := by omega
      rw [e]
      have : l.length * n ≤ 1000 * 1000 := Nat.mul_le_mul h3 h2
      have z : (1000000 : Nat) ≤ sizeLine := by decide
      simp [Builtin.Str.tooLong]
      omega
  refine SB.mul ok fun t'' k => ?_
  have em : Txt.mul ⟨l.toArray⟩ (n : Int) = ⟨(List.replicate n l).flatten.toArray⟩ := by
    unfold Txt.mul
    rw [if_neg (by omega)]
    split
    · rename_i c
      rw [hlen] at c
      simp at c
      rcases c with c | c
      · have : n = 1 := by omega
        subst this
        simp
      · subst c
        simp
    · have e : (n : Int).toNat = n := by omega
      rw [e]
      exact congrArg Str.mk (mul_flat l n)
  rw [em]
  exact ⟨.str _, H, I.tok _, ⟨_, rfl⟩, q⟩
theorem call_repr_bl : CallR X (.builtin "repr") (fun xs H Q => ∃ b, xs = [.bl b] ∧ Q (.str (if b then "True" else "False")) H) := by
  intro pins s σ H xs us Q I r h
  obtain ⟨b, rfl, q⟩ := h
  obtain ⟨u, rfl, e⟩ := vals1 r
  cases e
  exact PySem.P.repr_of_bool ⟨.str _, H, I.tok _, ⟨_, rfl⟩, q⟩
/-- a module's constant that is an int -/
theorem pe_globI {x : Str} {n : Int} {pos : Pos} (h : ∃ t, X.mg x = some (.int n t)) (hg : Gl X x := by rfl) (hd : (x == ("__debug__" : Str)) = false := by decide) : PE X (.Name x pos) (tC (.int n)) := by
  obtain ⟨t, e⟩ := h
  exact pe_glob (v := .int n) hg e ⟨t, rfl⟩ hd
variable {CX : CXT} {k : Nat} {f : Addr} {fd : FuncData} {ps ks : List Str} {sp : Sp} {E : XK} {x : Str} {p pos : Pos} {kws : List Keyword} {tk : TA} {g : List Value → List Value → List Value} {gV : List V → List V → List V}
/-- f(a=.., b=..) -/
theorem pe_callKK (F : FnOk X.prog X.w X.K X.mg X.base CX k f fd ps sp) (hr : Room k X.A) (hg : Gl X x) (hm : X.mg x = some (.ref f)) (hk : PySem.W.keepIn X.K (.ref f) = true) (hb : KBinds X.K fd ps ks g gV) (hx : Passes CX X E)
    (hkw : PK X kws tk) (hall : (backToKw pos (keywordEach kws X.env)).all (·.1.isSome) = true := by rfl) (hks : (backToKw pos (keywordEach kws X.env)).filterMap (·.1) = ks := by rfl)
    (hdb : (x == ("__debug__" : Str)) = false := by decide)
    (hpl : ((backTo pos (starEach [] X.env)).any (·.1) || (backToKw pos (keywordEach kws X.env)).any (·.1.isNone)) = false := by rfl) :
    PE X (.Call (.Name x p) [] kws pos) (tCallK sp gV E tNil tk) := by
  refine ⟨fun pins s σ H Q I h => ?_⟩
  refine wpAny_Call_Name_kw (ld_glob I hg hm ?_ hdb)
  refine PySem.W.callWith_KW0 (h₀ := X.base) I.ok.mod.kin hk hall (thn (hkw.run pos pins s σ H _ I h) fun ws s2 ⟨zs, H2, I2, rz, q2⟩ => ⟨I2.kIn, ?_⟩) hpl
  rw [hks]
  exact run_fnk F hr hb hx I2 .nil rz q2
end
/-! ### a def that stands, and one that keeps a promise -/
def Def (K : PySem.W.Frag) (mg : Str → Option Value) (x : Str) (st : Stmt) (ps : List Str) : Prop := ∃ (f : Addr) (fd : FuncData), Fun K x x st f fd ∧ mg x = some (.ref f) ∧ Binds K fd ps []
section
variable {P : Program} {w : World} {K : PySem.W.Frag} {mg : Str → Option Value} {base : Heap}
def Good (P : Program) (w : World) (K : PySem.W.Frag) (mg : Str → Option Value) (base : Heap) (x : Str) (st : Stmt) (ps : List Str) (k : Nat) (sp : Sp) : Prop := ∃ (f : Addr) (fd : FuncData), FnOk P w K mg base CX0 k f fd ps sp ∧ mg x = some (.ref f) ∧ PySem.W.keepIn K (.ref f) = true ∧ Binds K fd ps [] ∧ Fun K x x st f fd
theorem Def.good {x : Str} {st : Stmt} {ps : List Str} {k : Nat} {sp : Sp} (D : Def K mg x st ps) (h : ∀ f fd, Fun K x x st f fd → FnOk P w K mg base CX0 k f fd ps sp) : Good P w K mg base x st ps k sp := by
  obtain ⟨f, fd, F, m, b⟩ := D
  exact ⟨f, fd, h f fd F, m, F.kp, b, F⟩
theorem def_mk {h : Heap} (X : K.In h) (G : h.Ns mainGlobals mg) {x : Str} {st : Stmt} {ps : List Str} {f : Addr} {oc : Value} {od an : Option Addr} {osl : Array (Option Value)} {kV doc pm cdv ct : Value} (a : PySem.W.nsIn K mainGlobals x = some (some (.ref f)))
    (l : K.lookup f = some ⟨oc, od, .func (PySem.W.fnOf x x (defArgs st) (defBody st) (defScope st) .none kV doc pm an cdv ct), osl⟩) (c : PySem.W.codeIn K cdv x = true) (k : PySem.W.keepIn K (.ref f) = true)
    (hb : ∀ (kV doc pm : Value) (an : Option Addr) (cdv ct : Value) (us : List Value), us.length = ps.length → bindArgs (PySem.W.fnOf x x (defArgs st) (defBody st) (defScope st) .none kV doc pm an cdv ct) ⟨us, []⟩ = pure (ps.zip us)) : Def K mg x st ps :=
  ⟨f, _, fun_mk l c k, PySem.W.mg_of X G a, (fun_mk l c k).binds hb⟩
theorem fun_kbinds {x qual : Str} {st : Stmt} {f : Addr} {fd : FuncData} {ps ks : List Str} (F : Fun K x qual st f fd) (g : List Value → List Value → List Value) (gV : List V → List V → List V)
    (hrel : ∀ {vs : List V} {us : List Value} {zs : List V} {ws : List Value}, Vals vs us → Vals zs ws → Vals (gV vs zs) (g us ws))
    (h : ∀ (kV doc pm : Value) (an : Option Addr) (cdv ct : Value) (us ws : List Value), (g us ws).length = ps.length → bindArgs (PySem.W.fnOf x qual (defArgs st) (defBody st) (defScope st) .none kV doc pm an cdv ct) ⟨us, ks.zip ws⟩ = pure (ps.zip (g us ws))) : KBinds K fd ps ks g gV := by
  obtain ⟨oc, od, kV, doc, pm, an, cdv, ct, osl, rfl, lk, hcd⟩ := F.ex
  exact ⟨fun s us ws X hl => .of_eq (h kV doc pm an cdv ct us ws hl), hrel⟩
/-- two keywords, in the parameters' order, or turned; one -/
def g12 {α : Type} : List α → List α → List α | [], [a, b] => [a, b] | _, _ => []
def g21 {α : Type} : List α → List α → List α | [], [a, b] => [b, a] | _, _ => []
def g1 {α : Type} : List α → List α → List α | [], [a] => [a] | _, _ => []
theorem g12_inv {α : Type} {us ws : List α} (h : (g12 us ws).length = 2) : us = [] ∧ ∃ a b, ws = [a, b] := by
  match us, ws, h with
  | [], [a, b], _ => exact ⟨rfl, a, b, rfl⟩
  | [], [], h => exact absurd h (by simp [g12, g21, g1])
  | [], [_], h => exact absurd h (by simp [g12])
  | [], _ :: _ :: _ :: _, h => exact absurd h (by simp [g12])
  | _ :: _, _, h => exact absurd h (by simp [g12])
theorem g21_inv {α : Type} {us ws : List α} (h : (g21 us ws).length = 2) : us = [] ∧ ∃ a b, ws = [a, b] := by
  match us, ws, h with
  | [], [a, b], _ => exact ⟨rfl, a, b, rfl⟩
  | [], [], h => exact absurd h (by simp [g12, g21, g1])
  | [], [_], h => exact absurd h (by simp [g21])
  | [], _ :: _ :: _ :: _, h => exact absurd h (by simp [g21])
  | _ :: _, _, h => exact absurd h (by simp [g21])
theorem g1_inv {α : Type} {us ws : List α} (h : (g1 us ws).length = 1) : us = [] ∧ ∃ a, ws = [a] := by
  match us, ws, h with
  | [], [a], _ => exact ⟨rfl, a, rfl⟩
  | [], [], h => exact absurd h (by simp [g12, g21, g1])
  | [], _ :: _ :: _, h => exact absurd h (by simp [g1])
  | _ :: _, _, h => exact absurd h (by simp [g1])
theorem rel12 {vs : List V} {us : List Value} {zs : List V} {ws : List Value} (a : Vals vs us) (b : Vals zs ws) : Vals (g12 vs zs) (g12 us ws) := by
  cases a with
  | nil =>
    cases b with
    | nil => exact .nil
    | cons r b =>
      cases b with
      | nil => exact .nil
      | cons r2 b =>
        cases b with
        | nil => exact .cons r (.cons r2 .nil)
        | cons r3 b => exact .nil
  | cons r a => exact .nil
theorem rel21 {vs : List V} {us : List Value} {zs : List V} {ws : List Value} (a : Vals vs us) (b : Vals zs ws) : Vals (g21 vs zs) (g21 us ws) := by
  cases a with
  | nil =>
    cases b with
    | nil => exact .nil
    | cons r b =>
      cases b with
      | nil => exact .nil
      | cons r2 b =>
        cases b with
        | nil => exact .cons r2 (.cons r .nil)
        | cons r3 b => exact .nil
  | cons r a => exact .nil
theorem rel1 {vs : List V} {us : List Value} {zs : List V} {ws : List Value} (a : Vals vs us) (b : Vals zs ws) : Vals (g1 vs zs) (g1 us ws) := by
  cases a with
  | nil =>
    cases b with
    | nil => exact .nil
    | cons r b =>
      cases b with
      | nil => exact .cons r .nil
      | cons r3 b => exact .nil
  | cons r a => exact .nil
end
end My
namespace My
open PySem L2 PyProof.Rows
theorem bl_is1 {x : Bool} {Q : VK} {H : Hp} (h : x = true) (q : Q (.bl true) H) : Q (.bl x) H := by
  rw [h]
  exact q
/-! ### a list that nobody asks for any more is forgotten -/
section
variable {X : Cx} {pins : List (Addr × Obj)} {σ : L2.St} {H1 H2 : Hp} {s : Shared} {D : Addr} {xs : List V}
theorem inv_drop (I : Inv X pins σ H1 s) (e : H1 = upd H2 D (.lst xs)) (n : H2 D = none) : Inv X pins σ H2 s := by
  subst e
  have off : ∀ b, upd H2 D (.lst xs) b = none → H2 b = none := fun b h => by
    by_cases hb : b = D
    · rw [hb]; exact n
    · rw [upd_ne hb] at h; exact h
  have back : ∀ b o, o ≠ HO.lst xs → upd H2 D (.lst xs) b = some o → H2 b = some o := fun b o ho h => by
    by_cases hb : b = D
    · subst hb
      rw [upd_same] at h
      exact absurd (Option.some.inj h).symm ho
    · rw [upd_ne hb] at h; exact h
  refine ⟨I.ok, I.os, I.bare, ?_, I.loc, I.cell, off _ I.free, fun x c h => off _ (I.freeC x c h), fun p hp => ?_, ?_, I.len⟩
  · have u := I.base
    refine ⟨u.keep, u.slot, fun b o h1 h2 h3 => off _ (u.free b o h1 h2 h3), u.there, fun b ys h => back _ _ (by intro z; cases z) (u.tups b ys h), fun b o v h => back _ _ (by intro z; cases z) (u.frzs b o v h), fun b ps h => ?_⟩
    obtain ⟨more, h⟩ := u.tbls b ps h
    exact ⟨more, back _ _ (by intro z; cases z) h⟩
  · obtain ⟨a, b, c⟩ := I.pin p hp
    exact ⟨a, off _ b, c⟩
  · intro a o h
    have ha : a ≠ D := fun z => by rw [z, n] at h; cases h
    refine (I.hok a o (by rw [upd_ne ha]; exact h)).stay (fun _ _ _ z => z) (fun b h => back _ _ (by intro z; cases z) h) (fun b ys h => back _ _ (by intro z; cases z) h)
theorem pe_drop {e : Expr} {te : TE} (he : PE X e te) : PE X e (fun σ H Q => te σ H fun v H1 => ∃ D xs H2, H1 = upd H2 D (.lst xs) ∧ H2 D = none ∧ Q v H2) := by
  refine ⟨fun pins s σ H Q I h => ?_⟩
  exact wpAny_mono (he.run pins s σ H _ I h) (fun u s1 ⟨v, H1, I1, r, D, xs, H2, e, n, q⟩ => ⟨v, H2, inv_drop I1 e n, r, q⟩) fun _ _ h => h
end
end My
namespace My
open PySem L2 PyProof.Rows
def topS (i : Nat) : Stmt := PySem.Challenge.pw_suretexts_k12_whole_words_in_rings.main.body.getD i (.Pass ⟨0, 0, 0, 0⟩)
abbrev sis_integer : Stmt := topS 6
theorem scis_integer : FnScope ["value"] ["value"] (defScope sis_integer) := ⟨rfl, rfl, rfl, by decide +kernel, rfl, by decide +kernel, by decide +kernel⟩
abbrev sis_count : Stmt := topS 7
theorem scis_count : FnScope ["value"] ["value"] (defScope sis_count) := ⟨rfl, rfl, rfl, by decide +kernel, rfl, by decide +kernel, by decide +kernel⟩
abbrev sis_letter : Stmt := topS 8
theorem scis_letter : FnScope ["sign"] ["sign"] (defScope sis_letter) := ⟨rfl, rfl, rfl, by decide +kernel, rfl, by decide +kernel, by decide +kernel⟩
abbrev slongest_borders : Stmt := topS 10
theorem sclongest_borders : FnScope ["word", "lengths", "kept", "sign"] ["word"] (defScope slongest_borders) := ⟨rfl, rfl, rfl, by decide +kernel, rfl, by decide +kernel, by decide +kernel⟩
abbrev sstarts_in : Stmt := topS 11
theorem scstarts_in : FnScope ["cycle", "word", "lengths", "found", "kept", "at", "sign"] ["cycle", "word"] (defScope sstarts_in) := ⟨rfl, rfl, rfl, by decide +kernel, rfl, by decide +kernel, by decide +kernel⟩
abbrev sis_text : Stmt := topS 14
theorem scis_text : FnScope ["value", "sign"] ["value"] (defScope sis_text) := ⟨rfl, rfl, rfl, by decide +kernel, rfl, by decide +kernel, by decide +kernel⟩
abbrev sis_ring : Stmt := topS 15
theorem scis_ring : FnScope ["value"] ["value"] (defScope sis_ring) := ⟨rfl, rfl, rfl, by decide +kernel, rfl, by decide +kernel, by decide +kernel⟩
abbrev sneed_ring : Stmt := topS 16
theorem scneed_ring : FnScope ["ring"] ["ring"] (defScope sneed_ring) := ⟨rfl, rfl, rfl, by decide +kernel, rfl, by decide +kernel, by decide +kernel⟩
abbrev sneed_word : Stmt := topS 17
theorem scneed_word : FnScope ["word"] ["word"] (defScope sneed_word) := ⟨rfl, rfl, rfl, by decide +kernel, rfl, by decide +kernel, by decide +kernel⟩
abbrev sturned : Stmt := topS 18
theorem scturned : FnScope ["ring", "by"] ["ring", "by"] (defScope sturned) := ⟨rfl, rfl, rfl, by decide +kernel, rfl, by decide +kernel, by decide +kernel⟩
abbrev s_turned_to : Stmt := topS 19
theorem sc_turned_to : FnScope ["ring", "place"] ["ring", "place"] (defScope s_turned_to) := ⟨rfl, rfl, rfl, by decide +kernel, rfl, by decide +kernel, by decide +kernel⟩
abbrev sborders : Stmt := topS 20
theorem scborders : FnScope ["word"] ["word"] (defScope sborders) := ⟨rfl, rfl, rfl, by decide +kernel, rfl, by decide +kernel, by decide +kernel⟩
abbrev sread_on : Stmt := topS 21
theorem scread_on : FnScope ["ring", "place", "many", "k"] ["ring", "place", "many"] (defScope sread_on) := ⟨rfl, rfl, rfl, by decide +kernel, rfl, by decide +kernel, by decide +kernel⟩
abbrev splain_begins : Stmt := topS 22
theorem scplain_begins : FnScope ["ring", "word", "place"] ["ring", "word"] (defScope splain_begins) := ⟨rfl, rfl, rfl, by decide +kernel, rfl, by decide +kernel, by decide +kernel⟩
abbrev sbegins : Stmt := topS 23
theorem scbegins : FnScope ["ring", "word"] ["ring", "word"] (defScope sbegins) := ⟨rfl, rfl, rfl, by decide +kernel, rfl, by decide +kernel, by decide +kernel⟩
abbrev sstands_in : Stmt := topS 24
theorem scstands_in : FnScope ["ring", "word"] ["ring", "word"] (defScope sstands_in) := ⟨rfl, rfl, rfl, by decide +kernel, rfl, by decide +kernel, by decide +kernel⟩
abbrev speriod_of : Stmt := topS 25
theorem scperiod_of : FnScope ["ring", "step"] ["ring"] (defScope speriod_of) := ⟨rfl, rfl, rfl, by decide +kernel, rfl, by decide +kernel, by decide +kernel⟩
abbrev s_law_pot : Stmt := topS 27
theorem sc_law_pot : FnScope ["_law_script", "_law_k", "_law_cell"] ["_law_script", "_law_k"] (defScope s_law_pot) := ⟨rfl, rfl, rfl, by decide +kernel, rfl, by decide +kernel, by decide +kernel⟩
abbrev s_law_draw : Stmt := topS 28
theorem sc_law_draw : FnScope ["_law_pot_here", "_law_size", "_law_digit"] ["_law_pot_here", "_law_size"] (defScope s_law_draw) := ⟨rfl, rfl, rfl, by decide +kernel, rfl, by decide +kernel, by decide +kernel⟩
abbrev s_law_pick : Stmt := topS 29
theorem sc_law_pick : FnScope ["_law_pot_here", "_law_some"] ["_law_pot_here", "_law_some"] (defScope s_law_pick) := ⟨rfl, rfl, rfl, by decide +kernel, rfl, by decide +kernel, by decide +kernel⟩
abbrev s_law_ring : Stmt := topS 30
theorem sc_law_ring : FnScope ["_law_pot_here", "_law_most", "_law_letters", "_law_found", "_law_turn"] ["_law_pot_here", "_law_most"] (defScope s_law_ring) := ⟨rfl, rfl, rfl, by decide +kernel, rfl, by decide +kernel, by decide +kernel⟩
abbrev s_law_round : Stmt := topS 31
theorem sc_law_round : FnScope ["_law_ring_here", "_law_place", "_law_many", "_law_found"] ["_law_ring_here", "_law_place", "_law_many"] (defScope s_law_round) := ⟨rfl, rfl, rfl, by decide +kernel, rfl, by decide +kernel, by decide +kernel⟩
abbrev s_law_borders : Stmt := topS 32
theorem sc_law_borders : FnScope ["_law_word", "_law_found", "_law_end", "_law_part", "_law_many"] ["_law_word"] (defScope s_law_borders) := ⟨rfl, rfl, rfl, by decide +kernel, rfl, by decide +kernel, by decide +kernel⟩
abbrev s_law_begins : Stmt := topS 33
theorem sc_law_begins : FnScope ["_law_ring_here", "_law_word", "_law_place"] ["_law_ring_here", "_law_word"] (defScope s_law_begins) := ⟨rfl, rfl, rfl, by decide +kernel, rfl, by decide +kernel, by decide +kernel⟩
abbrev s_law_word_right : Stmt := topS 34
theorem sc_law_word_right : FnScope ["_law_ring_here", "_law_word", "_law_by", "_law_due", "_law_told", "_law_period", "_law_late", "_law_place"] ["_law_ring_here", "_law_word", "_law_by"] (defScope s_law_word_right) := ⟨rfl, rfl, rfl, by decide +kernel, rfl, by decide +kernel, by decide +kernel⟩
abbrev slaw : Stmt := topS 35
theorem sclaw : FnScope ["_law_script", "_law_pot_here", "_law_ring_here", "_law_by", "_law_words", "_law_turn", "_law_word", "_law_at"] ["_law_script"] (defScope slaw) := ⟨rfl, rfl, rfl, by decide +kernel, rfl, by decide +kernel, by decide +kernel⟩
structure Bs (mg : Str → Option Value) : Prop where
  isinstance : mg "isinstance" = none
  int : mg "int" = none
  bool : mg "bool" = none
  str : mg "str" = none
  len : mg "len" = none
  range : mg "range" = none
  abs : mg "abs" = none
  max : mg "max" = none
  divmod : mg "divmod" = none
  sorted : mg "sorted" = none
  repr : mg "repr" = none
  all : mg "all" = none
structure Glo (mg : Str → Option Value) : Prop where
  MOST_LETTERS : ∃ t, mg "MOST_LETTERS" = some (.int 400 t)
/-! ### texts as lists of letters -/
def Wd (l : List Nat) : Prop := 0 < l.length ∧ l.length ≤ 100 ∧ ∀ c ∈ l, 97 ≤ c ∧ c ≤ 122
abbrev iv (L : List Nat) : List V := L.map fun n : Nat => V.int (n : Int)
theorem T_len (l : List Nat) : (⟨l.toArray⟩ : Str).length = l.length := by simp [Str.length]
theorem T_line {l : List Nat} (h : l.length ≤ 1000) : (⟨l.toArray⟩ : Str).length ≤ sizeLine := by
  rw [T_len]
  exact Nat.le_of_lt (small1000 h)
theorem T_app (a b : List Nat) : (⟨a.toArray⟩ : Str) ++ (⟨b.toArray⟩ : Str) = ⟨(a ++ b).toArray⟩ := by
  exact congrArg Str.mk (show a.toArray ++ b.toArray = (a ++ b).toArray by simp)
theorem T_inj {a b : List Nat} : T a = T b ↔ a = b := by
  constructor
  · intro h
    have h2 : (⟨a.toArray⟩ : Str) = ⟨b.toArray⟩ := V.str.inj h
    have h3 : a.toArray = b.toArray := Str.mk.inj h2
    simpa using congrArg Array.toList h3
  · rintro rfl
    rfl
theorem T_nil : Str.ofString "" = ⟨([] : List Nat).toArray⟩ := by decide +kernel
theorem at_nat {l : List Nat} {i c : Nat} (h : l[i]? = some c) : atI (⟨l.toArray⟩ : Str).cps.toList (i : Int) = some c := by
  show atI l.toArray.toList (i : Int) = some c
  exact atI_nat (by simpa using h)
theorem same_new {H : Hp} {p : Addr} (h : H p = none) (o : HO) : Same H (upd H p o) := fun b u q => by rw [upd_ne (ne_of_none q h)]; exact q
theorem cut_from {l : List Nat} {p : Nat} : cutS ⟨l.toArray⟩ (some (p : Int)) none = ⟨(l.drop p).toArray⟩ := by
  unfold cutS
  rw [T_len, HT.sIx_nat, HT.sIx_none]
  refine congrArg Str.mk ?_
  show ((l.toArray.toList.drop (min p l.length)).take (l.length - min p l.length)).toArray = _
  rw [List.toList_toArray]
  congr 1
  rw [List.take_of_length_le (by rw [List.length_drop]; omega)]
  rcases Nat.le_total p l.length with h | h
  · rw [Nat.min_eq_left h]
  · rw [Nat.min_eq_right h, List.drop_eq_nil_of_le h, List.drop_eq_nil_of_le (Nat.le_refl _)]
theorem cut_to {l : List Nat} {p : Nat} : cutS ⟨l.toArray⟩ none (some (p : Int)) = ⟨(l.take p).toArray⟩ := by
  unfold cutS
  rw [T_len, HT.sIx_nat, HT.sIx_none]
  refine congrArg Str.mk ?_
  show ((l.toArray.toList.drop 0).take (min p l.length - 0)).toArray = _
  rw [List.toList_toArray, List.drop_zero, Nat.sub_zero]
  congr 1
  rcases Nat.le_total p l.length with h | h
  · rw [Nat.min_eq_left h]
  · rw [Nat.min_eq_right h, List.take_of_length_le h, List.take_of_length_le (Nat.le_refl _)]
theorem iteNo {c A B : Prop} [Decidable c] (h : ¬ c) (b : B) : if decide c = true then A else B := by
  rw [decide_eq_false h]
  exact iteF b
theorem iteNot {c A B : Prop} [Decidable c] (h : ¬ c) (a : A) : if (!decide c) = true then A else B := by
  rw [decide_eq_false h]
  exact iteT a
theorem iteNN {c A B : Prop} [Decidable c] (h : ¬ c) (b : B) : if (!!decide c) = true then A else B := by
  rw [decide_eq_false h]
  exact iteF b
theorem of_a : Str.ofString "a" = ⟨#[97]⟩ := by decide +kernel
theorem of_z : Str.ofString "z" = ⟨#[122]⟩ := by decide +kernel
theorem not_lt_one {a b : Nat} (h : b ≤ a) : ¬ ([a] : List Nat) < [b] := by
  intro z
  rw [List.cons_lt_cons_iff] at z
  rcases z with z | ⟨_, z⟩
  · omega
  · exact absurd z (List.lt_irrefl _)
theorem iv_at {L : List Nat} {j b : Nat} (h : L[j]? = some b) : atI (iv L) (j : Int) = some (.int (b : Int)) := by
  refine atI_nat ?_
  rw [iv, List.getElem?_map, h]
  rfl
theorem iv_app (L : List Nat) (n : Nat) : iv (L ++ [n]) = iv L ++ [V.int (n : Int)] := by
  unfold iv
  rw [List.map_append]
  rfl
theorem same_upd {H H' : Hp} {p : Addr} {o : HO} (h : Same H H') (np : H p = none) : Same H (upd H' p o) := fun b u q => by
  rw [upd_ne (ne_of_none q np)]
  exact h b u q
theorem iteYes {c A B : Prop} [Decidable c] (h : c) (a : A) : if decide c = true then A else B := by
  rw [decide_eq_true h]
  exact iteT a
theorem bl_true {c : Prop} [Decidable c] {Q : VK} {H : Hp} (h : c) (q : Q (.bl true) H) : Q (.bl (decide c)) H := by
  rw [decide_eq_true h]
  exact q
section
variable {P : Program} {w : World} {K : PySem.W.Frag} {mg : Str → Option Value} {base : Heap}
def spis_integer (_ : PySem.W.Frag) : Sp := fun vs H Q _ => ∃ n : Int, vs = [.int n] ∧ Q (.bl true) H
theorem okis_integer (D : Def K mg "is_integer" sis_integer ["value"]) (B : Bs mg) (Glb : Glo mg) :
    Good P w K mg base "is_integer" sis_integer ["value"] 1 (spis_integer K) := by
  refine D.good fun f fd F => ?_
  refine F.ok scis_integer (fun vs H Q E h => ?_) (fun cdv A outer s H vs Q E hr h => ?_)
  · obtain ⟨n, rfl, q⟩ := h
    first | rfl | (rcases h with ⟨_, _, rfl, _⟩ | ⟨_, rfl, _⟩ <;> rfl)
  obtain ⟨n, rfl, q⟩ := h
  refine ⟨_, (pss_one (ps_ret (pe_and (pe_callB call_isi (by rfl) B.isinstance (by decide +kernel) (pa_cons (pv 0) (pa_cons (pe_bltn (v := .ty "int") (by rfl) B.int (by decide +kernel) rfl) pa_nil))) (pe_one (pe_not (pe_callB call_isi (by rfl) B.isinstance (by decide +kernel) (pa_cons (pv 0) (pa_cons (pe_bltn (v := .ty "bool") (by rfl) B.bool (by decide +kernel) rfl) pa_nil)))))))), ?_⟩
  exact ⟨_, rfl, _, _, _, _, true, rfl, .ty _, .base (.int n), kit_ty (by decide +kernel), _, rfl, iteT ⟨_, rfl, _, _, _, _, false, rfl, .ty _, .base (.int n), kit_ty (by decide +kernel), _, rfl, q⟩⟩
def spis_count (_ : PySem.W.Frag) : Sp := fun vs H Q _ => ∃ n : Nat, vs = [.int (n : Int)] ∧ Q (.bl true) H
theorem okis_count (D : Def K mg "is_count" sis_count ["value"]) (B : Bs mg) (Glb : Glo mg)
    (his_integer : Good P w K mg base "is_integer" sis_integer ["value"] 1 (spis_integer K)) :
    Good P w K mg base "is_count" sis_count ["value"] 2 (spis_count K) := by
  refine D.good fun f fd F => ?_
  obtain ⟨fis_integer, dis_integer, Ois_integer, mis_integer, kis_integer, bis_integer, Fis_integer⟩ := his_integer
  refine F.ok scis_count (fun vs H Q E h => ?_) (fun cdv A outer s H vs Q E hr h => ?_)
  · obtain ⟨n, rfl, q⟩ := h
    first | rfl | (rcases h with ⟨_, _, rfl, _⟩ | ⟨_, rfl, _⟩ <;> rfl)
  obtain ⟨n, rfl, q⟩ := h
  refine ⟨_, (pss_one (ps_ret (pe_and (pe_call Ois_integer hr rfl mis_integer kis_integer bis_integer .nil pass0 (pa_cons (pv 0) pa_nil)) (pe_one (pe_cmpR op_ge (pv 0) pe_int (nomark _)))))), ?_⟩
  exact ⟨_, rfl, n, rfl, _, rfl, iteT ⟨_, rfl, _, _, rfl, rfl, bl_true (by omega) q⟩⟩
def spis_letter (_ : PySem.W.Frag) : Sp := fun vs H Q _ => ∃ c : Nat, vs = [.str ⟨#[c]⟩] ∧ 97 ≤ c ∧ c ≤ 122 ∧ Q (.bl true) H
theorem okis_letter (D : Def K mg "is_letter" sis_letter ["sign"]) (B : Bs mg) (Glb : Glo mg) :
    Good P w K mg base "is_letter" sis_letter ["sign"] 1 (spis_letter K) := by
  refine D.good fun f fd F => ?_
  refine F.ok scis_letter (fun vs H Q E h => ?_) (fun cdv A outer s H vs Q E hr h => ?_)
  · obtain ⟨c, rfl, h1, h2, q⟩ := h
    first | rfl | (rcases h with ⟨_, _, rfl, _⟩ | ⟨_, rfl, _⟩ <;> rfl)
  obtain ⟨c, rfl, h1, h2, q⟩ := h
  refine ⟨_, (pss_one (ps_ret (pe_chain op_le_str op_le_str pe_str (pv 0) pe_str))), ?_⟩
  have k1 : ¬ ((⟨#[c]⟩ : Str).cps.toList < (Str.ofString "a").cps.toList) := by
    rw [of_a]
    exact not_lt_one h1
  have k2 : ¬ ((Str.ofString "z").cps.toList < (⟨#[c]⟩ : Str).cps.toList) := by
    rw [of_z]
    exact not_lt_one h2
  refine ⟨_, rfl, _, _, rfl, rfl, _, rfl, iteNot k1 ⟨_, _, rfl, rfl, ?_⟩⟩
  show Q (.bl (!decide _)) _
  rw [decide_eq_false k2]
  exact q
def spis_text (_ : PySem.W.Frag) : Sp := fun vs H Q _ => ∃ l, vs = [T l] ∧ Wd l ∧ Q (.bl true) H
theorem okis_text (D : Def K mg "is_text" sis_text ["value"]) (B : Bs mg) (Glb : Glo mg)
    (his_letter : Good P w K mg base "is_letter" sis_letter ["sign"] 1 (spis_letter K)) :
    Good P w K mg base "is_text" sis_text ["value"] 2 (spis_text K) := by
  refine D.good fun f fd F => ?_
  obtain ⟨fis_letter, dis_letter, Ois_letter, mis_letter, kis_letter, bis_letter, Fis_letter⟩ := his_letter
  refine F.ok scis_text (fun vs H Q E h => ?_) (fun cdv A outer s H vs Q E hr h => ?_)
  · obtain ⟨l, rfl, hl, q⟩ := h
    first | rfl | (rcases h with ⟨_, _, rfl, _⟩ | ⟨_, rfl, _⟩ <;> rfl)
  obtain ⟨l, rfl, hl, q⟩ := h
  refine ⟨_, (pss_cons (ps_if (PW.pt (pw_or (pt_not (pt_val (pe_callB call_isi (by rfl) B.isinstance (by decide +kernel) (pa_cons (pv 0) (pa_cons (pe_bltn (v := .ty "str") (by rfl) B.str (by decide +kernel) rfl) pa_nil))))) (pw_or1 (pt_cmpR op_gt (pe_callB call_len_str (by rfl) B.len (by decide +kernel) (pa_cons (pv 0) pa_nil)) (pe_globI Glb.MOST_LETTERS) (nomark _)))))
    (pss_one (ps_ret pe_bl)) pss_nil)
  (pss_one (ps_ret (pe_drop (pe_callB (cr_all rfl) (by rfl) B.all (by decide +kernel) (pa_cons (pe_lc (own := [("sign", 1)]) (g := gName 1) (by rfl) scis_text.nd (pi_str (pv 0)) (blkOk_by (own := [("sign", 1)]) (N := ["value", "sign"]) (sc := defScope sis_text) (by decide +kernel)) (fun _ _ _ _ _ => (pg_name (i := 1) scis_text.nd rfl (by first | exact Or.inl rfl | exact Or.inr rfl))) (fun _ _ _ _ _ => pts_nil) (fun _ _ _ _ _ => (pe_call Ois_letter hr rfl mis_letter kis_letter bis_letter .nil pass0 (pa_cons (pv 1) pa_nil)))) pa_nil)))))), ?_⟩
  have hlen := hl.2.1
  refine ⟨_, rfl, _, _, _, _, true, rfl, .ty _, .base (.str _), kit_ty (by decide +kernel), _, rfl, iteF ⟨_, rfl, _, rfl, T_line (by omega), _, _, rfl, rfl, _, rfl, iteNo (by rw [T_len]; omega) ?_⟩⟩
  refine ⟨_, rfl, _, rfl, fun D nD => lc_it walk_str (fun i H' => H' = upd H D (.lst ((List.replicate i true).map V.bl))) rfl (fun _ _ _ _ => trivial) ?_ ?_⟩
  · rintro i y H1 H2 hi rfl ⟨rfl, c, hc, rfl⟩
    have hm := hl.2.2 c (by
      have := Array.mem_of_getElem? hc
      simpa using this)
    refine ⟨rfl, _, rfl, c, rfl, hm.1, hm.2, _, upd_same, ?_, ?_⟩
    · rw [List.length_map, List.length_replicate]
      have hi2 : i < (⟨l.toArray⟩ : Str).length := hi
      exact Nat.lt_of_lt_of_le (by rw [T_len] at hi2; omega : i < 1000) (by decide)
    · rw [upd_upd, List.replicate_succ', List.map_append]
      rfl
  · rintro H1 rfl
    refine ⟨D, _, rfl, SqL.of upd_same, D, _, H, rfl, nD, bl_is1 ?_ q⟩
    rw [List.all_eq_true]
    intro b hb
    rw [List.eq_of_mem_replicate hb]
    rfl
def spis_ring (_ : PySem.W.Frag) : Sp := fun vs H Q _ => ∃ l, vs = [T l] ∧ Wd l ∧ Q (.bl true) H
theorem okis_ring (D : Def K mg "is_ring" sis_ring ["value"]) (B : Bs mg) (Glb : Glo mg)
    (his_text : Good P w K mg base "is_text" sis_text ["value"] 2 (spis_text K)) :
    Good P w K mg base "is_ring" sis_ring ["value"] 3 (spis_ring K) := by
  refine D.good fun f fd F => ?_
  obtain ⟨fis_text, dis_text, Ois_text, mis_text, kis_text, bis_text, Fis_text⟩ := his_text
  refine F.ok scis_ring (fun vs H Q E h => ?_) (fun cdv A outer s H vs Q E hr h => ?_)
  · obtain ⟨l, rfl, hl, q⟩ := h
    first | rfl | (rcases h with ⟨_, _, rfl, _⟩ | ⟨_, rfl, _⟩ <;> rfl)
  obtain ⟨l, rfl, hl, q⟩ := h
  refine ⟨_, (pss_one (ps_ret (pe_and (pe_call Ois_text hr rfl mis_text kis_text bis_text .nil pass0 (pa_cons (pv 0) pa_nil)) (pe_one (pe_cmpR op_ne (pv 0) pe_str (nomark _)))))), ?_⟩
  refine ⟨_, rfl, l, rfl, hl, _, rfl, iteT ⟨_, rfl, rfl, ?_⟩⟩
  have e : ¬ (T l = V.str (Str.ofString "")) := by
    rw [T_nil, T_inj]
    intro z
    have := hl.1
    rw [z] at this
    exact absurd this (by decide)
  show Q (.bl (!decide (T l = V.str (Str.ofString "")))) H
  rw [decide_eq_false e]
  exact q
def spneed_ring (_ : PySem.W.Frag) : Sp := fun vs H Q _ => ∃ l, vs = [T l] ∧ Wd l ∧ Q .non H
theorem okneed_ring (D : Def K mg "need_ring" sneed_ring ["ring"]) (B : Bs mg) (Glb : Glo mg)
    (his_ring : Good P w K mg base "is_ring" sis_ring ["value"] 3 (spis_ring K)) :
    Good P w K mg base "need_ring" sneed_ring ["ring"] 4 (spneed_ring K) := by
  refine D.good fun f fd F => ?_
  obtain ⟨fis_ring, dis_ring, Ois_ring, mis_ring, kis_ring, bis_ring, Fis_ring⟩ := his_ring
  refine F.ok scneed_ring (fun vs H Q E h => ?_) (fun cdv A outer s H vs Q E hr h => ?_)
  · obtain ⟨l, rfl, hl, q⟩ := h
    first | rfl | (rcases h with ⟨_, _, rfl, _⟩ | ⟨_, rfl, _⟩ <;> rfl)
  obtain ⟨l, rfl, hl, q⟩ := h
  refine ⟨_, (pss_one (ps_if (pt_not (pt_val (pe_call Ois_ring hr rfl mis_ring kis_ring bis_ring .nil pass0 (pa_cons (pv 0) pa_nil))))
    (pss_one ps_never) pss_nil)), ?_⟩
  exact ⟨_, rfl, l, rfl, hl, _, rfl, iteF q⟩
def spneed_word (_ : PySem.W.Frag) : Sp := fun vs H Q _ => ∃ l, vs = [T l] ∧ Wd l ∧ Q .non H
theorem okneed_word (D : Def K mg "need_word" sneed_word ["word"]) (B : Bs mg) (Glb : Glo mg)
    (his_ring : Good P w K mg base "is_ring" sis_ring ["value"] 3 (spis_ring K)) :
    Good P w K mg base "need_word" sneed_word ["word"] 4 (spneed_word K) := by
  refine D.good fun f fd F => ?_
  obtain ⟨fis_ring, dis_ring, Ois_ring, mis_ring, kis_ring, bis_ring, Fis_ring⟩ := his_ring
  refine F.ok scneed_word (fun vs H Q E h => ?_) (fun cdv A outer s H vs Q E hr h => ?_)
  · obtain ⟨l, rfl, hl, q⟩ := h
    first | rfl | (rcases h with ⟨_, _, rfl, _⟩ | ⟨_, rfl, _⟩ <;> rfl)
  obtain ⟨l, rfl, hl, q⟩ := h
  refine ⟨_, (pss_one (ps_if (pt_not (pt_val (pe_call Ois_ring hr rfl mis_ring kis_ring bis_ring .nil pass0 (pa_cons (pv 0) pa_nil))))
    (pss_one ps_never) pss_nil)), ?_⟩
  exact ⟨_, rfl, l, rfl, hl, _, rfl, iteF q⟩
def sp_turned_to (_ : PySem.W.Frag) : Sp := fun vs H Q _ => ∃ l, ∃ p : Nat, vs = [T l, .int (p : Int)] ∧ Wd l ∧ p < l.length ∧ Q (T (rd l p l.length)) H
theorem ok_turned_to (D : Def K mg "_turned_to" s_turned_to ["ring", "place"]) (B : Bs mg) (Glb : Glo mg) :
    Good P w K mg base "_turned_to" s_turned_to ["ring", "place"] 1 (sp_turned_to K) := by
  refine D.good fun f fd F => ?_
  refine F.ok sc_turned_to (fun vs H Q E h => ?_) (fun cdv A outer s H vs Q E hr h => ?_)
  · obtain ⟨l, p, rfl, hl, hp, q⟩ := h
    first | rfl | (rcases h with ⟨_, _, rfl, _⟩ | ⟨_, rfl, _⟩ <;> rfl)
  obtain ⟨l, p, rfl, hl, hp, q⟩ := h
  refine ⟨_, (pss_one (ps_ret (pe_op op_add_str (pe_slice sl_str (pv 0) (po_some (pv 1)) po_none) (pe_slice sl_str (pv 0) po_none (po_some (pv 1)))))), ?_⟩
  have hlen := hl.2.1
  refine ⟨_, rfl, _, rfl, _, rfl, _, rfl, T_line (by omega), _, rfl, _, rfl, _, rfl, _, rfl, T_line (by omega), _, _, rfl, rfl, ?_⟩
  rw [cut_from, cut_to, T_app, ← rd_turn l p hp]
  exact ⟨by rw [T_len, T_len, List.length_drop, List.length_take]; exact Nat.le_of_lt (small1000 (by omega)), q⟩
def spturned (_ : PySem.W.Frag) : Sp := fun vs H Q _ => ∃ l, ∃ b : Nat, vs = [T l, .int (b : Int)] ∧ Wd l ∧ Q (T (rd l b l.length)) H
theorem okturned (D : Def K mg "turned" sturned ["ring", "by"]) (B : Bs mg) (Glb : Glo mg)
    (hneed_ring : Good P w K mg base "need_ring" sneed_ring ["ring"] 4 (spneed_ring K))
    (h_turned_to : Good P w K mg base "_turned_to" s_turned_to ["ring", "place"] 1 (sp_turned_to K))
    (his_count : Good P w K mg base "is_count" sis_count ["value"] 2 (spis_count K)) :
    Good P w K mg base "turned" sturned ["ring", "by"] 5 (spturned K) := by
  refine D.good fun f fd F => ?_
  obtain ⟨fneed_ring, dneed_ring, Oneed_ring, mneed_ring, kneed_ring, bneed_ring, Fneed_ring⟩ := hneed_ring
  obtain ⟨f_turned_to, d_turned_to, O_turned_to, m_turned_to, k_turned_to, b_turned_to, F_turned_to⟩ := h_turned_to
  obtain ⟨fis_count, dis_count, Ois_count, mis_count, kis_count, bis_count, Fis_count⟩ := his_count
  refine F.ok scturned (fun vs H Q E h => ?_) (fun cdv A outer s H vs Q E hr h => ?_)
  · obtain ⟨l, b, rfl, hl, q⟩ := h
    first | rfl | (rcases h with ⟨_, _, rfl, _⟩ | ⟨_, rfl, _⟩ <;> rfl)
  obtain ⟨l, b, rfl, hl, q⟩ := h
  refine ⟨_, (pss_cons (ps_expr (pe_call Oneed_ring hr rfl mneed_ring kneed_ring bneed_ring .nil pass0 (pa_cons (pv 0) pa_nil)))
  (pss_cons (ps_if (pt_not (pt_val (pe_call Ois_count (hr.mono (by decide)) rfl mis_count kis_count bis_count .nil pass0 (pa_cons (pv 1) pa_nil))))
    (pss_one ps_never) pss_nil)
  (pss_one (ps_ret (pe_call O_turned_to (hr.mono (by decide)) rfl m_turned_to k_turned_to b_turned_to .nil pass0 (pa_cons (pv 0) (pa_cons (pe_op op_mod (pv 1) (pe_callB call_len_str (by rfl) B.len (by decide +kernel) (pa_cons (pv 0) pa_nil))) pa_nil))))))), ?_⟩
  have hlen := hl.2.1
  have h0 := hl.1
  refine ⟨_, rfl, l, rfl, hl, _, rfl, b, rfl, _, rfl, iteF ?_⟩
  refine ⟨_, rfl, _, rfl, _, rfl, _, rfl, T_line (by omega), _, _, rfl, rfl, (by rw [T_len]; omega), l, b % l.length, ?_, hl, Nat.mod_lt _ h0, ?_⟩
  · rw [T_len]
    rfl
  · rw [rd_mod]
    exact q
def splongest_borders (_ : PySem.W.Frag) : Sp := fun vs H Q _ => ∃ l, vs = [T l] ∧ Wd l ∧ ∀ L p H', Bords l L → Same H H' → H p = none → H' p = some (.lst (iv L)) → Q (.ref p) H'
theorem oklongest_borders (D : Def K mg "longest_borders" slongest_borders ["word"]) (B : Bs mg) (Glb : Glo mg) :
    Good P w K mg base "longest_borders" slongest_borders ["word"] 1 (splongest_borders K) := by
  refine D.good fun f fd F => ?_
  refine F.ok sclongest_borders (fun vs H Q E h => ?_) (fun cdv A outer s H vs Q E hr h => ?_)
  · obtain ⟨l, rfl, hl, q⟩ := h
    first | rfl | (rcases h with ⟨_, _, rfl, _⟩ | ⟨_, rfl, _⟩ <;> rfl)
  obtain ⟨l, rfl, hl, q⟩ := h
  refine ⟨_, (pss_cons (ps_set (i := 1) sclongest_borders.nd rfl (by first | exact Or.inl rfl | exact Or.inr rfl) (pe_lst (pa_cons pe_int pa_nil)))
  (pss_cons (ps_set (i := 2) sclongest_borders.nd rfl (by first | exact Or.inl rfl | exact Or.inr rfl) pe_int)
  (pss_cons (ps_for PassesOwn.never rfl (pi_str (pe_slice sl_str (pv 0) (po_some pe_int) po_none)) (pg_name (i := 3) sclongest_borders.nd rfl (by first | exact Or.inl rfl | exact Or.inr rfl))
    (pss_cons (ps_while PassesOwn.never (PW.pt (pw_and (pt_cmpR op_gt (pv 2) pe_int (nomark _)) (pw_and1 (pt_cmpR op_ne (pe_ix ix_str (pv 0) (pv 2) (fun _ _ => rfl)) (pv 3) (nomark _)))))
    (pss_one (ps_set (i := 2) sclongest_borders.nd rfl (by first | exact Or.inl rfl | exact Or.inr rfl) (pe_ix ix_list (pv 1) (pe_op op_sub (pv 2) pe_int) (fun _ _ => rfl)))))
  (pss_cons (ps_if (pt_cmpR op_eq (pe_ix ix_str (pv 0) (pv 2) (fun _ _ => rfl)) (pv 3) (nomark _))
    (pss_one (ps_aug (i := 2) sclongest_borders.nd rfl (by first | exact Or.inl rfl | exact Or.inr rfl) pe_int ip_add)) pss_nil)
  (pss_one (ps_expr (pe_bm PySem.F.plainAttrs_list PySem.F.slot_list_append PySem.F.type_list_append mt_append (pv 1) (pa_cons (pv 2) pa_nil)))))))
  (pss_one (ps_ret (pv 1)))))), ?_⟩
  have hlen := hl.2.1
  have h0 := hl.1
  refine ⟨(by show 1 ≤ sizeLine; decide), fun p np => ?_⟩
  refine ⟨_, rfl, _, rfl, _, rfl, T_line (by omega), ?_⟩
  rw [show cutS ⟨l.toArray⟩ (some (1 : Int)) none = ⟨(l.drop 1).toArray⟩ from cut_from (p := 1)]
  have hsz : (⟨(l.drop 1).toArray⟩ : Str).cps.size = l.length - 1 := by
    show (l.drop 1).toArray.size = _
    rw [List.size_toArray, List.length_drop]
  refine ⟨_, rfl, for_it walk_str (fun i σ H' => ∃ (L : List Nat) (k : Nat) (v : Option V), σ = [some (T l), some (.ref p), some (.int (k : Int)), v] ∧ BordsTo l (i + 1) L ∧ Longest l ((l.drop 1).take i) k ∧ Same H H' ∧ H' p = some (.lst (iv L)))
    ⟨[0], 0, none, rfl, bordsTo_one h0, by simpa using longest_nil l, same_new np _, upd_same⟩ (fun _ _ _ _ _ => trivial) ?_ ?_⟩
  · rintro i x σ H1 H2 hi ⟨L, k, v, rfl, hB, hL, hS, hp⟩ ⟨rfl, c, hc, rfl⟩
    rw [hsz] at hi
    have hci : (l.drop 1)[i]? = some c := by
      have : (l.drop 1).toArray[i]? = some c := hc
      simpa using this
    have hki := longest_le hL
    rw [List.length_take, List.length_drop] at hki
    -- while kept > 0 and word[kept] != sign
    refine ⟨fun m σ H' => ∃ k : Nat, m = k ∧ σ = [some (T l), some (.ref p), some (.int (k : Int)), some (T [c])] ∧ At l ((l.drop 1).take i) c k ∧ k ≤ i ∧ H' = H2, ⟨k, k, rfl, rfl, at_start hL, by omega, rfl⟩, ?_⟩
    rintro m σ H' ⟨k, rfl, rfl, hA, hk, rfl⟩
    refine ⟨_, rfl, _, _, rfl, rfl, _, rfl, ?_⟩
    refine ite2 (fun c1 => ?pos) (fun c1 => ?neg)
    case' pos =>
      have hpos : (0 : Int) < (m : Int) := of_decide_eq_true c1
      have e := getD_lt (l := l) (i := m) (by omega)
      refine ⟨_, rfl, _, rfl, _, _, _, rfl, rfl, T_line (by omega), at_nat e, _, rfl, rfl, _, rfl, ?_⟩
      refine ite2 (fun c2 => ?_) (fun c2 => ?_)
      · have hne : l[m]? ≠ some c := by
          rw [e]
          intro z
          rw [Option.some.inj z] at c2
          simp at c2
        obtain ⟨b, eb, lb, hlt⟩ := bordsTo_at hB (k := m) (by omega) (by omega)
        refine ⟨fun σ' H'' => ∃ k' : Nat, k' < m ∧ σ' = [some (T l), some (.ref p), some (.int (k' : Int)), some (T [c])] ∧ At l ((l.drop 1).take i) c k' ∧ k' ≤ i ∧ H'' = H', fun σ' H'' ⟨k', h, e⟩ => ⟨k', h, k', rfl, e⟩, ?_⟩
        refine ⟨_, rfl, _, rfl, _, _, rfl, rfl, _, _, _, .int (b : Int), rfl, rfl, SqL.of hp, ?_, ?_⟩
        · rw [show (m : Int) - 1 = ((m - 1 : Nat) : Int) by omega]
          exact iv_at eb
        · exact ⟨b, hlt, rfl, at_fall hA hne lb, by omega, rfl⟩
      have fin : m = 0 ∨ l[m]? = some c := by
        right
        rw [e]
        have c3 : T [l.getD m 0] = T [c] := by
          have := Bool.eq_false_iff.mpr c2
          simpa using this
        have := T_inj.mp c3
        simpa using this
    case' neg =>
      have fin : m = 0 ∨ l[m]? = some c := .inl (by
        have : ¬ ((0 : Int) < (m : Int)) := of_decide_eq_false (Bool.eq_false_iff.mpr c1)
        omega)
    all_goals
      have e := getD_lt (l := l) (i := m) (by omega)
      have etk : (l.drop 1).take (i + 1) = (l.drop 1).take i ++ [c] := by
        rw [List.take_add_one, hci]
        rfl
      have hli : i + 1 < l.length := by omega
      have hL2 : L.length = i + 1 := hB.1
      refine ⟨_, rfl, _, rfl, _, _, _, rfl, rfl, T_line (by omega), at_nat e, _, rfl, rfl, _, rfl, ?_⟩
      refine ite2 (fun c2 => ?_) (fun c2 => ?_)
      · have he : l[m]? = some c := by
          rw [e]
          have c3 : T [l.getD m 0] = T [c] := of_decide_eq_true c2
          have := T_inj.mp c3
          simpa using this
        refine ⟨_, rfl, _, _, rfl, rfl, _, rfl, .inl ⟨rfl, _, SqL.of hp⟩, _, rfl, _, _, _, rfl, rfl, hp, ?_, ?_⟩
        · rw [List.length_map, hL2]
          exact small1000 (by omega)
        · have hL3 : Longest l ((l.drop 1).take (i + 1)) (m + 1) := by
            rw [etk]
            exact at_hit hA he
          refine ⟨L ++ [m + 1], m + 1, _, rfl, bordsTo_succ hli hB hL3, hL3, same_upd hS np, ?_⟩
          exact upd_same.trans (congrArg (fun z => some (HO.lst z)) (iv_app _ _).symm)
      · have hne : l[m]? ≠ some c := by
          rw [e]
          intro z
          rw [Option.some.inj z] at c2
          simp at c2
        have hm0 : m = 0 := by
          rcases fin with h | h
          · exact h
          · exact absurd h hne
        subst hm0
        refine ⟨_, rfl, .inl ⟨rfl, _, SqL.of hp⟩, _, rfl, _, _, _, rfl, rfl, hp, ?_, ?_⟩
        · rw [List.length_map, hL2]
          exact small1000 (by omega)
        · have hL3 : Longest l ((l.drop 1).take (i + 1)) 0 := by
            rw [etk]
            exact at_miss hA hne
          refine ⟨L ++ [0], 0, _, rfl, bordsTo_succ hli hB hL3, hL3, same_upd hS np, ?_⟩
          exact upd_same.trans (congrArg (fun z => some (HO.lst z)) (iv_app _ _).symm)
  · rintro σ H1 ⟨L, k, v, rfl, hB, hL, hS, hp⟩
    rw [hsz] at hB
    exact ⟨_, rfl, q L p H1 (by rw [show l.length - 1 + 1 = l.length by omega] at hB; exact hB) hS np hp⟩
end
end My
namespace My
open PySem L2 PyProof.Rows
theorem dueTo_yes {c w : List Nat} {i k : Nat} (h : Longest w (rd c 0 (i + 1)) k) (e : k = w.length) : w.length ≤ i + 1 ∧ dueTo c w (i + 1 + 1 - w.length) = dueTo c w (i + 1 - w.length) ++ [i + 1 - w.length] := by
  obtain ⟨h1, h2⟩ := (longest_full h).mp e
  refine ⟨h1, ?_⟩
  rw [show i + 1 + 1 - w.length = (i + 1 - w.length) + 1 by omega]
  exact dueTo_succ_yes h2
theorem dueTo_no {c w : List Nat} {i k : Nat} (h : Longest w (rd c 0 (i + 1)) k) (e : ¬ k = w.length) : dueTo c w (i + 1 + 1 - w.length) = dueTo c w (i + 1 - w.length) := by
  by_cases h1 : w.length ≤ i + 1
  · rw [show i + 1 + 1 - w.length = (i + 1 - w.length) + 1 by omega]
    exact dueTo_succ_no fun z => e ((longest_full h).mpr ⟨h1, z⟩)
  · rw [show i + 1 + 1 - w.length = 0 by omega, show i + 1 - w.length = 0 by omega]
theorem dueTo_len (c w : List Nat) (n : Nat) : (dueTo c w n).length ≤ n := by
  have := List.length_filter_le (fun p => rd c p w.length == w) (List.range n)
  rw [List.length_range] at this
  exact this
theorem iv_last {L : List Nat} {b : Nat} (h : L[L.length - 1]? = some b) : atI (iv L) (-1) = some (.int (b : Int)) := by
  rw [← List.getLast?_eq_getElem?, List.getLast?_eq_some_iff] at h
  obtain ⟨ys, e⟩ := h
  rw [e, iv_app]
  exact atI_last _ _
theorem join_T (l : List Nat) : Txt.join (Str.ofString "") (l.map fun c => (⟨#[c]⟩ : Str)) = ⟨l.toArray⟩ := by
  unfold Txt.join
  rw [PySem.StrLaws.glued_eq_join, T_nil]
  exact join_nil_signs ⟨l.toArray⟩
theorem ones_len (l : List Nat) : ((l.map fun c => (⟨#[c]⟩ : Str)).map (·.length)).sum = l.length := by
  induction l with
  | nil => rfl
  | cons a r ih =>
    rw [List.map_cons, List.map_cons, List.sum_cons, ih, List.length_cons]
    show 1 + r.length = r.length + 1
    omega
theorem int_eq {a b : Int} : V.int a = V.int b ↔ a = b := ⟨fun h => V.int.inj h, fun h => by rw [h]⟩
section
variable {P : Program} {w : World} {K : PySem.W.Frag} {mg : Str → Option Value} {base : Heap}
def spstarts_in (_ : PySem.W.Frag) : Sp := fun vs H Q _ => ∃ c w, vs = [T c, T w] ∧ Wd c ∧ Wd w ∧ ∀ p H', Same H H' → H p = none → H' p = some (.lst (iv (due c w))) → Q (.ref p) H'
theorem okstarts_in (D : Def K mg "starts_in" sstarts_in ["cycle", "word"]) (B : Bs mg) (Glb : Glo mg)
    (hlongest_borders : Good P w K mg base "longest_borders" slongest_borders ["word"] 1 (splongest_borders K)) :
    Good P w K mg base "starts_in" sstarts_in ["cycle", "word"] 2 (spstarts_in K) := by
  refine D.good fun f fd F => ?_
  obtain ⟨flongest_borders, dlongest_borders, Olongest_borders, mlongest_borders, klongest_borders, blongest_borders, Flongest_borders⟩ := hlongest_borders
  refine F.ok scstarts_in (fun vs H Q E h => ?_) (fun cdv A outer s H vs Q E hr h => ?_)
  · obtain ⟨c, w, rfl, hc, hw, q⟩ := h
    first | rfl | (rcases h with ⟨_, _, rfl, _⟩ | ⟨_, rfl, _⟩ <;> rfl)
  obtain ⟨c, w, rfl, hc, hw, q⟩ := h
  refine ⟨_, (pss_cons (ps_set (i := 2) scstarts_in.nd rfl (by first | exact Or.inl rfl | exact Or.inr rfl) (pe_call Olongest_borders hr rfl mlongest_borders klongest_borders blongest_borders .nil pass0 (pa_cons (pv 1) pa_nil)))
  (pss_cons (ps_set (i := 3) scstarts_in.nd rfl (by first | exact Or.inl rfl | exact Or.inr rfl) (pe_lst pa_nil))
  (pss_cons (ps_set (i := 4) scstarts_in.nd rfl (by first | exact Or.inl rfl | exact Or.inr rfl) pe_int)
  (pss_cons (ps_for PassesOwn.never rfl (pi_range1 (by rfl) B.range (pa_cons (pe_op op_sub (pe_op op_add (pe_callB call_len_str (by rfl) B.len (by decide +kernel) (pa_cons (pv 0) pa_nil)) (pe_callB call_len_str (by rfl) B.len (by decide +kernel) (pa_cons (pv 1) pa_nil))) pe_int) pa_nil)) (pg_name (i := 5) scstarts_in.nd rfl (by first | exact Or.inl rfl | exact Or.inr rfl))
    (pss_cons (ps_set (i := 6) scstarts_in.nd rfl (by first | exact Or.inl rfl | exact Or.inr rfl) (pe_ix ix_str (pv 0) (pe_op op_mod (pv 5) (pe_callB call_len_str (by rfl) B.len (by decide +kernel) (pa_cons (pv 0) pa_nil))) (fun _ _ => rfl)))
  (pss_cons (ps_while PassesOwn.never (PW.pt (pw_and (pt_cmpR op_gt (pv 4) pe_int (nomark _)) (pw_and1 (PW.pt (pw_or (pt_cmpR op_eq (pv 4) (pe_callB call_len_str (by rfl) B.len (by decide +kernel) (pa_cons (pv 1) pa_nil)) (nomark _)) (pw_or1 (pt_cmpR op_ne (pe_ix ix_str (pv 1) (pv 4) (fun _ _ => rfl)) (pv 6) (nomark _))))))))
    (pss_one (ps_set (i := 4) scstarts_in.nd rfl (by first | exact Or.inl rfl | exact Or.inr rfl) (pe_ix ix_list (pv 2) (pe_op op_sub (pv 4) pe_int) (fun _ _ => rfl)))))
  (pss_cons (ps_if (pt_cmpR op_eq (pe_ix ix_str (pv 1) (pv 4) (fun _ _ => rfl)) (pv 6) (nomark _))
    (pss_one (ps_aug (i := 4) scstarts_in.nd rfl (by first | exact Or.inl rfl | exact Or.inr rfl) pe_int ip_add)) pss_nil)
  (pss_one (ps_if (pt_cmpR op_eq (pv 4) (pe_callB call_len_str (by rfl) B.len (by decide +kernel) (pa_cons (pv 1) pa_nil)) (nomark _))
    (pss_one (ps_expr (pe_bm PySem.F.plainAttrs_list PySem.F.slot_list_append PySem.F.type_list_append mt_append (pv 3) (pa_cons (pe_op op_add (pe_op op_sub (pv 5) (pe_callB call_len_str (by rfl) B.len (by decide +kernel) (pa_cons (pv 1) pa_nil))) pe_int) pa_nil)))) pss_nil))))))
  (pss_one (ps_ret (pv 3))))))), ?_⟩
  have hcl := hc.2.1
  have hc0 := hc.1
  have hwl := hw.2.1
  have hw0 := hw.1
  refine ⟨_, rfl, w, rfl, hw, fun L a H1 hB hS1 na ha => ?_⟩
  refine ⟨(by show 0 ≤ sizeLine; decide), fun p np => ?_⟩
  have npa : a ≠ p := ne_of_none ha np
  have np0 : H p = none := hS1.free np
  refine ⟨_, rfl, _, rfl, T_line (by omega), _, rfl, _, rfl, T_line (by omega), _, _, rfl, rfl, _, _, rfl, rfl, _, rfl, (by rw [T_len, T_len]; omega), (by rw [T_len, T_len]; omega), ?_⟩
  rw [show ((((⟨c.toArray⟩ : Str).length : Nat) : Int) + (((⟨w.toArray⟩ : Str).length : Nat) : Int) - 1).toNat = c.length + w.length - 1 by rw [T_len, T_len]; omega]
  refine for_range (lo := 0) (n := c.length + w.length - 1) (fun i σ H' => ∃ (k : Nat) (v1 v2 : Option V), σ = [some (T c), some (T w), some (.ref a), some (.ref p), some (.int (k : Int)), v1, v2] ∧ Longest w (rd c 0 i) k ∧ Same H H' ∧ H' a = some (.lst (iv L)) ∧ H' p = some (.lst (iv (dueTo c w (i + 1 - w.length)))))
    ⟨0, none, none, rfl, longest_nil w, same_upd hS1 np0, by rw [upd_ne npa]; exact ha, ?_⟩ ?_ ?_
  · rw [show 0 + 1 - w.length = 0 by omega]
    exact upd_same
  · rintro i σ H2 hi ⟨k, v1, v2, rfl, hL, hS, ha2, hp2⟩
    have ei : (0 + (i : Int)) % (((⟨c.toArray⟩ : Str).length : Nat) : Int) = ((i % c.length : Nat) : Int) := by
      rw [T_len, Int.zero_add]
      rfl
    have e0 := getD_lt (l := c) (i := i % c.length) (Nat.mod_lt _ hc0)
    -- sign = cycle[at % len(cycle)]
    refine ⟨_, rfl, _, rfl, _, rfl, _, rfl, T_line (by omega), _, _, rfl, rfl, (by rw [T_len]; omega), _, _, c.getD (i % c.length) 0, rfl, rfl, T_line (by omega), (by rw [ei]; exact at_nat e0), ?_⟩
    have etk : rd c 0 (i + 1) = rd c 0 i ++ [c.getD (i % c.length) 0] := by
      rw [rd_succ, Nat.zero_add]
    generalize c.getD (i % c.length) 0 = x at etk
    refine ⟨fun m σ H' => ∃ k : Nat, m = k ∧ σ = [some (T c), some (T w), some (.ref a), some (.ref p), some (.int (k : Int)), some (.int (0 + (i : Int))), some (T [x])] ∧ At w (rd c 0 i) x k ∧ H' = H2, ⟨k, k, rfl, rfl, at_start hL, rfl⟩, ?_⟩
    rintro m σ H' ⟨k, rfl, rfl, hA, rfl⟩
    have hmw : m ≤ w.length := hA.1.1
    refine ⟨_, rfl, _, _, rfl, rfl, _, rfl, ?_⟩
    have fall : 0 < m → w[m]? ≠ some x → ∃ b, L[m - 1]? = some b ∧ At w (rd c 0 i) x b ∧ b < m := fun h0 hne => by
      obtain ⟨b, eb, lb, hlt⟩ := bordsTo_at (bords_of.mpr hB) h0 hmw
      exact ⟨b, eb, at_fall hA hne lb, hlt⟩
    refine ite2 (fun c1 => ?pos) (fun c1 => ?neg)
    case' pos =>
      have hpos : (0 : Int) < (m : Int) := of_decide_eq_true c1
      refine ⟨_, rfl, _, rfl, _, rfl, T_line (by omega), rfl, _, rfl, ?_⟩
      refine ite2 (fun c2 => ?_) (fun c2 => ?_)
      · have hm2 : m = w.length := by
          have := int_eq.mp (of_decide_eq_true c2)
          rw [T_len] at this
          omega
        obtain ⟨b, eb, lb, hlt⟩ := fall (by omega) (by rw [List.getElem?_eq_none (by omega)]; intro z; cases z)
        refine ⟨fun σ' H'' => ∃ k' : Nat, k' < m ∧ σ' = [some (T c), some (T w), some (.ref a), some (.ref p), some (.int (k' : Int)), some (.int (0 + (i : Int))), some (T [x])] ∧ At w (rd c 0 i) x k' ∧ H'' = H', fun σ' H'' ⟨k', h, e⟩ => ⟨k', h, k', rfl, e⟩, ?_⟩
        refine ⟨_, rfl, _, rfl, _, _, rfl, rfl, _, _, _, .int (b : Int), rfl, rfl, SqL.of ha2, ?_, ?_⟩
        · rw [show (m : Int) - 1 = ((m - 1 : Nat) : Int) by omega]
          exact iv_at eb
        · exact ⟨b, hlt, rfl, lb, rfl⟩
      have hmlt : m < w.length := by
        have c3 : ¬ V.int (m : Int) = V.int (((⟨w.toArray⟩ : Str).length : Nat) : Int) := of_decide_eq_false (Bool.eq_false_iff.mpr c2)
        rw [int_eq, T_len] at c3
        omega
      have e := getD_lt hmlt
      refine ⟨_, rfl, _, rfl, _, _, _, rfl, rfl, T_line (by omega), at_nat e, _, rfl, rfl, _, rfl, ?_⟩
      refine ite2 (fun c2 => ?_) (fun c2 => ?_)
      · have hne : w[m]? ≠ some x := by
          rw [e]
          intro z
          rw [Option.some.inj z] at c2
          simp at c2
        obtain ⟨b, eb, lb, hlt⟩ := fall (by omega) hne
        refine ⟨fun σ' H'' => ∃ k' : Nat, k' < m ∧ σ' = [some (T c), some (T w), some (.ref a), some (.ref p), some (.int (k' : Int)), some (.int (0 + (i : Int))), some (T [x])] ∧ At w (rd c 0 i) x k' ∧ H'' = H', fun σ' H'' ⟨k', h, e⟩ => ⟨k', h, k', rfl, e⟩, ?_⟩
        refine ⟨_, rfl, _, rfl, _, _, rfl, rfl, _, _, _, .int (b : Int), rfl, rfl, SqL.of ha2, ?_, ?_⟩
        · rw [show (m : Int) - 1 = ((m - 1 : Nat) : Int) by omega]
          exact iv_at eb
        · exact ⟨b, hlt, rfl, lb, rfl⟩
      have fin : m < w.length ∧ (m = 0 ∨ w[m]? = some x) := ⟨hmlt, by
        right
        rw [e]
        have c3 : T [w.getD m 0] = T [x] := by
          have := Bool.eq_false_iff.mpr c2
          simpa using this
        have := T_inj.mp c3
        simpa using this⟩
    case' neg =>
      have fin : m < w.length ∧ (m = 0 ∨ w[m]? = some x) := by
        have : ¬ ((0 : Int) < (m : Int)) := of_decide_eq_false (Bool.eq_false_iff.mpr c1)
        exact ⟨by omega, .inl (by omega)⟩
    all_goals
      have e := getD_lt fin.1
      have hlen : (dueTo c w (i + 1 - w.length)).length ≤ 200 := by
        have := dueTo_len c w (i + 1 - w.length)
        omega
      refine ⟨_, rfl, _, rfl, _, _, _, rfl, rfl, T_line (by omega), at_nat e, _, rfl, rfl, _, rfl, ?_⟩
      refine ite2 (fun c2 => ?_) (fun c2 => ?_)
      · have he : w[m]? = some x := by
          rw [e]
          have c3 : T [w.getD m 0] = T [x] := of_decide_eq_true c2
          have := T_inj.mp c3
          simpa using this
        have hL3 : Longest w (rd c 0 (i + 1)) (m + 1) := by
          rw [etk]
          exact at_hit hA he
        refine ⟨_, rfl, _, _, rfl, rfl, _, rfl, _, rfl, _, rfl, T_line (by omega), rfl, _, rfl, ?_⟩
        refine ite2 (fun c4 => ?_) (fun c4 => ?_)
        · have hf : m + 1 = w.length := by
            have := int_eq.mp (of_decide_eq_true c4)
            rw [T_len] at this
            have h2 : (m : Int) + 1 = ((w.length : Nat) : Int) := this
            omega
          obtain ⟨g1, g2⟩ := dueTo_yes hL3 hf
          refine ⟨_, rfl, .inl ⟨rfl, _, SqL.of hp2⟩, _, rfl, _, rfl, _, rfl, T_line (by omega), _, _, rfl, rfl, _, _, rfl, rfl, _, _, _, rfl, rfl, hp2, ?_, ?_⟩
          · rw [List.length_map]
            exact small1000 (by omega)
          · refine ⟨m + 1, _, _, rfl, hL3, same_upd hS np0, by rw [upd_ne npa]; exact ha2, ?_⟩
            rw [g2, iv_app]
            refine upd_same.trans ?_
            have ev : (0 + (i : Int)) - (((⟨w.toArray⟩ : Str).length : Nat) : Int) + 1 = ((i + 1 - w.length : Nat) : Int) := by
              rw [T_len]
              omega
            exact congrArg (fun z => some (HO.lst (iv (dueTo c w (i + 1 - w.length)) ++ [V.int z]))) ev
        · have hf : ¬ m + 1 = w.length := fun z => by
            have c5 : ¬ V.int ((m : Int) + 1) = V.int (((⟨w.toArray⟩ : Str).length : Nat) : Int) := of_decide_eq_false (Bool.eq_false_iff.mpr c4)
            rw [int_eq, T_len] at c5
            omega
          exact ⟨m + 1, _, _, rfl, hL3, hS, ha2, by rw [dueTo_no hL3 hf]; exact hp2⟩
      · have hne : w[m]? ≠ some x := by
          rw [e]
          intro z
          rw [Option.some.inj z] at c2
          simp at c2
        have hm0 : m = 0 := by
          rcases fin.2 with h | h
          · exact h
          · exact absurd h hne
        subst hm0
        have hL3 : Longest w (rd c 0 (i + 1)) 0 := by
          rw [etk]
          exact at_miss hA hne
        refine ⟨_, rfl, _, rfl, _, rfl, T_line (by omega), rfl, _, rfl, ?_⟩
        refine ite2 (fun c4 => ?_) (fun c4 => ?_)
        · exfalso
          have := int_eq.mp (of_decide_eq_true c4)
          rw [T_len] at this
          have h2 : ((0 : Nat) : Int) = ((w.length : Nat) : Int) := this
          omega
        · exact ⟨0, _, _, rfl, hL3, hS, ha2, by rw [dueTo_no hL3 (by omega)]; exact hp2⟩
  · rintro σ H2 ⟨k, v1, v2, rfl, hL, hS, ha2, hp2⟩
    rw [show c.length + w.length - 1 + 1 - w.length = c.length by omega, dueTo_all] at hp2
    exact ⟨_, rfl, q p H2 hS np0 hp2⟩
def spborders (_ : PySem.W.Frag) : Sp := fun vs H Q _ => ∃ l, vs = [T l] ∧ Wd l ∧ ∀ L p H', Bords l L → Same H H' → H p = none → H' p = some (.lst (iv L)) → Q (.ref p) H'
theorem okborders (D : Def K mg "borders" sborders ["word"]) (B : Bs mg) (Glb : Glo mg)
    (hneed_word : Good P w K mg base "need_word" sneed_word ["word"] 4 (spneed_word K))
    (hlongest_borders : Good P w K mg base "longest_borders" slongest_borders ["word"] 1 (splongest_borders K)) :
    Good P w K mg base "borders" sborders ["word"] 5 (spborders K) := by
  refine D.good fun f fd F => ?_
  obtain ⟨fneed_word, dneed_word, Oneed_word, mneed_word, kneed_word, bneed_word, Fneed_word⟩ := hneed_word
  obtain ⟨flongest_borders, dlongest_borders, Olongest_borders, mlongest_borders, klongest_borders, blongest_borders, Flongest_borders⟩ := hlongest_borders
  refine F.ok scborders (fun vs H Q E h => ?_) (fun cdv A outer s H vs Q E hr h => ?_)
  · obtain ⟨l, rfl, hl, q⟩ := h
    first | rfl | (rcases h with ⟨_, _, rfl, _⟩ | ⟨_, rfl, _⟩ <;> rfl)
  obtain ⟨l, rfl, hl, q⟩ := h
  refine ⟨_, (pss_cons (ps_expr (pe_call Oneed_word hr rfl mneed_word kneed_word bneed_word .nil pass0 (pa_cons (pv 0) pa_nil)))
  (pss_one (ps_ret (pe_call Olongest_borders (hr.mono (by decide)) rfl mlongest_borders klongest_borders blongest_borders .nil pass0 (pa_cons (pv 0) pa_nil))))), ?_⟩
  exact ⟨_, rfl, l, rfl, hl, _, rfl, l, rfl, hl, q⟩
def spread_on (_ : PySem.W.Frag) : Sp := fun vs H Q _ => ∃ l, ∃ p n : Nat, vs = [T l, .int (p : Int), .int (n : Int)] ∧ Wd l ∧ n ≤ 1000 ∧ ∀ H', Same H H' → Q (T (rd l p n)) H'
theorem okread_on (D : Def K mg "read_on" sread_on ["ring", "place", "many"]) (B : Bs mg) (Glb : Glo mg) :
    Good P w K mg base "read_on" sread_on ["ring", "place", "many"] 1 (spread_on K) := by
  refine D.good fun f fd F => ?_
  refine F.ok scread_on (fun vs H Q E h => ?_) (fun cdv A outer s H vs Q E hr h => ?_)
  · obtain ⟨l, p, n, rfl, hl, hn, q⟩ := h
    first | rfl | (rcases h with ⟨_, _, rfl, _⟩ | ⟨_, rfl, _⟩ <;> rfl)
  obtain ⟨l, p, n, rfl, hl, hn, q⟩ := h
  refine ⟨_, (pss_one (ps_ret (pe_join pe_str (pe_lc (own := [("k", 3)]) (g := gName 3) (by rfl) scread_on.nd (pi_range1 (by rfl) B.range (pa_cons (pv 2) pa_nil)) (blkOk_by (own := [("k", 3)]) (N := ["ring", "place", "many", "k"]) (sc := defScope sread_on) (by decide +kernel)) (fun _ _ _ _ _ => (pg_name (i := 3) scread_on.nd rfl (by first | exact Or.inl rfl | exact Or.inr rfl))) (fun _ _ _ _ _ => pts_nil) (fun _ _ _ _ _ => (pe_ix ix_str (pv 0) (pe_op op_mod (pe_op op_add (pv 1) (pv 3)) (pe_callB call_len_str (by rfl) B.len (by decide +kernel) (pa_cons (pv 0) pa_nil))) (fun _ _ => rfl))))))), ?_⟩
  have hlen := hl.2.1
  have h0 := hl.1
  refine ⟨⟨_, rfl⟩, _, rfl, _, rfl, (by omega), (by omega), fun D nD => ?_⟩
  refine lc_range (lo := 0) (n := n) (fun i H' => Same H H' ∧ H' D = some (.lst (((rd l p i).map fun c => (⟨#[c]⟩ : Str)).map V.str))) ⟨same_new nD _, upd_same⟩ ?_ ?_
  · rintro i H1 hi ⟨hS, hD⟩
    have ei : (p : Int) + (0 + (i : Int)) = ((p + i : Nat) : Int) := by omega
    have ej : ((p : Int) + (0 + (i : Int))) % (((⟨l.toArray⟩ : Str).length : Nat) : Int) = (((p + i) % l.length : Nat) : Int) := by
      rw [T_len, ei]
      rfl
    have e0 := getD_lt (l := l) (i := (p + i) % l.length) (Nat.mod_lt _ h0)
    refine ⟨rfl, _, rfl, _, rfl, _, rfl, _, _, rfl, rfl, _, rfl, _, rfl, T_line (by omega), _, _, rfl, rfl, (by rw [T_len]; omega), _, _, _, rfl, rfl, T_line (by omega), (by rw [ej]; exact at_nat e0), _, hD, ?_, ?_⟩
    · rw [List.length_map, List.length_map, rd_len]
      exact small1000 (by omega)
    · refine ⟨same_upd hS nD, ?_⟩
      rw [rd_succ, List.map_append, List.map_append]
      exact upd_same
  · rintro H1 ⟨hS, hD⟩
    refine ⟨_, _, (rd l p n).map fun c => (⟨#[c]⟩ : Str), rfl, rfl, .inl (SqL.of hD), ?_, ?_⟩
    · rw [ones_len, rd_len, T_nil]
      show n + _ * 0 ≤ _
      omega
    · rw [join_T]
      exact q H1 hS
def spbegins (_ : PySem.W.Frag) : Sp := fun vs H Q _ => ∃ c w, vs = [T c, T w] ∧ Wd c ∧ Wd w ∧ ∀ p H', Same H H' → H p = none → H' p = some (.lst (iv (due c w))) → Q (.ref p) H'
theorem okbegins (D : Def K mg "begins" sbegins ["ring", "word"]) (B : Bs mg) (Glb : Glo mg)
    (hneed_ring : Good P w K mg base "need_ring" sneed_ring ["ring"] 4 (spneed_ring K))
    (hneed_word : Good P w K mg base "need_word" sneed_word ["word"] 4 (spneed_word K))
    (hstarts_in : Good P w K mg base "starts_in" sstarts_in ["cycle", "word"] 2 (spstarts_in K)) :
    Good P w K mg base "begins" sbegins ["ring", "word"] 5 (spbegins K) := by
  refine D.good fun f fd F => ?_
  obtain ⟨fneed_ring, dneed_ring, Oneed_ring, mneed_ring, kneed_ring, bneed_ring, Fneed_ring⟩ := hneed_ring
  obtain ⟨fneed_word, dneed_word, Oneed_word, mneed_word, kneed_word, bneed_word, Fneed_word⟩ := hneed_word
  obtain ⟨fstarts_in, dstarts_in, Ostarts_in, mstarts_in, kstarts_in, bstarts_in, Fstarts_in⟩ := hstarts_in
  refine F.ok scbegins (fun vs H Q E h => ?_) (fun cdv A outer s H vs Q E hr h => ?_)
  · obtain ⟨c, w, rfl, hc, hw, q⟩ := h
    first | rfl | (rcases h with ⟨_, _, rfl, _⟩ | ⟨_, rfl, _⟩ <;> rfl)
  obtain ⟨c, w, rfl, hc, hw, q⟩ := h
  refine ⟨_, (pss_cons (ps_expr (pe_call Oneed_ring hr rfl mneed_ring kneed_ring bneed_ring .nil pass0 (pa_cons (pv 0) pa_nil)))
  (pss_cons (ps_expr (pe_call Oneed_word hr rfl mneed_word kneed_word bneed_word .nil pass0 (pa_cons (pv 1) pa_nil)))
  (pss_one (ps_ret (pe_call Ostarts_in (hr.mono (by decide)) rfl mstarts_in kstarts_in bstarts_in .nil pass0 (pa_cons (pv 0) (pa_cons (pv 1) pa_nil))))))), ?_⟩
  exact ⟨_, rfl, c, rfl, hc, _, rfl, w, rfl, hw, _, rfl, _, rfl, c, w, rfl, hc, hw, q⟩
def spstands_in (_ : PySem.W.Frag) : Sp := fun vs H Q _ => ∃ c w, vs = [T c, T w] ∧ Wd c ∧ Wd w ∧ ∀ H', Same H H' → Q (.bl (decide (0 < (due c w).length))) H'
theorem okstands_in (D : Def K mg "stands_in" sstands_in ["ring", "word"]) (B : Bs mg) (Glb : Glo mg)
    (hbegins : Good P w K mg base "begins" sbegins ["ring", "word"] 5 (spbegins K)) :
    Good P w K mg base "stands_in" sstands_in ["ring", "word"] 6 (spstands_in K) := by
  refine D.good fun f fd F => ?_
  obtain ⟨fbegins, dbegins, Obegins, mbegins, kbegins, bbegins, Fbegins⟩ := hbegins
  refine F.ok scstands_in (fun vs H Q E h => ?_) (fun cdv A outer s H vs Q E hr h => ?_)
  · obtain ⟨c, w, rfl, hc, hw, q⟩ := h
    first | rfl | (rcases h with ⟨_, _, rfl, _⟩ | ⟨_, rfl, _⟩ <;> rfl)
  obtain ⟨c, w, rfl, hc, hw, q⟩ := h
  refine ⟨_, (pss_one (ps_ret (pe_cmpR op_gt (pe_callB call_len_seq (by rfl) B.len (by decide +kernel) (pa_cons (pe_call Obegins hr rfl mbegins kbegins bbegins .nil pass0 (pa_cons (pv 0) (pa_cons (pv 1) pa_nil))) pa_nil)) pe_int (nomark _)))), ?_⟩
  refine ⟨_, rfl, _, rfl, c, w, rfl, hc, hw, fun p H1 hS np hp => ⟨_, _, rfl, .inl (SqL.of hp), _, _, rfl, rfl, ?_⟩⟩
  have e : decide ((0 : Int) < ((((due c w).map fun n : Nat => V.int (n : Int)).length : Nat) : Int)) = decide (0 < (due c w).length) := by
    rw [List.length_map]
    exact decide_eq_decide.mpr (by omega)
  have := q H1 hS
  rw [← e] at this
  exact this
def spperiod_of (_ : PySem.W.Frag) : Sp := fun vs H Q _ => ∃ l, vs = [T l] ∧ Wd l ∧ ∀ b H', IsLB l b → Same H H' → Q (.int (per l b : Int)) H'
theorem okperiod_of (D : Def K mg "period_of" speriod_of ["ring"]) (B : Bs mg) (Glb : Glo mg)
    (hneed_ring : Good P w K mg base "need_ring" sneed_ring ["ring"] 4 (spneed_ring K))
    (hlongest_borders : Good P w K mg base "longest_borders" slongest_borders ["word"] 1 (splongest_borders K)) :
    Good P w K mg base "period_of" speriod_of ["ring"] 5 (spperiod_of K) := by
  refine D.good fun f fd F => ?_
  obtain ⟨fneed_ring, dneed_ring, Oneed_ring, mneed_ring, kneed_ring, bneed_ring, Fneed_ring⟩ := hneed_ring
  obtain ⟨flongest_borders, dlongest_borders, Olongest_borders, mlongest_borders, klongest_borders, blongest_borders, Flongest_borders⟩ := hlongest_borders
  refine F.ok scperiod_of (fun vs H Q E h => ?_) (fun cdv A outer s H vs Q E hr h => ?_)
  · obtain ⟨l, rfl, hl, q⟩ := h
    first | rfl | (rcases h with ⟨_, _, rfl, _⟩ | ⟨_, rfl, _⟩ <;> rfl)
  obtain ⟨l, rfl, hl, q⟩ := h
  refine ⟨_, (pss_cons (ps_expr (pe_call Oneed_ring hr rfl mneed_ring kneed_ring bneed_ring .nil pass0 (pa_cons (pv 0) pa_nil)))
  (pss_cons (ps_set (i := 1) scperiod_of.nd rfl (by first | exact Or.inl rfl | exact Or.inr rfl) (pe_op op_sub (pe_callB call_len_str (by rfl) B.len (by decide +kernel) (pa_cons (pv 0) pa_nil)) (pe_ix ix_list (pe_call Olongest_borders (hr.mono (by decide)) rfl mlongest_borders klongest_borders blongest_borders .nil pass0 (pa_cons (pv 0) pa_nil)) (pe_un un_neg pe_int) (fun _ _ => rfl))))
  (pss_one (ps_ret (pe_ifExp (pt_cmpR op_eq (pe_op op_mod (pe_callB call_len_str (by rfl) B.len (by decide +kernel) (pa_cons (pv 0) pa_nil)) (pv 1)) pe_int (nomark _)) (pv 1) (pe_callB call_len_str (by rfl) B.len (by decide +kernel) (pa_cons (pv 0) pa_nil))))))), ?_⟩
  have hlen := hl.2.1
  have h0 := hl.1
  refine ⟨_, rfl, l, rfl, hl, _, rfl, _, rfl, T_line (by omega), _, rfl, l, rfl, hl, fun L p H1 hB hS np hp => ?_⟩
  obtain ⟨b, eb, lb⟩ := hB.2 (l.length - 1) (by omega)
  rw [show l.length - 1 + 1 = l.length by omega, List.take_length] at lb
  have hb := lb.1
  have hL : L.length = l.length := hB.1
  refine ⟨_, rfl, _, _, _, .int (b : Int), rfl, rfl, SqL.of hp, ?_, _, _, rfl, rfl, ?_⟩
  · exact iv_last (by rw [hL]; exact eb)
  dsimp only
  rw [T_len, show ((l.length : Nat) : Int) - (b : Int) = ((l.length - b : Nat) : Int) by omega]
  refine ⟨_, rfl, _, rfl, T_line (by omega), _, rfl, _, _, rfl, rfl, (by show (0 : Int) < ((l.length - b : Nat) : Int); omega), rfl, _, rfl, ?_⟩
  have hper : Q (V.int ((per l b : Nat) : Int)) H1 := q b H1 lb hS
  have em : ((((⟨l.toArray⟩ : Str).length : Nat) : Int) % ((l.length - b : Nat) : Int)) = ((l.length % (l.length - b) : Nat) : Int) := by
    rw [T_len]
    rfl
  refine ite2 (fun c => ?_) (fun c => ?_)
  · have c2 : ((((⟨l.toArray⟩ : Str).length : Nat) : Int) % ((l.length - b : Nat) : Int)) = 0 := int_eq.mp (of_decide_eq_true c)
    rw [em] at c2
    unfold per at hper
    rw [if_pos (by omega)] at hper
    exact ⟨_, rfl, hper⟩
  · have c2 : ¬ V.int ((((⟨l.toArray⟩ : Str).length : Nat) : Int) % ((l.length - b : Nat) : Int)) = V.int 0 := of_decide_eq_false (Bool.eq_false_iff.mpr c)
    rw [int_eq, em] at c2
    unfold per at hper
    rw [if_neg (by omega)] at hper
    refine ⟨_, rfl, _, rfl, T_line (by omega), ?_⟩
    rw [T_len]
    exact hper
def spplain_begins (_ : PySem.W.Frag) : Sp := fun vs H Q _ => ∃ c w, vs = [T c, T w] ∧ Wd c ∧ Wd w ∧ ∀ p H', Same H H' → H p = none → H' p = some (.lst (iv (due c w))) → Q (.ref p) H'
theorem okplain_begins (D : Def K mg "plain_begins" splain_begins ["ring", "word"]) (B : Bs mg) (Glb : Glo mg)
    (hneed_ring : Good P w K mg base "need_ring" sneed_ring ["ring"] 4 (spneed_ring K))
    (hneed_word : Good P w K mg base "need_word" sneed_word ["word"] 4 (spneed_word K))
    (hread_on : Good P w K mg base "read_on" sread_on ["ring", "place", "many"] 1 (spread_on K)) :
    Good P w K mg base "plain_begins" splain_begins ["ring", "word"] 5 (spplain_begins K) := by
  refine D.good fun f fd F => ?_
  obtain ⟨fneed_ring, dneed_ring, Oneed_ring, mneed_ring, kneed_ring, bneed_ring, Fneed_ring⟩ := hneed_ring
  obtain ⟨fneed_word, dneed_word, Oneed_word, mneed_word, kneed_word, bneed_word, Fneed_word⟩ := hneed_word
  obtain ⟨fread_on, dread_on, Oread_on, mread_on, kread_on, bread_on, Fread_on⟩ := hread_on
  refine F.ok scplain_begins (fun vs H Q E h => ?_) (fun cdv A outer s H vs Q E hr h => ?_)
  · obtain ⟨c, w, rfl, hc, hw, q⟩ := h
    first | rfl | (rcases h with ⟨_, _, rfl, _⟩ | ⟨_, rfl, _⟩ <;> rfl)
  obtain ⟨c, w, rfl, hc, hw, q⟩ := h
  refine ⟨_, (pss_cons (ps_expr (pe_call Oneed_ring hr rfl mneed_ring kneed_ring bneed_ring .nil pass0 (pa_cons (pv 0) pa_nil)))
  (pss_cons (ps_expr (pe_call Oneed_word hr rfl mneed_word kneed_word bneed_word .nil pass0 (pa_cons (pv 1) pa_nil)))
  (pss_one (ps_ret (pe_lc (own := [("place", 2)]) (g := gName 2) (by rfl) scplain_begins.nd (pi_range1 (by rfl) B.range (pa_cons (pe_callB call_len_str (by rfl) B.len (by decide +kernel) (pa_cons (pv 0) pa_nil)) pa_nil)) (blkOk_by (own := [("place", 2)]) (N := ["ring", "word", "place"]) (sc := defScope splain_begins) (by decide +kernel)) (fun _ _ _ _ _ => (pg_name (i := 2) scplain_begins.nd rfl (by first | exact Or.inl rfl | exact Or.inr rfl))) (fun _ _ _ _ _ => (pts_one (pt_cmpR op_eq (pe_call Oread_on (hr.mono (by decide)) rfl mread_on kread_on bread_on .nil pass0 (pa_cons (pv 0) (pa_cons (pv 2) (pa_cons (pe_callB call_len_str (by rfl) B.len (by decide +kernel) (pa_cons (pv 1) pa_nil)) pa_nil)))) (pv 1) (nomark _)))) (fun _ _ _ _ _ => (pv 2))))))), ?_⟩
  have hcl := hc.2.1
  have hwl := hw.2.1
  refine ⟨_, rfl, c, rfl, hc, _, rfl, w, rfl, hw, _, rfl, _, rfl, T_line (by omega), _, rfl, (by rw [T_len]; omega), (by rw [T_len]; omega), fun D nD => ?_⟩
  rw [show ((((⟨c.toArray⟩ : Str).length : Nat) : Int)).toNat = c.length by rw [T_len]; rfl]
  refine lc_range (lo := 0) (n := c.length) (fun i H' => Same H H' ∧ H' D = some (.lst (iv (dueTo c w i)))) ⟨same_new nD _, upd_same⟩ ?_ ?_
  · rintro i H1 hi ⟨hS, hD⟩
    refine ⟨rfl, _, rfl, _, rfl, _, rfl, _, rfl, T_line (by omega), c, i, w.length, ?_, hc, by omega, fun H2 hS2 => ?_⟩
    · rw [T_len, Int.zero_add]
      rfl
    · refine ⟨_, rfl, rfl, _, rfl, ?_⟩
      have hS3 : Same H H2 := hS.trans hS2
      refine ite2 (fun c1 => ?_) (fun c1 => ?_)
      · have e : rd c i w.length = w := T_inj.mp (of_decide_eq_true c1)
        refine ⟨_, rfl, _, hS2 _ _ hD, ?_, same_upd hS3 nD, ?_⟩
        · have := dueTo_len c w i
          rw [List.length_map]
          exact small1000 (by omega)
        · rw [dueTo_succ_yes e, iv_app]
          exact upd_same.trans (congrArg (fun z => some (HO.lst (iv (dueTo c w i) ++ [V.int z]))) (Int.zero_add _))
      · have e : ¬ rd c i w.length = w := fun z => by
          have c2 : ¬ T (rd c i w.length) = T w := of_decide_eq_false (Bool.eq_false_iff.mpr c1)
          exact c2 (by rw [z])
        rw [dueTo_succ_no e]
        exact ⟨hS3, hS2 _ _ hD⟩
  · rintro H1 ⟨hS, hD⟩
    exact q D H1 hS nD hD
end
end My
namespace My
open PySem L2 PyProof.Rows
def PotOk (x y : Int) : Prop := 0 ≤ x ∧ 0 ≤ y ∧ y < 2147483588
def PotAt (H : Hp) (a : Addr) : Prop := ∃ x y : Int, H a = some (.lst [.int x, .int y]) ∧ PotOk x y
/-- all but what stands at a is as it was -/
def Kept (a : Addr) (H H' : Hp) : Prop := ∀ b o, H b = some o → b ≠ a → H' b = some o
theorem Kept.trans {a : Addr} {H H1 H2 : Hp} (h : Kept a H H1) (h2 : Kept a H1 H2) : Kept a H H2 := fun b o e n => h2 b o (h b o e n) n
theorem Same.kept {a : Addr} {H H' : Hp} (h : Same H H') : Kept a H H' := fun b o e _ => h b o e
theorem Kept.seq {K : PySem.W.Frag} {a l : Addr} {xs : List V} {H H' : Hp} (h : Kept a H H') (hn : l ≠ a) (q : H l = some (.lst xs)) : H' l = some (.lst xs) := h l _ q hn
section
variable {P : Program} {w : World} {K : PySem.W.Frag} {mg : Str → Option Value} {base : Heap}
def sp_law_pot (K : PySem.W.Frag) : Sp := fun vs H Q _ => ∃ a, ∃ ns : List Int, vs = [.ref a, .int 0] ∧ SqL K H a (ns.map V.int) ∧ ∀ p H', PotAt H' p → Same H H' → H p = none → Q (.ref p) H'
theorem ok_law_pot (D : Def K mg "_law_pot" s_law_pot ["_law_script", "_law_k"]) (B : Bs mg) (Glb : Glo mg) :
    Good P w K mg base "_law_pot" s_law_pot ["_law_script", "_law_k"] 1 (sp_law_pot K) := by
  refine D.good fun f fd F => ?_
  refine F.ok sc_law_pot (fun vs H Q E h => ?_) (fun cdv A outer s H vs Q E hr h => ?_)
  · obtain ⟨a, ns, rfl, hS, q⟩ := h
    first | rfl | (rcases h with ⟨_, _, rfl, _⟩ | ⟨_, rfl, _⟩ <;> rfl)
  obtain ⟨a, ns, rfl, hS, q⟩ := h
  refine ⟨_, (pss_cons (ps_set (i := 2) sc_law_pot.nd rfl (by first | exact Or.inl rfl | exact Or.inr rfl) (pe_op op_add (pe_op op_mul pe_int (pv 1)) pe_int))
  (pss_cons (ps_if (pt_cmpR op_lt (pv 1) (pe_callB call_len_seq (by rfl) B.len (by decide +kernel) (pa_cons (pv 0) pa_nil)) (nomark _))
    (pss_one (ps_set (i := 2) sc_law_pot.nd rfl (by first | exact Or.inl rfl | exact Or.inr rfl) (pe_callB call_abs (by rfl) B.abs (by decide +kernel) (pa_cons (pe_ix ix_list (pv 0) (pv 1) (fun _ _ => rfl)) pa_nil)))) pss_nil)
  (pss_one (ps_ret (pe_lst (pa_cons (pe_callB (call_max2 rfl) (by rfl) B.max (by decide +kernel) (pa_cons pe_int (pa_cons (pe_op op_sub (pv 2) (pe_op op_pow pe_int pe_int)) pa_nil))) (pa_cons (pe_op op_add (pe_op op_mod (pe_callTy call_int1 (by rfl) B.int (by decide +kernel) (pa_cons (pe_op op_add (pe_op op_mul (pe_op op_mod (pe_callTy call_int1 (by rfl) B.int (by decide +kernel) (pa_cons (pv 2) pa_nil)) pe_int) (pe_op op_add (pe_op op_mul pe_int (pv 1)) pe_int)) pe_int) pa_nil)) pe_int) pe_int) pa_nil))))))), ?_⟩
  refine ⟨_, rfl, _, _, rfl, rfl, .inl ⟨by decide, by decide⟩, _, _, rfl, rfl, ?_⟩
  refine ⟨_, rfl, _, rfl, _, _, rfl, .inl hS, _, _, rfl, rfl, _, rfl, ?_⟩
  refine ite2 (fun c1 => ?pos) (fun c1 => ?neg)
  case' pos =>
    obtain ⟨n, rest, rfl⟩ : ∃ n rest, ns = n :: rest := by
      cases ns with
      | nil => exact absurd (of_decide_eq_true c1) (by decide)
      | cons n rest => exact ⟨n, rest, rfl⟩
    refine ⟨_, rfl, _, rfl, _, _, _, .int n, rfl, rfl, hS, atI_nat (j := 0) rfl, _, rfl, ?_⟩
    have hz0 : (0 : Int) ≤ (if n < 0 then -n else n) := by split <;> omega
  case' neg =>
    have hz0 : (0 : Int) ≤ (1069 * 0 + 787) := by decide
  all_goals
    refine ⟨_, rfl, _, _, rfl, rfl, ⟨by decide, by decide, by decide⟩, _, _, rfl, rfl, _, _, rfl, _, rfl, .inl ⟨_, rfl, _, _, rfl, rfl, (by show (0 : Int) < 2147483549; decide), _, rfl, _, _, rfl, rfl, .inl ⟨by decide, by decide⟩, _, _, rfl, rfl, _, _, rfl, rfl, .inl ⟨?_, ?_⟩, _, _, rfl, rfl, .inl ⟨_, rfl, _, _, rfl, rfl, (by show (0 : Int) < 2147483543; decide), _, _, rfl, rfl, (by show 2 ≤ sizeLine; decide), fun p np => ?_⟩⟩⟩
    · omega
    · omega
    · refine q p _ ⟨_, _, upd_same, ?_, ?_, ?_⟩ (same_new np _) np
      · split <;> omega
      · omega
      · omega
def sp_law_draw (_ : PySem.W.Frag) : Sp := fun vs H Q _ => ∃ a n, vs = [.ref a, .int ((n : Nat) : Int)] ∧ PotAt H a ∧ 0 < n ∧ n ≤ 1000 ∧ ∀ (d : Nat) H', d < n → Kept a H H' → PotAt H' a → Q (.int (d : Int)) H'
theorem ok_law_draw (D : Def K mg "_law_draw" s_law_draw ["_law_pot_here", "_law_size"]) (B : Bs mg) (Glb : Glo mg) :
    Good P w K mg base "_law_draw" s_law_draw ["_law_pot_here", "_law_size"] 1 (sp_law_draw K) := by
  refine D.good fun f fd F => ?_
  refine F.ok sc_law_draw (fun vs H Q E h => ?_) (fun cdv A outer s H vs Q E hr h => ?_)
  · obtain ⟨a, n, rfl, ⟨x, y, ha, hx, hy, hy2⟩, hn, hn2, q⟩ := h
    first | rfl | (rcases h with ⟨_, _, rfl, _⟩ | ⟨_, rfl, _⟩ <;> rfl)
  obtain ⟨a, n, rfl, ⟨x, y, ha, hx, hy, hy2⟩, hn, hn2, q⟩ := h
  refine ⟨_, (pss_cons (ps_if (pt_cmpR op_gt (pe_ix ix_list (pv 0) pe_int (fun _ _ => rfl)) pe_int (nomark _))
    (pss_cons (ps_asg (pe_callB call_divmod (by rfl) B.divmod (by decide +kernel) (pa_cons (pe_ix ix_list (pv 0) pe_int (fun _ _ => rfl)) (pa_cons (pv 1) pa_nil))) (pg_tup rfl (pgs_cons (pg_sub (pv 0) pe_int set_list) (pgs_cons (pg_name (i := 2) sc_law_draw.nd rfl (by first | exact Or.inl rfl | exact Or.inr rfl)) pgs_nil))))
  (pss_one (ps_ret (pv 2)))) pss_nil)
  (pss_cons (ps_asg (pe_op op_mod (pe_callTy call_int1 (by rfl) B.int (by decide +kernel) (pa_cons (pe_op op_add (pe_op op_mul (pe_ix ix_list (pv 0) pe_int (fun _ _ => rfl)) pe_int) pe_int) pa_nil)) pe_int) (pg_sub (pv 0) pe_int set_list))
  (pss_one (ps_ret (pe_op op_mod (pe_callTy call_int1 (by rfl) B.int (by decide +kernel) (pa_cons (pe_op op_fdiv (pe_op op_mod (pe_callTy call_int1 (by rfl) B.int (by decide +kernel) (pa_cons (pe_op op_mul (pe_ix ix_list (pv 0) pe_int (fun _ _ => rfl)) (pe_ix ix_list (pv 0) pe_int (fun _ _ => rfl))) pa_nil)) pe_int) pe_int) pa_nil)) (pv 1)))))), ?_⟩
  refine ⟨_, rfl, _, _, _, .int x, rfl, rfl, SqL.of ha, rfl, _, _, rfl, rfl, _, rfl, ?_⟩
  refine ite2 (fun c1 => ?_) (fun c1 => ?_)
  · have hpos : (0 : Int) < x := of_decide_eq_true c1
    refine ⟨_, rfl, _, _, _, .int x, rfl, rfl, SqL.of ha, rfl, _, rfl, _, _, rfl, ⟨by omega, by omega⟩, fun p np => ?_⟩
    have hpa : a ≠ p := ne_of_none ha np
    have ha' : (upd H p (.tup [.int (x / (n : Int)), .int (x % (n : Int))])) a = some (.lst [.int x, .int y]) := by
      rw [upd_ne hpa]
      exact ha
    have ed : (((x % (n : Int)).toNat : Nat) : Int) = x % (n : Int) := Int.toNat_of_nonneg (Int.emod_nonneg _ (by omega))
    have el := Int.emod_lt_of_pos x (show (0 : Int) < (n : Int) by omega)
    refine ⟨_, _, rfl, SqT.of upd_same, rfl, _, _, rfl, _, rfl, _, _, _, 0, rfl, rfl, ha', rfl, _, _, rfl, rfl, ?_⟩
    refine ⟨_, rfl, ?_⟩
    have := q (x % (n : Int)).toNat (upd (upd H p (.tup [.int (x / (n : Int)), .int (x % (n : Int))])) a (.lst [.int (x / (n : Int)), .int y])) (by omega) (fun b o e nb => by rw [upd_ne nb, upd_ne (ne_of_none e np)]; exact e)
      ⟨_, _, upd_same, Int.ediv_nonneg hx (by omega), hy, hy2⟩
    rw [ed] at this
    exact this
  · refine ⟨_, rfl, _, _, _, .int y, rfl, rfl, SqL.of ha, rfl, _, _, rfl, rfl, .inl ⟨by omega, by omega⟩, _, _, rfl, rfl, .inl ⟨_, rfl, _, _, rfl, rfl, (by show (0 : Int) < 2147483587; decide), _, rfl, _, _, _, 1, rfl, rfl, ha, rfl, ?_⟩⟩
    have hz0 : (0 : Int) ≤ (y * 48271 + 18973) % 2147483587 := by omega
    have hz1 : (y * 48271 + 18973) % 2147483587 < (2147483587 : Int) := by omega
    refine ⟨_, rfl, _, _, _, .int ((y * 48271 + 18973) % 2147483587), rfl, rfl, SqL.of upd_same, rfl, _, rfl, _, _, _, .int ((y * 48271 + 18973) % 2147483587), rfl, rfl, SqL.of upd_same, rfl, _, _, rfl, rfl, .inl ⟨by omega, by omega⟩, .inl ⟨_, rfl, _, _, rfl, rfl, (by show (0 : Int) < 2147483549; decide), _, _, rfl, rfl, ⟨by decide, by decide⟩, .inl ⟨_, rfl, _, rfl, _, _, rfl, rfl, (by show (0 : Int) < (n : Int); omega), ?_⟩⟩⟩
    have fin : ∀ z : Int, 0 ≤ z → z < 2147483587 → Q (V.int (z * z % 2147483549 / 13 % (n : Int))) (upd H a (.lst [.int x, .int z])) := fun z hz0 hz1 => by
      have ed : (((z * z % 2147483549 / 13 % (n : Int)).toNat : Nat) : Int) = z * z % 2147483549 / 13 % (n : Int) := Int.toNat_of_nonneg (Int.emod_nonneg _ (by omega))
      have el := Int.emod_lt_of_pos (z * z % 2147483549 / 13) (show (0 : Int) < (n : Int) by omega)
      have := q (z * z % 2147483549 / 13 % (n : Int)).toNat (upd H a (.lst [.int x, .int z])) (by omega) (fun b o e nb => by rw [upd_ne nb]; exact e) ⟨_, _, upd_same, hx, hz0, by omega⟩
      rw [ed] at this
      exact this
    exact fin _ hz0 hz1
def sp_law_pick (K : PySem.W.Frag) : Sp := fun vs H Q _ => ∃ a, (∃ l, ∃ xs : List V, vs = [.ref a, .ref l] ∧ H l = some (.lst xs) ∧ l ≠ a ∧ 0 < xs.length ∧ xs.length ≤ 1000 ∧ PotAt H a ∧ ∀ v H', v ∈ xs → Kept a H H' → PotAt H' a → Q v H')
  ∨ (∃ l : List Nat, vs = [.ref a, T l] ∧ 0 < l.length ∧ l.length ≤ 1000 ∧ PotAt H a ∧ ∀ c H', c ∈ l → Kept a H H' → PotAt H' a → Q (T [c]) H')
theorem ok_law_pick (D : Def K mg "_law_pick" s_law_pick ["_law_pot_here", "_law_some"]) (B : Bs mg) (Glb : Glo mg)
    (h_law_draw : Good P w K mg base "_law_draw" s_law_draw ["_law_pot_here", "_law_size"] 1 (sp_law_draw K)) :
    Good P w K mg base "_law_pick" s_law_pick ["_law_pot_here", "_law_some"] 2 (sp_law_pick K) := by
  refine D.good fun f fd F => ?_
  obtain ⟨f_law_draw, d_law_draw, O_law_draw, m_law_draw, k_law_draw, b_law_draw, F_law_draw⟩ := h_law_draw
  refine F.ok sc_law_pick (fun vs H Q E h => ?_) (fun cdv A outer s H vs Q E hr h => ?_)
  · obtain ⟨a, h⟩ := h
    first | rfl | (rcases h with ⟨_, _, rfl, _⟩ | ⟨_, rfl, _⟩ <;> rfl)
  obtain ⟨a, h⟩ := h
  rcases h with ⟨l, xs, rfl, hl, hla, h0, hlen, hp, q⟩ | ⟨l, rfl, h0, hlen, hp, q⟩
  · refine ⟨_, (pss_one (ps_ret (pe_ix ix_seq (pv 1) (pe_call O_law_draw hr rfl m_law_draw k_law_draw b_law_draw .nil pass0 (pa_cons (pv 0) (pa_cons (pe_callB call_len (by rfl) B.len (by decide +kernel) (pa_cons (pv 1) pa_nil)) pa_nil))) (fun _ _ => rfl)))), ?_⟩
    refine ⟨_, rfl, _, rfl, _, rfl, _, _, rfl, .inl ⟨_, SqL.of hl, rfl⟩, a, xs.length, rfl, hp, h0, hlen, fun d H' hd hk hp' => ?_⟩
    exact .inl ⟨_, _, _, _, rfl, rfl, SqL.of (hk l _ hl hla), atI_nat (List.getElem?_eq_getElem hd), q _ H' (List.getElem_mem hd) hk hp'⟩
  · refine ⟨_, (pss_one (ps_ret (pe_ix ix_seq (pv 1) (pe_call O_law_draw hr rfl m_law_draw k_law_draw b_law_draw .nil pass0 (pa_cons (pv 0) (pa_cons (pe_callB call_len (by rfl) B.len (by decide +kernel) (pa_cons (pv 1) pa_nil)) pa_nil))) (fun _ _ => rfl)))), ?_⟩
    refine ⟨_, rfl, _, rfl, _, rfl, _, l.length, rfl, ⟨T_line hlen, T_len l⟩, a, l.length, rfl, hp, h0, hlen, fun d H' hd hk hp' => ?_⟩
    exact .inr (.inr ⟨_, _, _, rfl, rfl, T_line hlen, at_nat (List.getElem?_eq_getElem hd), q _ H' (List.getElem_mem hd) hk hp'⟩)
def sp_law_round (_ : PySem.W.Frag) : Sp := fun vs H Q _ => ∃ l, ∃ p n : Nat, vs = [T l, .int (p : Int), .int (n : Int)] ∧ Wd l ∧ n ≤ 1000 ∧ Q (T (rd l p n)) H
theorem ok_law_round (D : Def K mg "_law_round" s_law_round ["_law_ring_here", "_law_place", "_law_many"]) (B : Bs mg) (Glb : Glo mg) :
    Good P w K mg base "_law_round" s_law_round ["_law_ring_here", "_law_place", "_law_many"] 1 (sp_law_round K) := by
  refine D.good fun f fd F => ?_
  refine F.ok sc_law_round (fun vs H Q E h => ?_) (fun cdv A outer s H vs Q E hr h => ?_)
  · obtain ⟨l, p, n, rfl, hl, hn, q⟩ := h
    first | rfl | (rcases h with ⟨_, _, rfl, _⟩ | ⟨_, rfl, _⟩ <;> rfl)
  obtain ⟨l, p, n, rfl, hl, hn, q⟩ := h
  refine ⟨_, (pss_cons (ps_set (i := 3) sc_law_round.nd rfl (by first | exact Or.inl rfl | exact Or.inr rfl) pe_str)
  (pss_cons (ps_while PassesOwn.never (pt_cmpR op_lt (pe_callB call_len_str (by rfl) B.len (by decide +kernel) (pa_cons (pv 3) pa_nil)) (pv 2) (nomark _))
    (pss_one (ps_set (i := 3) sc_law_round.nd rfl (by first | exact Or.inl rfl | exact Or.inr rfl) (pe_op op_add_str (pv 3) (pe_ix ix_str (pv 0) (pe_op op_mod (pe_op op_add (pv 1) (pe_callB call_len_str (by rfl) B.len (by decide +kernel) (pa_cons (pv 3) pa_nil))) (pe_callB call_len_str (by rfl) B.len (by decide +kernel) (pa_cons (pv 0) pa_nil))) (fun _ _ => rfl))))))
  (pss_one (ps_ret (pv 3))))), ?_⟩
  have hlen := hl.2.1
  have h0 := hl.1
  refine ⟨fun m σ H' => ∃ i : Nat, m = n - i ∧ i ≤ n ∧ H' = H ∧ σ = [some (T l), some (.int (p : Int)), some (.int (n : Int)), some (T (rd l p i))], ⟨n, 0, rfl, by omega, rfl, ?_⟩, ?_⟩
  · rw [rd_zero]
    show [some (T l), some (V.int (p : Int)), some (V.int (n : Int)), some (V.str (Str.ofString ""))] = _
    rw [T_nil]
  rintro m σ H' ⟨i, rfl, hi, rfl, rfl⟩
  refine ⟨_, rfl, _, rfl, T_line (by rw [rd_len]; omega), _, rfl, _, _, rfl, rfl, _, rfl, ?_⟩
  refine ite2 (fun c1 => ?_) (fun c1 => ?_)
  · have c2 : ((((⟨(rd l p i).toArray⟩ : Str).length : Nat) : Int)) < (n : Int) := of_decide_eq_true c1
    rw [T_len, rd_len] at c2
    have ej : ((p : Int) + (((⟨(rd l p i).toArray⟩ : Str).length : Nat) : Int)) % (((⟨l.toArray⟩ : Str).length : Nat) : Int) = (((p + i) % l.length : Nat) : Int) := by
      rw [T_len, T_len, rd_len]
      rfl
    have e0 := getD_lt (l := l) (i := (p + i) % l.length) (Nat.mod_lt _ h0)
    refine ⟨fun σ' H'' => H'' = H' ∧ σ' = [some (T l), some (.int (p : Int)), some (.int (n : Int)), some (T (rd l p (i + 1)))], fun σ' H'' ⟨e1, e2⟩ => ⟨n - (i + 1), by omega, i + 1, rfl, by omega, e1, e2⟩, ?_⟩
    refine ⟨_, rfl, _, rfl, _, rfl, _, rfl, _, rfl, T_line (by rw [rd_len]; omega), _, _, rfl, rfl, _, rfl, _, rfl, T_line (by omega), _, _, rfl, rfl, (by show (0 : Int) < _; rw [T_len]; omega), _, _, _, rfl, rfl, T_line (by omega), (by rw [ej]; exact at_nat e0), _, _, rfl, rfl, ?_, rfl, ?_⟩
    · rw [T_len, rd_len]
      show i + 1 ≤ sizeLine
      exact Nat.le_of_lt (small1000 (by omega))
    · rw [rd_succ]
      show [some (T l), some (V.int (p : Int)), some (V.int (n : Int)), some (V.str ((⟨(rd l p i).toArray⟩ : Str) ++ (⟨[l.getD ((p + i) % l.length) 0].toArray⟩ : Str)))] = _
      rw [T_app]
  · have c2 : ¬ ((((⟨(rd l p i).toArray⟩ : Str).length : Nat) : Int)) < (n : Int) := of_decide_eq_false (Bool.eq_false_iff.mpr c1)
    rw [T_len, rd_len] at c2
    have e : i = n := by omega
    subst e
    exact ⟨_, rfl, q⟩
theorem PotAt.new {H : Hp} {a p : Addr} {o : HO} (h : PotAt H a) (np : H p = none) : PotAt (upd H p o) a := by
  obtain ⟨x, y, e, h⟩ := h
  refine ⟨x, y, ?_, h⟩
  rw [upd_ne (ne_of_none e np)]
  exact e
theorem Kept.new {H H' : Hp} {a p : Addr} {o : HO} (h : Kept a H H') (np : H' p = none) : Kept a H (upd H' p o) := h.trans (Same.kept (same_new np o))
theorem of_ab : Str.ofString "ab" = ⟨[97, 98].toArray⟩ := by decide +kernel
theorem of_abc : Str.ofString "abc" = ⟨[97, 98, 99].toArray⟩ := by decide +kernel
theorem of_zab : Str.ofString "zab" = ⟨[122, 97, 98].toArray⟩ := by decide +kernel
theorem of_b : Str.ofString "b" = ⟨#[98]⟩ := by decide +kernel
theorem letters_of {v : V} (h : v ∈ [V.str (Str.ofString "ab"), V.str (Str.ofString "abc"), V.str (Str.ofString "a"), V.str (Str.ofString "zab")]) : ∃ l : List Nat, v = T l ∧ 0 < l.length ∧ l.length ≤ 1000 ∧ ∀ c ∈ l, 97 ≤ c ∧ c ≤ 122 := by
  rw [of_ab, of_abc, of_a, of_zab] at h
  rcases List.mem_cons.mp h with h | h
  · exact ⟨_, h, by decide, by decide, by decide⟩
  rcases List.mem_cons.mp h with h | h
  · exact ⟨_, h, by decide, by decide, by decide⟩
  rcases List.mem_cons.mp h with h | h
  · exact ⟨[97], h, by decide, by decide, by decide⟩
  rcases List.mem_cons.mp h with h | h
  · exact ⟨_, h, by decide, by decide, by decide⟩
  · cases h
def sp_law_ring (_ : PySem.W.Frag) : Sp := fun vs H Q _ => ∃ a, ∃ m : Nat, vs = [.ref a, .int (m : Int)] ∧ PotAt H a ∧ 0 < m ∧ m ≤ 10 ∧ ∀ l H', Wd l → l.length ≤ 20 → Kept a H H' → PotAt H' a → Q (T l) H'
theorem ok_law_ring (D : Def K mg "_law_ring" s_law_ring ["_law_pot_here", "_law_most"]) (B : Bs mg) (Glb : Glo mg)
    (h_law_pick : Good P w K mg base "_law_pick" s_law_pick ["_law_pot_here", "_law_some"] 2 (sp_law_pick K))
    (h_law_draw : Good P w K mg base "_law_draw" s_law_draw ["_law_pot_here", "_law_size"] 1 (sp_law_draw K)) :
    Good P w K mg base "_law_ring" s_law_ring ["_law_pot_here", "_law_most"] 3 (sp_law_ring K) := by
  refine D.good fun f fd F => ?_
  obtain ⟨f_law_pick, d_law_pick, O_law_pick, m_law_pick, k_law_pick, b_law_pick, F_law_pick⟩ := h_law_pick
  obtain ⟨f_law_draw, d_law_draw, O_law_draw, m_law_draw, k_law_draw, b_law_draw, F_law_draw⟩ := h_law_draw
  refine F.ok sc_law_ring (fun vs H Q E h => ?_) (fun cdv A outer s H vs Q E hr h => ?_)
  · obtain ⟨a, m, rfl, hp, hm0, hm, q⟩ := h
    first | rfl | (rcases h with ⟨_, _, rfl, _⟩ | ⟨_, rfl, _⟩ <;> rfl)
  obtain ⟨a, m, rfl, hp, hm0, hm, q⟩ := h
  refine ⟨_, (pss_cons (ps_set (i := 2) sc_law_ring.nd rfl (by first | exact Or.inl rfl | exact Or.inr rfl) (pe_call O_law_pick hr rfl m_law_pick k_law_pick b_law_pick .nil pass0 (pa_cons (pv 0) (pa_cons (pe_lst (pa_cons pe_str (pa_cons pe_str (pa_cons pe_str (pa_cons pe_str pa_nil))))) pa_nil))))
  (pss_cons (ps_set (i := 3) sc_law_ring.nd rfl (by first | exact Or.inl rfl | exact Or.inr rfl) pe_str)
  (pss_cons (ps_for PassesOwn.never rfl (pi_range1 (by rfl) B.range (pa_cons (pe_op op_add pe_int (pe_call O_law_draw (hr.mono (by decide)) rfl m_law_draw k_law_draw b_law_draw .nil pass0 (pa_cons (pv 0) (pa_cons (pv 1) pa_nil)))) pa_nil)) (pg_name (i := 4) sc_law_ring.nd rfl (by first | exact Or.inl rfl | exact Or.inr rfl))
    (pss_one (ps_set (i := 3) sc_law_ring.nd rfl (by first | exact Or.inl rfl | exact Or.inr rfl) (pe_op op_add_str (pv 3) (pe_call O_law_pick hr rfl m_law_pick k_law_pick b_law_pick .nil pass0 (pa_cons (pv 0) (pa_cons (pv 2) pa_nil)))))))
  (pss_one (ps_ret (pe_ifExp (PW.pt (pw_and (pt_cmpR op_lt (pe_callB call_len_str (by rfl) B.len (by decide +kernel) (pa_cons (pv 3) pa_nil)) pe_int (nomark _)) (pw_and1 (pt_cmpR op_eq (pe_call O_law_draw (hr.mono (by decide)) rfl m_law_draw k_law_draw b_law_draw .nil pass0 (pa_cons (pv 0) (pa_cons pe_int pa_nil))) pe_int (nomark _))))) (pe_op op_mul_str (pv 3) (pe_op op_add pe_int (pe_call O_law_draw (hr.mono (by decide)) rfl m_law_draw k_law_draw b_law_draw .nil pass0 (pa_cons (pv 0) (pa_cons pe_int pa_nil))))) (pv 3))))))), ?_⟩
  refine ⟨_, rfl, (by show 4 ≤ sizeLine; decide), fun p np => ⟨a, .inl ⟨p, _, rfl, upd_same, ?_, by simp, by simp, hp.new np, fun v H1 hv hk1 hp1 => ?_⟩⟩⟩
  · obtain ⟨x, y, e, _⟩ := hp
    exact (ne_of_none e np).symm
  obtain ⟨ls, rfl, ls0, ls1, ls2⟩ := letters_of hv
  have hk1' : Kept a H H1 := (Same.kept (same_new np _)).trans hk1
  refine ⟨_, rfl, _, rfl, a, m, rfl, hp1, hm0, by omega, fun d H2 hd hk2 hp2 => ?_⟩
  refine ⟨_, _, rfl, rfl, _, rfl, (by omega), (by omega), ?_⟩
  rw [show ((1 : Int) + (d : Int)).toNat = d + 1 by omega]
  refine for_range (lo := 0) (n := d + 1) (fun i σ H' => ∃ (fd : List Nat) (v : Option V), σ = [some (.ref a), some (.int (m : Int)), some (T ls), some (T fd), v] ∧ fd.length = i ∧ (∀ c ∈ fd, 97 ≤ c ∧ c ≤ 122) ∧ Kept a H H' ∧ PotAt H' a)
    ⟨[], none, ?_, rfl, by simp, hk1'.trans hk2, hp2⟩ ?_ ?_
  · show [some (V.ref a), some (V.int (m : Int)), some (T ls), some (V.str (Str.ofString "")), none] = _
    rw [T_nil]
  · rintro i σ H3 hi ⟨fd, v, rfl, hl, hc, hk, hpp⟩
    refine ⟨_, rfl, _, rfl, _, rfl, a, .inr ⟨ls, rfl, ls0, ls1, hpp, fun c H4 hcl hk4 hp4 => ⟨_, _, rfl, rfl, ?_, ?_⟩⟩⟩
    · rw [T_len]
      show fd.length + 1 ≤ sizeLine
      exact Nat.le_of_lt (small1000 (by omega))
    · refine ⟨fd ++ [c], some (.int (0 + (i : Int))), ?_, by rw [List.length_append, hl]; rfl, ?_, hk.trans hk4, hp4⟩
      · show [some (V.ref a), some (V.int (m : Int)), some (T ls), some (V.str ((⟨fd.toArray⟩ : Str) ++ (⟨[c].toArray⟩ : Str))), some (.int (0 + (i : Int)))] = _
        rw [T_app]
      · intro c' hc'
        rcases List.mem_append.mp hc' with h | h
        · exact hc c' h
        · rw [List.mem_singleton.mp h]
          exact ls2 c hcl
  · rintro σ H3 ⟨fd, v, rfl, hl, hc, hk, hpp⟩
    have hwd : Wd fd := ⟨by omega, by omega, hc⟩
    refine ⟨_, rfl, _, rfl, T_line (by omega), _, _, rfl, rfl, _, rfl, ?_⟩
    refine ite2 (fun c1 => ?_) (fun c1 => ?_)
    · have c2 : ((((⟨fd.toArray⟩ : Str).length : Nat) : Int)) < 6 := of_decide_eq_true c1
      rw [T_len] at c2
      refine ⟨_, rfl, a, 3, rfl, hpp, by decide, by decide, fun d2 H4 hd2 hk4 hp4 => ⟨rfl, _, rfl, ?_⟩⟩
      refine ite2 (fun c3 => ?_) (fun c3 => ?_)
      · refine ⟨_, rfl, _, rfl, a, 3, rfl, hp4, by decide, by decide, fun d3 H5 hd3 hk5 hp5 => ⟨_, _, rfl, rfl, fd, 1 + d3, rfl, rfl, by omega, by omega, by omega, ?_⟩⟩
        have hlen : (List.replicate (1 + d3) fd).flatten.length = (1 + d3) * fd.length := by simp
        have hle : (1 + d3) * fd.length ≤ 3 * 5 := Nat.mul_le_mul (by omega) (by omega)
        have hge : 1 * 1 ≤ (1 + d3) * fd.length := Nat.mul_le_mul (by omega) (by omega)
        refine q _ H5 ⟨by omega, by omega, fun c hcm => ?_⟩ (by omega) ((hk.trans hk4).trans hk5) hp5
        obtain ⟨r, hr, hcr⟩ := List.mem_flatten.mp hcm
        rw [List.eq_of_mem_replicate hr] at hcr
        exact hc c hcr
      · exact ⟨_, rfl, q _ H4 hwd (by omega) (hk.trans hk4) hp4⟩
    · exact ⟨_, rfl, q _ H3 hwd (by omega) hk hpp⟩
def sp_law_begins (_ : PySem.W.Frag) : Sp := fun vs H Q _ => ∃ c w, vs = [T c, T w] ∧ Wd c ∧ Wd w ∧ ∀ p H', Same H H' → H p = none → H' p = some (.lst (iv (due c w))) → Q (.ref p) H'
theorem ok_law_begins (D : Def K mg "_law_begins" s_law_begins ["_law_ring_here", "_law_word"]) (B : Bs mg) (Glb : Glo mg)
    (h_law_round : Good P w K mg base "_law_round" s_law_round ["_law_ring_here", "_law_place", "_law_many"] 1 (sp_law_round K)) :
    Good P w K mg base "_law_begins" s_law_begins ["_law_ring_here", "_law_word"] 2 (sp_law_begins K) := by
  refine D.good fun f fd F => ?_
  obtain ⟨f_law_round, d_law_round, O_law_round, m_law_round, k_law_round, b_law_round, F_law_round⟩ := h_law_round
  refine F.ok sc_law_begins (fun vs H Q E h => ?_) (fun cdv A outer s H vs Q E hr h => ?_)
  · obtain ⟨c, w, rfl, hc, hw, q⟩ := h
    first | rfl | (rcases h with ⟨_, _, rfl, _⟩ | ⟨_, rfl, _⟩ <;> rfl)
  obtain ⟨c, w, rfl, hc, hw, q⟩ := h
  refine ⟨_, (pss_one (ps_ret (pe_lc (own := [("_law_place", 2)]) (g := gName 2) (by rfl) sc_law_begins.nd (pi_range1 (by rfl) B.range (pa_cons (pe_callB call_len_str (by rfl) B.len (by decide +kernel) (pa_cons (pv 0) pa_nil)) pa_nil)) (blkOk_by (own := [("_law_place", 2)]) (N := ["_law_ring_here", "_law_word", "_law_place"]) (sc := defScope s_law_begins) (by decide +kernel)) (fun _ _ _ _ _ => (pg_name (i := 2) sc_law_begins.nd rfl (by first | exact Or.inl rfl | exact Or.inr rfl))) (fun _ _ _ _ _ => (pts_one (pt_cmpR op_eq (pe_call O_law_round hr rfl m_law_round k_law_round b_law_round .nil pass0 (pa_cons (pv 0) (pa_cons (pv 2) (pa_cons (pe_callB call_len_str (by rfl) B.len (by decide +kernel) (pa_cons (pv 1) pa_nil)) pa_nil)))) (pv 1) (nomark _)))) (fun _ _ _ _ _ => (pv 2))))), ?_⟩
  have hcl := hc.2.1
  have hwl := hw.2.1
  refine ⟨_, rfl, _, rfl, T_line (by omega), _, rfl, (by rw [T_len]; omega), (by rw [T_len]; omega), fun D nD => ?_⟩
  rw [show ((((⟨c.toArray⟩ : Str).length : Nat) : Int)).toNat = c.length by rw [T_len]; rfl]
  refine lc_range (lo := 0) (n := c.length) (fun i H' => Same H H' ∧ H' D = some (.lst (iv (dueTo c w i)))) ⟨same_new nD _, upd_same⟩ ?_ ?_
  · rintro i H1 hi ⟨hS, hD⟩
    refine ⟨rfl, _, rfl, _, rfl, _, rfl, _, rfl, T_line (by omega), c, i, w.length, ?_, hc, by omega, ?_⟩
    · rw [T_len, Int.zero_add]
      rfl
    · refine ⟨_, rfl, rfl, _, rfl, ?_⟩
      refine ite2 (fun c1 => ?_) (fun c1 => ?_)
      · have e : rd c i w.length = w := T_inj.mp (of_decide_eq_true c1)
        refine ⟨_, rfl, _, hD, ?_, same_upd hS nD, ?_⟩
        · have := dueTo_len c w i
          rw [List.length_map]
          exact small1000 (by omega)
        · rw [dueTo_succ_yes e, iv_app]
          exact upd_same.trans (congrArg (fun z => some (HO.lst (iv (dueTo c w i) ++ [V.int z]))) (Int.zero_add _))
      · have e : ¬ rd c i w.length = w := fun z => by
          have c2 : ¬ T (rd c i w.length) = T w := of_decide_eq_false (Bool.eq_false_iff.mpr c1)
          exact c2 (by rw [z])
        rw [dueTo_succ_no e]
        exact ⟨hS, hD⟩
  · rintro H1 ⟨hS, hD⟩
    exact q D H1 hS nD hD
end
end My
namespace My
open PySem L2 PyProof.Rows
/-! ### lists of ints compared -/
abbrev iz (L : List Int) : List V := L.map V.int
theorem iv_iz (L : List Nat) : iv L = iz (L.map fun n : Nat => (n : Int)) := by
  unfold iv iz
  rw [List.map_map]
  rfl
abbrev dz (L : List Int) : PyData := .list (L.map PyData.int)
theorem dpAll_iz {K : PySem.W.Frag} {H : Hp} : ∀ L : List Int, DpAll K H (iz L) (L.map PyData.int)
  | [] => .nil
  | n :: r => .cons (.int n) (dpAll_iz r)
theorem dp_iz {K : PySem.W.Frag} {H : Hp} {p : Addr} {L : List Int} (h : H p = some (.lst (iz L))) : Dp K H (.ref p) (dz L) := .lst (SqL.of h) (dpAll_iz L)
theorem layAll_iz : ∀ L : List Int, PyData.canLayAll0 (L.map PyData.int) = true
  | [] => rfl
  | n :: r => by
    show (PyData.canLay0 (.int n) && PyData.canLayAll0 (r.map PyData.int)) = true
    rw [layAll_iz r]
    rfl
theorem depthAll_iz : ∀ L : List Int, PyData.depthAll (L.map PyData.int) = 0
  | [] => rfl
  | n :: r => by
    show max (PyData.depth (.int n)) (PyData.depthAll (r.map PyData.int)) = 0
    rw [depthAll_iz r]
    rfl
theorem shaped_iz (L : List Int) : SeqAt.shaped (dz L) = true := by
  unfold SeqAt.shaped
  have h1 : PyData.canLay0 (dz L) = true := by
    show PyData.canLay0 (.list (L.map PyData.int)) = true
    unfold PyData.canLay0
    exact layAll_iz L
  have h2 : PyData.depth (dz L) = 1 := by
    show PyData.depth (.list (L.map PyData.int)) = 1
    unfold PyData.depth
    rw [depthAll_iz]
  rw [h1, h2]
  rfl
theorem eqv_same (L : List Int) : PyData.eqv (dz L) (dz L) = true := by
  have h1 : PyData.canLay0 (dz L) = true := by
    show PyData.canLay0 (.list (L.map PyData.int)) = true
    unfold PyData.canLay0
    exact layAll_iz L
  exact SeqAt.eqv_refl _ h1
theorem eqv_empty (L : List Int) : PyData.eqv (dz L) (dz []) = decide (L = []) := by
  cases L with
  | nil => rfl
  | cons n r => rfl
section
variable {P : Program} {w : World} {K : PySem.W.Frag} {mg : Str → Option Value} {base : Heap}
/-- the lengths that are borders of p, of the first n -/
def bl (p : List Nat) (n : Nat) : List Nat := (List.range n).filter fun m => p.take m == p.drop (p.length - m)
theorem mem_bl {p : List Nat} {n m : Nat} : m ∈ bl p n ↔ m < n ∧ p.take m = p.drop (p.length - m) := by simp [bl]
theorem bl_yes {p : List Nat} {n : Nat} (h : p.take n = p.drop (p.length - n)) : bl p (n + 1) = bl p n ++ [n] := by
  simp [bl, List.range_succ, List.filter_append, h]
theorem bl_no {p : List Nat} {n : Nat} (h : ¬ p.take n = p.drop (p.length - n)) : bl p (n + 1) = bl p n := by
  simp [bl, List.range_succ, List.filter_append, h]
theorem bl_len (p : List Nat) (n : Nat) : (bl p n).length ≤ n := by
  have := List.length_filter_le (fun m => p.take m == p.drop (p.length - m)) (List.range n)
  rw [List.length_range] at this
  exact this
theorem lb_of_max {p : List Nat} {b : Nat} (h : b ∈ bl p p.length) (hm : ∀ m ∈ bl p p.length, m ≤ b) : IsLB p b := by
  obtain ⟨h1, h2⟩ := mem_bl.mp h
  have key : ∀ m, m < p.length → (p.take m <:+ p ↔ p.take m = p.drop (p.length - m)) := fun m hm => by
    rw [List.suffix_iff_eq_drop, List.length_take, Nat.min_eq_left (by omega)]
  exact ⟨h1, (key b h1).mpr h2, fun b' hb' hs => hm b' (mem_bl.mpr ⟨hb', (key b' hb').mp hs⟩)⟩
theorem zero_mem {p : List Nat} (h : 0 < p.length) : 0 ∈ bl p p.length := mem_bl.mpr ⟨h, by simp⟩
def sp_law_borders (_ : PySem.W.Frag) : Sp := fun vs H Q _ => ∃ l, vs = [T l] ∧ Wd l ∧ ∀ L p H', Bords l L → Same H H' → H p = none → H' p = some (.lst (iv L)) → Q (.ref p) H'
theorem ok_law_borders (D : Def K mg "_law_borders" s_law_borders ["_law_word"]) (B : Bs mg) (Glb : Glo mg) :
    Good P w K mg base "_law_borders" s_law_borders ["_law_word"] 1 (sp_law_borders K) := by
  refine D.good fun f fd F => ?_
  refine F.ok sc_law_borders (fun vs H Q E h => ?_) (fun cdv A outer s H vs Q E hr h => ?_)
  · obtain ⟨l, rfl, hl, q⟩ := h
    first | rfl | (rcases h with ⟨_, _, rfl, _⟩ | ⟨_, rfl, _⟩ <;> rfl)
  obtain ⟨l, rfl, hl, q⟩ := h
  refine ⟨_, (pss_cons (ps_set (i := 1) sc_law_borders.nd rfl (by first | exact Or.inl rfl | exact Or.inr rfl) (pe_lst pa_nil))
  (pss_cons (ps_for PassesOwn.never rfl (pi_range2 (by rfl) B.range (pa_cons pe_int (pa_cons (pe_op op_add (pe_callB call_len_str (by rfl) B.len (by decide +kernel) (pa_cons (pv 0) pa_nil)) pe_int) pa_nil))) (pg_name (i := 2) sc_law_borders.nd rfl (by first | exact Or.inl rfl | exact Or.inr rfl))
    (pss_cons (ps_set (i := 3) sc_law_borders.nd rfl (by first | exact Or.inl rfl | exact Or.inr rfl) (pe_slice sl_str (pv 0) po_none (po_some (pv 2))))
  (pss_one (ps_expr (pe_bm PySem.F.plainAttrs_list PySem.F.slot_list_append PySem.F.type_list_append mt_append (pv 1) (pa_cons (pe_callB (cr_max rfl) (by rfl) B.max (by decide +kernel) (pa_cons (pe_lc (own := [("_law_many", 4)]) (g := gName 4) (by rfl) sc_law_borders.nd (pi_range1 (by rfl) B.range (pa_cons (pv 2) pa_nil)) (blkOk_by (own := [("_law_many", 4)]) (N := ["_law_word", "_law_found", "_law_end", "_law_part", "_law_many"]) (sc := defScope s_law_borders) (by decide +kernel)) (fun _ _ _ _ _ => (pg_name (i := 4) sc_law_borders.nd rfl (by first | exact Or.inl rfl | exact Or.inr rfl))) (fun _ _ _ _ _ => (pts_one (pt_cmpR op_eq (pe_slice sl_str (pv 3) po_none (po_some (pv 4))) (pe_slice sl_str (pv 3) (po_some (pe_op op_sub (pv 2) (pv 4))) po_none) (nomark _)))) (fun _ _ _ _ _ => (pv 4))) pa_nil)) pa_nil))))))
  (pss_one (ps_ret (pv 1))))), ?_⟩
  have hlen := hl.2.1
  have h0 := hl.1
  refine ⟨(by show 0 ≤ sizeLine; decide), fun p np => ?_⟩
  refine ⟨_, rfl, _, rfl, T_line (by omega), _, _, rfl, rfl, _, _, rfl, ⟨by omega, by omega, by rw [T_len]; omega, by rw [T_len]; omega⟩, ?_⟩
  rw [show ((((⟨l.toArray⟩ : Str).length : Nat) : Int) + 1 - 1).toNat = l.length by rw [T_len]; omega]
  refine for_range (lo := 1) (n := l.length) (fun i σ H' => ∃ (L : List Nat) (v1 v2 : Option V), σ = [some (T l), some (.ref p), v1, v2, none] ∧ BordsTo l i L ∧ Same H H' ∧ H' p = some (.lst (iv L)))
    ⟨[], none, none, rfl, ⟨rfl, fun j hj => by omega⟩, same_new np _, upd_same⟩ ?_ ?_
  · rintro i σ H1 hi ⟨L, v1, v2, rfl, hB, hS, hp⟩
    refine ⟨_, rfl, _, rfl, _, rfl, _, rfl, T_line (by omega), ?_⟩
    rw [show cutS ⟨l.toArray⟩ none (some ((1 : Int) + (i : Int))) = ⟨(l.take (1 + i)).toArray⟩ from cut_to (p := 1 + i)]
    have hpl : (l.take (1 + i)).length = 1 + i := by rw [List.length_take]; omega
    generalize hpd : l.take (1 + i) = pt at hpl
    refine ⟨_, rfl, .inl ⟨rfl, _, SqL.of hp⟩, _, rfl, _, rfl, (by omega), (by omega), fun D nD => ?_⟩
    refine lc_range (lo := 0) (n := 1 + i) (fun j H' => Same H1 H' ∧ H' D = some (.lst (iv (bl pt j)))) ⟨same_new nD _, upd_same⟩ ?_ ?_
    · rintro j H2 hj ⟨hS2, hD⟩
      refine ⟨rfl, _, rfl, _, rfl, _, rfl, _, rfl, T_line (by omega), _, rfl, _, rfl, _, rfl, _, _, rfl, rfl, _, rfl, _, rfl, T_line (by omega), rfl, _, rfl, ?_⟩
      have e1 : cutS ⟨pt.toArray⟩ none (some ((0 : Int) + (j : Int))) = ⟨(pt.take j).toArray⟩ := by
        rw [Int.zero_add]
        exact cut_to
      have e2 : cutS ⟨pt.toArray⟩ (some ((1 : Int) + (i : Int) - ((0 : Int) + (j : Int)))) none = ⟨(pt.drop (pt.length - j)).toArray⟩ := by
        rw [show (1 : Int) + (i : Int) - ((0 : Int) + (j : Int)) = ((pt.length - j : Nat) : Int) by omega]
        exact cut_from
      refine ite2 (fun c1 => ?_) (fun c1 => ?_)
      · have c2 : V.str (cutS ⟨pt.toArray⟩ none (some ((0 : Int) + (j : Int)))) = V.str (cutS ⟨pt.toArray⟩ (some ((1 : Int) + (i : Int) - ((0 : Int) + (j : Int)))) none) := of_decide_eq_true c1
        rw [e1, e2] at c2
        have c3 := T_inj.mp c2
        refine ⟨_, rfl, _, hD, ?_, same_upd hS2 nD, ?_⟩
        · have := bl_len pt j
          rw [List.length_map]
          exact small1000 (by omega)
        · rw [bl_yes c3, iv_app]
          exact upd_same.trans (congrArg (fun z => some (HO.lst (iv (bl pt j) ++ [V.int z]))) (Int.zero_add _))
      · have c2 : ¬ V.str (cutS ⟨pt.toArray⟩ none (some ((0 : Int) + (j : Int)))) = V.str (cutS ⟨pt.toArray⟩ (some ((1 : Int) + (i : Int) - ((0 : Int) + (j : Int)))) none) := of_decide_eq_false (Bool.eq_false_iff.mpr c1)
        rw [e1, e2] at c2
        have c3 : ¬ pt.take j = pt.drop (pt.length - j) := fun z => c2 (by rw [z])
        rw [bl_no c3]
        exact ⟨hS2, hD⟩
    · rintro H2 ⟨hS2, hD⟩
      rw [← hpl] at hD
      have hz := zero_mem (p := pt) (by omega)
      refine ⟨_, (bl pt pt.length).map fun n : Nat => (n : Int), rfl, SqL.of (by rw [hD, iv_iz]), ?_, fun m hm hle => ?_⟩
      · rw [List.length_map]
        exact List.length_pos_of_mem hz
      obtain ⟨b, hb, rfl⟩ := List.mem_map.mp hm
      have lb : IsLB pt b := lb_of_max hb fun m hm => by
        have := hle (m : Int) (List.mem_map.mpr ⟨m, hm, rfl⟩)
        omega
      rw [← hpd, Nat.add_comm] at lb
      have hL : L.length = i := hB.1
      refine ⟨_, _, _, rfl, rfl, hS2 _ _ hp, ?_, ?_⟩
      · rw [List.length_map, hL]
        exact small1000 (by omega)
      · refine ⟨L ++ [b], _, _, rfl, ⟨by rw [List.length_append, hL]; rfl, fun j hj => ?_⟩, same_upd (hS.trans hS2) np, ?_⟩
        · by_cases hji : j < i
          · obtain ⟨b', e, l'⟩ := hB.2 j hji
            exact ⟨b', by rw [List.getElem?_append_left (by rw [hL]; exact hji)]; exact e, l'⟩
          · have e : j = i := by omega
            subst e
            refine ⟨b, ?_, lb⟩
            rw [List.getElem?_append_right (by rw [hL]; omega), hL, Nat.sub_self]
            rfl
        · exact upd_same.trans (congrArg (fun z => some (HO.lst z)) (iv_app _ _).symm)
  · rintro σ H1 ⟨L, v1, v2, rfl, hB, hS, hp⟩
    exact ⟨_, rfl, q L p H1 hB hS np hp⟩
end
end My
namespace My
open PySem L2 PyProof.Rows
/-! ### places moved on -/
theorem shift_inj {N s a b : Nat} (ha : a < N) (hb : b < N) (h : (a + s) % N = (b + s) % N) : a = b := by
  rw [← Nat.add_mod_mod a s N, ← Nat.add_mod_mod b s N] at h
  have hr : s % N < N := Nat.mod_lt _ (by omega)
  generalize s % N = r at h hr
  by_cases h1 : a + r < N
  · rw [Nat.mod_eq_of_lt h1] at h
    by_cases h2 : b + r < N
    · rw [Nat.mod_eq_of_lt h2] at h; omega
    · rw [Nat.mod_eq_sub_mod (by omega), Nat.mod_eq_of_lt (by omega)] at h; omega
  · rw [Nat.mod_eq_sub_mod (by omega), Nat.mod_eq_of_lt (by omega)] at h
    by_cases h2 : b + r < N
    · rw [Nat.mod_eq_of_lt h2] at h; omega
    · rw [Nat.mod_eq_sub_mod (by omega), Nat.mod_eq_of_lt (by omega)] at h; omega
theorem nodup_shift {N s : Nat} : ∀ {L : List Nat}, (∀ n ∈ L, n < N) → L.Nodup → (L.map fun n => (((n + s) % N : Nat) : Int)).Nodup
  | [], _, _ => by simp
  | a :: r, h, hd => by
    rw [List.nodup_cons] at hd
    rw [List.map_cons, List.nodup_cons]
    refine ⟨fun hm => ?_, nodup_shift (fun n hn => h n (List.mem_cons_of_mem _ hn)) hd.2⟩
    obtain ⟨b, hb, e⟩ := List.mem_map.mp hm
    have e2 : (b + s) % N = (a + s) % N := by omega
    have := shift_inj (h b (List.mem_cons_of_mem _ hb)) (h a List.mem_cons_self) e2
    subst this
    exact hd.1 hb
theorem due_lt {l w : List Nat} : ∀ n ∈ due l w, n < l.length := fun n hn => (mem_due.mp hn).1
theorem due_nodup (l w : List Nat) : (due l w).Nodup := by
  have : (due l w).Pairwise (· < ·) := List.Pairwise.filter _ List.pairwise_lt_range
  exact this.imp fun {a b} (h : a < b) => by omega
theorem back_mod {N b n : Nat} (hn : n < N) : (b + (n + (N - b % N)) % N) % N = n := by
  have h1 := Nat.div_add_mod b N
  have h2 : b % N < N := Nat.mod_lt _ (by omega)
  rw [Nat.add_mod_mod]
  have e : b + (n + (N - b % N)) = n + N * (b / N + 1) := by
    rw [Nat.mul_succ]
    omega
  rw [e, Nat.add_mul_mod_self_left, Nat.mod_eq_of_lt hn]
theorem on_mod {N b p : Nat} (hp : p < N) : ((b + p) % N + (N - b % N)) % N = p := by
  rw [Nat.mod_add_mod]
  have h1 := Nat.div_add_mod b N
  have h2 : b % N < N := Nat.mod_lt _ (by omega)
  have e : b + p + (N - b % N) = p + N * (b / N + 1) := by
    rw [Nat.mul_succ]
    omega
  rw [e, Nat.add_mul_mod_self_left, Nat.mod_eq_of_lt hp]
/-- a period further on the word begins, too -/
theorem mem_per {l w : List Nat} {b : Nat} (h : IsLB l b) (x : Int) : (x ∈ (due l w).map fun n => (((n + per l b) % l.length : Nat) : Int)) ↔ x ∈ (due l w).map fun n : Nat => (n : Int) := by
  have h0 : 0 < l.length := by have := h.1; omega
  constructor
  · intro hx
    obtain ⟨n, hn, rfl⟩ := List.mem_map.mp hx
    obtain ⟨h1, h2⟩ := mem_due.mp hn
    refine List.mem_map.mpr ⟨(n + per l b) % l.length, mem_due.mpr ⟨Nat.mod_lt _ h0, ?_⟩, rfl⟩
    rw [rd_mod, rd_per h, h2]
  · intro hx
    obtain ⟨n, hn, rfl⟩ := List.mem_map.mp hx
    obtain ⟨h1, h2⟩ := mem_due.mp hn
    refine List.mem_map.mpr ⟨(n + (l.length - per l b % l.length)) % l.length, mem_due.mpr ⟨Nat.mod_lt _ h0, ?_⟩, ?_⟩
    · rw [← rd_per h, Nat.add_comm, ← rd_mod, back_mod h1, h2]
    · rw [Nat.add_comm _ (per l b), back_mod h1]
/-- of a turned ring the places are turned -/
theorem mem_late {l w : List Nat} {b : Nat} (h0 : 0 < l.length) (x : Int) : (x ∈ (due l w).map fun n => (((n + (l.length - b % l.length)) % l.length : Nat) : Int)) ↔ x ∈ (due (rd l b l.length) w).map fun n : Nat => (n : Int) := by
  constructor
  · intro hx
    obtain ⟨n, hn, rfl⟩ := List.mem_map.mp hx
    obtain ⟨h1, h2⟩ := mem_due.mp hn
    refine List.mem_map.mpr ⟨(n + (l.length - b % l.length)) % l.length, mem_due.mpr ⟨?_, ?_⟩, rfl⟩
    · rw [rd_len]
      exact Nat.mod_lt _ h0
    · rw [rd_turned _ _ _ _ h0, ← rd_mod, back_mod h1, h2]
  · intro hx
    obtain ⟨p, hp, rfl⟩ := List.mem_map.mp hx
    obtain ⟨h1, h2⟩ := mem_due.mp hp
    rw [rd_len] at h1
    rw [rd_turned _ _ _ _ h0] at h2
    refine List.mem_map.mpr ⟨(b + p) % l.length, mem_due.mpr ⟨Nat.mod_lt _ h0, ?_⟩, ?_⟩
    · rw [rd_mod, h2]
    · rw [on_mod h1]
theorem late_cast {N b n : Nat} (hN : 0 < N) : ((n : Int) - (b : Int)) % (N : Int) = (((n + (N - b % N)) % N : Nat) : Int) := by
  have h1 := Nat.div_add_mod b N
  have h2 : b % N < N := Nat.mod_lt _ hN
  rw [Int.natCast_emod]
  have e : (n : Int) - (b : Int) = ((n + (N - b % N) : Nat) : Int) + (N : Int) * (-((b / N : Nat) : Int) - 1) := by
    have h3 : ((N * (b / N) + b % N : Nat) : Int) = (b : Int) := by rw [h1]
    rw [Int.natCast_add, Int.natCast_mul] at h3
    rw [Int.mul_sub, Int.mul_neg, Int.mul_one]
    omega
  rw [e, Int.add_mul_emod_self_left]
theorem rd_mem {l : List Nat} (h0 : 0 < l.length) {p n c : Nat} (h : c ∈ rd l p n) : c ∈ l := by
  obtain ⟨k, _, rfl⟩ := List.mem_map.mp h
  have := Nat.mod_lt (p + k) h0
  rw [List.getD_eq_getElem?_getD, List.getElem?_eq_getElem this]
  exact List.getElem_mem this
theorem wd_rd {l : List Nat} (h : Wd l) {p n : Nat} (hn : 0 < n) (hn2 : n ≤ 100) : Wd (rd l p n) := ⟨by rw [rd_len]; exact hn, by rw [rd_len]; exact hn2, fun c hc => h.2.2 c (rd_mem h.1 hc)⟩
theorem iv_get {L : List Nat} {i : Nat} {x : V} (h : (iv L)[i]? = some x) : ∃ n : Nat, L[i]? = some n ∧ x = V.int (n : Int) := by
  unfold iv at h
  rw [List.getElem?_map] at h
  cases e : L[i]? with
  | none =>
    rw [e] at h
    cases h
  | some n =>
    rw [e] at h
    exact ⟨n, rfl, (Option.some.inj h).symm⟩
theorem iz_snoc (A : List Int) (z : Int) : iz (A ++ [z]) = iz A ++ [V.int z] := by
  unfold iz
  rw [List.map_append]
  rfl
theorem iteNb {x : Bool} {A B : Prop} (h : x = true) (b : B) : if (!x) = true then A else B := by
  rw [h]
  exact iteF b
theorem bl_is {x : Bool} {Q : VK} {H : Hp} (h : x = true) (q : Q (.bl true) H) : Q (.bl x) H := by
  rw [h]
  exact q
section
variable {P : Program} {w : World} {K : PySem.W.Frag} {mg : Str → Option Value} {base : Heap}
def sp_law_word_right (_ : PySem.W.Frag) : Sp := fun vs H Q _ => ∃ l w, ∃ b : Nat, vs = [T l, T w, .int (b : Int)] ∧ Wd l ∧ Wd w ∧ ∀ H', Same H H' → Q (.bl true) H'
theorem ok_law_word_right (D : Def K mg "_law_word_right" s_law_word_right ["_law_ring_here", "_law_word", "_law_by"]) (B : Bs mg) (Glb : Glo mg)
    (h_law_begins : Good P w K mg base "_law_begins" s_law_begins ["_law_ring_here", "_law_word"] 2 (sp_law_begins K))
    (hbegins : Good P w K mg base "begins" sbegins ["ring", "word"] 5 (spbegins K))
    (hperiod_of : Good P w K mg base "period_of" speriod_of ["ring"] 5 (spperiod_of K))
    (hplain_begins : Good P w K mg base "plain_begins" splain_begins ["ring", "word"] 5 (spplain_begins K))
    (hborders : Good P w K mg base "borders" sborders ["word"] 5 (spborders K))
    (h_law_borders : Good P w K mg base "_law_borders" s_law_borders ["_law_word"] 1 (sp_law_borders K))
    (hturned : Good P w K mg base "turned" sturned ["ring", "by"] 5 (spturned K))
    (hstands_in : Good P w K mg base "stands_in" sstands_in ["ring", "word"] 6 (spstands_in K)) :
    Good P w K mg base "_law_word_right" s_law_word_right ["_law_ring_here", "_law_word", "_law_by"] 7 (sp_law_word_right K) := by
  refine D.good fun f fd F => ?_
  obtain ⟨f_law_begins, d_law_begins, O_law_begins, m_law_begins, k_law_begins, b_law_begins, F_law_begins⟩ := h_law_begins
  obtain ⟨fbegins, dbegins, Obegins, mbegins, kbegins, bbegins, Fbegins⟩ := hbegins
  obtain ⟨fperiod_of, dperiod_of, Operiod_of, mperiod_of, kperiod_of, bperiod_of, Fperiod_of⟩ := hperiod_of
  obtain ⟨fplain_begins, dplain_begins, Oplain_begins, mplain_begins, kplain_begins, bplain_begins, Fplain_begins⟩ := hplain_begins
  obtain ⟨fborders, dborders, Oborders, mborders, kborders, bborders, Fborders⟩ := hborders
  obtain ⟨f_law_borders, d_law_borders, O_law_borders, m_law_borders, k_law_borders, b_law_borders, F_law_borders⟩ := h_law_borders
  obtain ⟨fturned, dturned, Oturned, mturned, kturned, bturned, Fturned⟩ := hturned
  obtain ⟨fstands_in, dstands_in, Ostands_in, mstands_in, kstands_in, bstands_in, Fstands_in⟩ := hstands_in
  have kb_begins_ring_word : KBinds K dbegins ["ring", "word"] ["ring", "word"] g12 g12 := fun_kbinds Fbegins g12 g12 rel12 (fun _ _ _ _ _ _ us ws hl => by
    obtain ⟨rfl, a0, a1, rfl⟩ := g12_inv hl
    rfl)
  have kb_plain_begins_word_ring : KBinds K dplain_begins ["ring", "word"] ["word", "ring"] g21 g21 := fun_kbinds Fplain_begins g21 g21 rel21 (fun _ _ _ _ _ _ us ws hl => by
    obtain ⟨rfl, a0, a1, rfl⟩ := g21_inv hl
    rfl)
  refine F.ok sc_law_word_right (fun vs H Q E h => ?_) (fun cdv A outer s H vs Q E hr h => ?_)
  · obtain ⟨l, w, b, rfl, hl, hw, q⟩ := h
    first | rfl | (rcases h with ⟨_, _, rfl, _⟩ | ⟨_, rfl, _⟩ <;> rfl)
  obtain ⟨l, w, b, rfl, hl, hw, q⟩ := h
  refine ⟨_, (pss_cons (ps_set (i := 3) sc_law_word_right.nd rfl (by first | exact Or.inl rfl | exact Or.inr rfl) (pe_call O_law_begins (hr.mono (by decide)) rfl m_law_begins k_law_begins b_law_begins .nil pass0 (pa_cons (pv 0) (pa_cons (pv 1) pa_nil))))
  (pss_cons (ps_set (i := 4) sc_law_word_right.nd rfl (by first | exact Or.inl rfl | exact Or.inr rfl) (pe_call Obegins (hr.mono (by decide)) rfl mbegins kbegins bbegins .nil pass0 (pa_cons (pv 0) (pa_cons (pv 1) pa_nil))))
  (pss_cons (ps_if (PW.pt (pw_or (pt_cmpR (op_neD hr.units) (pv 4) (pv 3) (nomark _)) (pw_or (pt_cmpR (op_neD hr.units) (pe_callKK Oplain_begins (hr.mono (by decide)) (by rfl) mplain_begins kplain_begins kb_plain_begins_word_ring pass0 (pk_cons (pv 1) (pk_cons (pv 0) pk_nil))) (pv 3) (nomark _)) (pw_or1 (pt_cmpR op_ne (pe_callB call_repr_bl (by rfl) B.repr (by decide +kernel) (pa_cons (pe_call Ostands_in hr rfl mstands_in kstands_in bstands_in .nil pass0 (pa_cons (pv 0) (pa_cons (pv 1) pa_nil))) pa_nil)) (pe_callB call_repr_bl (by rfl) B.repr (by decide +kernel) (pa_cons (pe_cmpR (op_neD hr.units) (pv 3) (pe_lst pa_nil) (nomark _)) pa_nil)) (nomark _))))))
    (pss_one (ps_ret pe_bl)) pss_nil)
  (pss_cons (ps_expr (pe_bm PySem.F.plainAttrs_list PySem.F.slot_list_append PySem.F.type_list_append mt_append (pv 4) (pa_cons pe_non pa_nil)))
  (pss_cons (ps_if (PW.pt (pw_or (pt_cmpR (op_neD hr.units) (pe_callKK Obegins (hr.mono (by decide)) (by rfl) mbegins kbegins kb_begins_ring_word pass0 (pk_cons (pv 0) (pk_cons (pv 1) pk_nil))) (pv 3) (nomark _)) (pw_or1 (pt_cmpR (op_neD hr.units) (pe_call Oborders (hr.mono (by decide)) rfl mborders kborders bborders .nil pass0 (pa_cons (pv 1) pa_nil)) (pe_call O_law_borders (hr.mono (by decide)) rfl m_law_borders k_law_borders b_law_borders .nil pass0 (pa_cons (pv 1) pa_nil)) (nomark _)))))
    (pss_one (ps_ret pe_bl)) pss_nil)
  (pss_cons (ps_set (i := 5) sc_law_word_right.nd rfl (by first | exact Or.inl rfl | exact Or.inr rfl) (pe_call Operiod_of (hr.mono (by decide)) rfl mperiod_of kperiod_of bperiod_of .nil pass0 (pa_cons (pv 0) pa_nil)))
  (pss_cons (ps_if (pt_cmpR (op_neD hr.units) (pe_callB cr_sortedI (by rfl) B.sorted (by decide +kernel) (pa_cons (pe_lc (own := [("_law_place", 7)]) (g := gName 7) (by rfl) sc_law_word_right.nd (pi_list (pv 3)) (blkOk_by (own := [("_law_place", 7)]) (N := ["_law_ring_here", "_law_word", "_law_by", "_law_due", "_law_told", "_law_period", "_law_late", "_law_place"]) (sc := defScope s_law_word_right) (by decide +kernel)) (fun _ _ _ _ _ => (pg_name (i := 7) sc_law_word_right.nd rfl (by first | exact Or.inl rfl | exact Or.inr rfl))) (fun _ _ _ _ _ => pts_nil) (fun _ _ _ _ _ => (pe_op op_mod (pe_op op_add (pv 7) (pv 5)) (pe_callB call_len_str (by rfl) B.len (by decide +kernel) (pa_cons (pv 0) pa_nil))))) pa_nil)) (pv 3) (nomark _))
    (pss_one (ps_ret pe_bl)) pss_nil)
  (pss_cons (ps_set (i := 6) sc_law_word_right.nd rfl (by first | exact Or.inl rfl | exact Or.inr rfl) (pe_callB cr_sortedI (by rfl) B.sorted (by decide +kernel) (pa_cons (pe_lc (own := [("_law_place", 7)]) (g := gName 7) (by rfl) sc_law_word_right.nd (pi_list (pv 3)) (blkOk_by (own := [("_law_place", 7)]) (N := ["_law_ring_here", "_law_word", "_law_by", "_law_due", "_law_told", "_law_period", "_law_late", "_law_place"]) (sc := defScope s_law_word_right) (by decide +kernel)) (fun _ _ _ _ _ => (pg_name (i := 7) sc_law_word_right.nd rfl (by first | exact Or.inl rfl | exact Or.inr rfl))) (fun _ _ _ _ _ => pts_nil) (fun _ _ _ _ _ => (pe_op op_mod (pe_op op_sub (pv 7) (pv 2)) (pe_callB call_len_str (by rfl) B.len (by decide +kernel) (pa_cons (pv 0) pa_nil))))) pa_nil)))
  (pss_one (ps_ret (pe_cmpR (op_eqD hr.units) (pe_call Obegins (hr.mono (by decide)) rfl mbegins kbegins bbegins .nil pass0 (pa_cons (pe_call Oturned (hr.mono (by decide)) rfl mturned kturned bturned .nil pass0 (pa_cons (pv 0) (pa_cons (pv 2) pa_nil))) (pa_cons (pv 1) pa_nil))) (pv 6) (nomark _)))))))))))), ?_⟩
  have hlen := hl.2.1
  have h0 := hl.1
  have hwl := hw.2.1
  have hdl : (due l w).length ≤ 100 := Nat.le_trans (dueTo_len l w l.length) hlen
  refine ⟨_, rfl, _, rfl, l, w, rfl, hl, hw, fun p1 H1 hS1 np1 hp1 => ?_⟩
  refine ⟨_, rfl, _, rfl, l, w, rfl, hl, hw, fun p2 H2 hS2 np2 hp2 => ?_⟩
  have n12 : p1 ≠ p2 := ne_of_none hp1 np2
  have hD1 : ∀ {H : Hp}, H p1 = some (.lst (iv (due l w))) → Dp K H (.ref p1) (dz ((due l w).map fun n : Nat => (n : Int))) := fun h => dp_iz (by rw [h, iv_iz])
  have hD : ∀ {H : Hp} {p : Addr}, H p = some (.lst (iv (due l w))) → Dp K H (.ref p) (dz ((due l w).map fun n : Nat => (n : Int))) := fun h => dp_iz (by rw [h, iv_iz])
  have hp1' := hS2 _ _ hp1
  refine ⟨_, rfl, _, rfl, _, _, hD hp2, hD hp1', shaped_iz _, shaped_iz _, _, rfl, iteNb (eqv_same _) ?_⟩
  refine ⟨_, rfl, _, rfl, l, w, rfl, hl, hw, fun p3 H3 hS3 np3 hp3 => ⟨_, rfl, _, _, hD hp3, hD (hS3 _ _ hp1'), shaped_iz _, shaped_iz _, _, rfl, iteNb (eqv_same _) ?_⟩⟩
  refine ⟨_, rfl, _, rfl, l, w, rfl, hl, hw, fun H4 hS4 => ⟨_, rfl, _, rfl, (by show 0 ≤ sizeLine; decide), fun p5 np5 => ?_⟩⟩
  have hp1'' : (upd H4 p5 (.lst [])) p1 = some (.lst (iv (due l w))) := by
    rw [upd_ne (ne_of_none (hS4 _ _ (hS3 _ _ hp1')) np5)]
    exact hS4 _ _ (hS3 _ _ hp1')
  have hp2'' : (upd H4 p5 (.lst [])) p2 = some (.lst (iv (due l w))) := by
    rw [upd_ne (ne_of_none (hS4 _ _ (hS3 _ _ hp2)) np5)]
    exact hS4 _ _ (hS3 _ _ hp2)
  refine ⟨_, dz [], hD hp1'', dp_iz upd_same, shaped_iz _, shaped_iz _, _, rfl, rfl, _, rfl, ?_⟩
  have ee : V.str (if decide (0 < (due l w).length) = true then "True" else "False") = V.str (if (!PyData.eqv (dz ((due l w).map fun n : Nat => (n : Int))) (dz [])) = true then "True" else "False") := by
    rw [eqv_empty]
    cases due l w with
    | nil => rfl
    | cons a r => rfl
  refine iteNS ee ?_
  have hS5 : Same H (upd H4 p5 (.lst [])) := (((hS1.trans hS2).trans hS3).trans hS4).trans (same_new np5 _)
  have np1_0 : H p1 = none := np1
  have np2_0 : H p2 = none := hS1.free np2
  -- told.append(None)
  refine ⟨_, rfl, .inl ⟨rfl, _, SqL.of hp2''⟩, _, _, _, rfl, rfl, hp2'', ?_, ?_⟩
  · rw [List.length_map]
    exact small1000 (by omega)
  have hp1b : (upd (upd H4 p5 (.lst [])) p2 (.lst (iv (due l w) ++ [V.non]))) p1 = some (.lst (iv (due l w))) := by
    rw [upd_ne n12]
    exact hp1''
  have hS6 := same_upd (o := .lst (iv (due l w) ++ [V.non])) hS5 np2_0
  refine ⟨_, rfl, _, rfl, l, w, rfl, hl, hw, fun p6 H7 hS7 np6 hp6 => ⟨_, rfl, _, _, hD hp6, hD (hS7 _ _ hp1b), shaped_iz _, shaped_iz _, _, rfl, iteNb (eqv_same _) ?_⟩⟩
  refine ⟨_, rfl, w, rfl, hw, fun L1 p7 H8 hB1 hS8 np7 hp7 => ⟨_, rfl, w, rfl, hw, fun L2 p8 H9 hB2 hS9 np8 hp8 => ?_⟩⟩
  rw [bords_unique hB2 hB1] at hp8
  refine ⟨dz (L1.map fun n : Nat => (n : Int)), dz (L1.map fun n : Nat => (n : Int)), dp_iz (by rw [hS9 _ _ hp7, iv_iz]), dp_iz (by rw [hp8, iv_iz]), shaped_iz _, shaped_iz _, _, rfl, iteNb (eqv_same _) ?_⟩
  -- period
  refine ⟨_, rfl, l, rfl, hl, fun bd H10 lb hS10 => ?_⟩
  have hp1c : H10 p1 = some (.lst (iv (due l w))) := hS10 _ _ (hS9 _ _ (hS8 _ _ (hS7 _ _ hp1b)))
  have hS11 : Same H H10 := (((hS6.trans hS7).trans hS8).trans hS9).trans hS10
  refine ⟨_, rfl, _, rfl, ⟨_, SqL.of hp1c⟩, fun D nD => ?_⟩
  refine lc_list (K := K) (a := p1) (xs := iv (due l w)) (fun i H' => Same H10 H' ∧ H' D = some (.lst (iz (((due l w).take i).map fun n => (((n + per l bd) % l.length : Nat) : Int))))) ⟨same_new nD _, upd_same⟩ (fun i H' _ ⟨hS', _⟩ => SqL.of (hS' _ _ hp1c)) ?_ ?_
  · rintro i x H11 hx ⟨hS12, hD12⟩
    obtain ⟨n, hn, rfl⟩ := iv_get hx
    have hil : i < (due l w).length := (List.getElem?_eq_some_iff.mp hn).1
    have em : ((n : Int) + ((per l bd : Nat) : Int)) % (((⟨l.toArray⟩ : Str).length : Nat) : Int) = (((n + per l bd) % l.length : Nat) : Int) := by
      rw [T_len]
      rfl
    refine ⟨rfl, _, rfl, _, rfl, _, _, rfl, rfl, _, rfl, _, rfl, T_line (by omega), _, _, rfl, rfl, (by show (0 : Int) < _; rw [T_len]; omega), _, hD12, ?_, same_upd hS12 nD, ?_⟩
    · rw [List.length_map, List.length_map, List.length_take]
      exact small1000 (by omega)
    · rw [List.take_add_one, hn]
      refine upd_same.trans (congrArg (fun z => some (HO.lst z)) ?_)
      rw [Option.toList_some, List.map_append]
      exact (congrArg (fun z => iz (((due l w).take i).map fun n => (((n + per l bd) % l.length : Nat) : Int)) ++ [V.int z]) em).trans (iz_snoc _ _).symm
  rintro H11 ⟨hS12, hD12⟩
  rw [show (iv (due l w)).length = (due l w).length from List.length_map _, List.take_length] at hD12
  refine ⟨_, _, rfl, SqL.of hD12, fun ns' p9 hpm hpw np9 => ?_⟩
  have ens : ns' = (due l w).map fun n : Nat => (n : Int) := sorted_is hpm hpw (nodup_shift due_lt (due_nodup l w)) (due_rising l w) (mem_per lb)
  subst ens
  have hp1d : H11 p1 = some (.lst (iv (due l w))) := hS12 _ _ hp1c
  have hp1e := (same_new np9 (.lst (iz ((due l w).map fun n : Nat => (n : Int))))) _ _ hp1d
  refine ⟨_, rfl, _, _, dp_iz upd_same, hD hp1e, shaped_iz _, shaped_iz _, _, rfl, iteNb (eqv_same _) ?_⟩
  have hS13 : Same H (upd H11 p9 (.lst (iz ((due l w).map fun n : Nat => (n : Int))))) := (hS11.trans hS12).trans (same_new np9 _)
  -- late
  refine ⟨_, rfl, _, rfl, ⟨_, SqL.of hp1e⟩, fun D2 nD2 => ?_⟩
  refine lc_list (K := K) (a := p1) (xs := iv (due l w)) (fun i H' => Same (upd H11 p9 (.lst (iz ((due l w).map fun n : Nat => (n : Int))))) H' ∧ H' D2 = some (.lst (iz (((due l w).take i).map fun n => (((n + (l.length - b % l.length)) % l.length : Nat) : Int))))) ⟨same_new nD2 _, upd_same⟩ (fun i H' _ ⟨hS', _⟩ => SqL.of (hS' _ _ hp1e)) ?_ ?_
  · rintro i x H14 hx ⟨hS14, hD14⟩
    obtain ⟨n, hn, rfl⟩ := iv_get hx
    have hil : i < (due l w).length := (List.getElem?_eq_some_iff.mp hn).1
    have em : ((n : Int) - (b : Int)) % (((⟨l.toArray⟩ : Str).length : Nat) : Int) = (((n + (l.length - b % l.length)) % l.length : Nat) : Int) := by
      rw [T_len]
      exact late_cast h0
    refine ⟨rfl, _, rfl, _, rfl, _, _, rfl, rfl, _, rfl, _, rfl, T_line (by omega), _, _, rfl, rfl, (by show (0 : Int) < _; rw [T_len]; omega), _, hD14, ?_, same_upd hS14 nD2, ?_⟩
    · rw [List.length_map, List.length_map, List.length_take]
      exact small1000 (by omega)
    · rw [List.take_add_one, hn]
      refine upd_same.trans (congrArg (fun z => some (HO.lst z)) ?_)
      rw [Option.toList_some, List.map_append]
      exact (congrArg (fun z => iz (((due l w).take i).map fun n => (((n + (l.length - b % l.length)) % l.length : Nat) : Int)) ++ [V.int z]) em).trans (iz_snoc _ _).symm
  rintro H14 ⟨hS14, hD14⟩
  rw [show (iv (due l w)).length = (due l w).length from List.length_map _, List.take_length] at hD14
  refine ⟨_, _, rfl, SqL.of hD14, fun ns' p10 hpm hpw np10 => ?_⟩
  have ens : ns' = (due (rd l b l.length) w).map fun n : Nat => (n : Int) := sorted_is hpm hpw (nodup_shift due_lt (due_nodup l w)) (due_rising _ w) (mem_late h0)
  subst ens
  refine ⟨_, rfl, _, rfl, l, b, rfl, hl, _, rfl, rd l b l.length, w, rfl, wd_rd hl h0 hlen, hw, fun p11 H15 hS15 np11 hp11 => ?_⟩
  refine ⟨_, rfl, dz ((due (rd l b l.length) w).map fun n : Nat => (n : Int)), _, dp_iz (by rw [hp11, iv_iz]), dp_iz (hS15 _ _ upd_same), shaped_iz _, shaped_iz _, bl_is (eqv_same _) ?_⟩
  exact q H15 (((hS13.trans hS14).trans (same_new np10 _)).trans hS15)
def Gd (x : V) : Prop := ∃ w, x = T w ∧ Wd w
theorem one_of {v : V} (h : v ∈ [V.str (Str.ofString "a"), V.str (Str.ofString "b"), V.str (Str.ofString "z")]) : ∃ c : Nat, v = T [c] ∧ 97 ≤ c ∧ c ≤ 122 := by
  rw [of_a, of_b, of_z] at h
  rcases List.mem_cons.mp h with h | h
  · exact ⟨97, h, by decide, by decide⟩
  rcases List.mem_cons.mp h with h | h
  · exact ⟨98, h, by decide, by decide⟩
  rcases List.mem_cons.mp h with h | h
  · exact ⟨122, h, by decide, by decide⟩
  · cases h
theorem wd_bent {W : List Nat} {t c : Nat} (h : Wd W) (ht : t < W.length) (h1 : 97 ≤ c) (h2 : c ≤ 122) : Wd ((W.take t ++ [c]) ++ W.drop (t + 1)) := by
  have hl : ((W.take t ++ [c]) ++ W.drop (t + 1)).length = W.length := by
    rw [List.length_append, List.length_append, List.length_take, List.length_drop]
    show min t W.length + 1 + (W.length - (t + 1)) = W.length
    omega
  refine ⟨by rw [hl]; exact h.1, by rw [hl]; exact h.2.1, fun x hx => ?_⟩
  rcases List.mem_append.mp hx with hx | hx
  · rcases List.mem_append.mp hx with hx | hx
    · exact h.2.2 x (List.mem_of_mem_take hx)
    · rw [List.mem_singleton.mp hx]
      exact ⟨h1, h2⟩
  · exact h.2.2 x (List.mem_of_mem_drop hx)
def splaw (K : PySem.W.Frag) : Sp := fun vs H Q _ => ∃ a, ∃ ns : List Int, vs = [.ref a] ∧ SqL K H a (ns.map V.int) ∧ ns.length ≤ 63 ∧ ∀ H', Q (.bl true) H'
theorem oklaw (D : Def K mg "law" slaw ["_law_script"]) (B : Bs mg) (Glb : Glo mg)
    (h_law_pot : Good P w K mg base "_law_pot" s_law_pot ["_law_script", "_law_k"] 1 (sp_law_pot K))
    (h_law_ring : Good P w K mg base "_law_ring" s_law_ring ["_law_pot_here", "_law_most"] 3 (sp_law_ring K))
    (h_law_draw : Good P w K mg base "_law_draw" s_law_draw ["_law_pot_here", "_law_size"] 1 (sp_law_draw K))
    (h_law_round : Good P w K mg base "_law_round" s_law_round ["_law_ring_here", "_law_place", "_law_many"] 1 (sp_law_round K))
    (h_law_pick : Good P w K mg base "_law_pick" s_law_pick ["_law_pot_here", "_law_some"] 2 (sp_law_pick K))
    (h_law_word_right : Good P w K mg base "_law_word_right" s_law_word_right ["_law_ring_here", "_law_word", "_law_by"] 7 (sp_law_word_right K)) :
    Good P w K mg base "law" slaw ["_law_script"] 8 (splaw K) := by
  refine D.good fun f fd F => ?_
  obtain ⟨f_law_pot, d_law_pot, O_law_pot, m_law_pot, k_law_pot, b_law_pot, F_law_pot⟩ := h_law_pot
  obtain ⟨f_law_ring, d_law_ring, O_law_ring, m_law_ring, k_law_ring, b_law_ring, F_law_ring⟩ := h_law_ring
  obtain ⟨f_law_draw, d_law_draw, O_law_draw, m_law_draw, k_law_draw, b_law_draw, F_law_draw⟩ := h_law_draw
  obtain ⟨f_law_round, d_law_round, O_law_round, m_law_round, k_law_round, b_law_round, F_law_round⟩ := h_law_round
  obtain ⟨f_law_pick, d_law_pick, O_law_pick, m_law_pick, k_law_pick, b_law_pick, F_law_pick⟩ := h_law_pick
  obtain ⟨f_law_word_right, d_law_word_right, O_law_word_right, m_law_word_right, k_law_word_right, b_law_word_right, F_law_word_right⟩ := h_law_word_right
  refine F.ok sclaw (fun vs H Q E h => ?_) (fun cdv A outer s H vs Q E hr h => ?_)
  · obtain ⟨sa, ns, rfl, hs, h63, q⟩ := h
    first | rfl | (rcases h with ⟨_, _, rfl, _⟩ | ⟨_, rfl, _⟩ <;> rfl)
  obtain ⟨sa, ns, rfl, hs, h63, q⟩ := h
  refine ⟨_, (pss_cons (ps_set (i := 1) sclaw.nd rfl (by first | exact Or.inl rfl | exact Or.inr rfl) (pe_call O_law_pot (hr.mono (by decide)) rfl m_law_pot k_law_pot b_law_pot .nil pass0 (pa_cons (pv 0) (pa_cons pe_int pa_nil))))
  (pss_cons (ps_set (i := 2) sclaw.nd rfl (by first | exact Or.inl rfl | exact Or.inr rfl) (pe_call O_law_ring (hr.mono (by decide)) rfl m_law_ring k_law_ring b_law_ring .nil pass0 (pa_cons (pv 1) (pa_cons pe_int pa_nil))))
  (pss_cons (ps_set (i := 3) sclaw.nd rfl (by first | exact Or.inl rfl | exact Or.inr rfl) (pe_call O_law_draw (hr.mono (by decide)) rfl m_law_draw k_law_draw b_law_draw .nil pass0 (pa_cons (pv 1) (pa_cons pe_int pa_nil))))
  (pss_cons (ps_set (i := 4) sclaw.nd rfl (by first | exact Or.inl rfl | exact Or.inr rfl) (pe_lst (pa_cons (pv 2) (pa_cons (pe_op op_add_str (pv 2) (pe_slice sl_str (pv 2) po_none (po_some pe_int))) (pa_cons pe_str (pa_cons (pe_call O_law_ring (hr.mono (by decide)) rfl m_law_ring k_law_ring b_law_ring .nil pass0 (pa_cons (pv 1) (pa_cons pe_int pa_nil))) (pa_cons (pe_call O_law_round (hr.mono (by decide)) rfl m_law_round k_law_round b_law_round .nil pass0 (pa_cons (pv 2) (pa_cons (pv 3) (pa_cons (pe_op op_add pe_int (pe_call O_law_draw (hr.mono (by decide)) rfl m_law_draw k_law_draw b_law_draw .nil pass0 (pa_cons (pv 1) (pa_cons pe_int pa_nil)))) pa_nil)))) pa_nil)))))))
  (pss_cons (ps_for PassesOwn.never rfl (pi_range1 (by rfl) B.range (pa_cons pe_int pa_nil)) (pg_name (i := 5) sclaw.nd rfl (by first | exact Or.inl rfl | exact Or.inr rfl))
    (pss_cons (ps_set (i := 6) sclaw.nd rfl (by first | exact Or.inl rfl | exact Or.inr rfl) (pe_call O_law_round (hr.mono (by decide)) rfl m_law_round k_law_round b_law_round .nil pass0 (pa_cons (pv 2) (pa_cons (pe_call O_law_draw (hr.mono (by decide)) rfl m_law_draw k_law_draw b_law_draw .nil pass0 (pa_cons (pv 1) (pa_cons pe_int pa_nil))) (pa_cons (pe_op op_add pe_int (pe_call O_law_draw (hr.mono (by decide)) rfl m_law_draw k_law_draw b_law_draw .nil pass0 (pa_cons (pv 1) (pa_cons pe_int pa_nil)))) pa_nil)))))
  (pss_cons (ps_set (i := 7) sclaw.nd rfl (by first | exact Or.inl rfl | exact Or.inr rfl) (pe_op op_mod (pe_call O_law_draw (hr.mono (by decide)) rfl m_law_draw k_law_draw b_law_draw .nil pass0 (pa_cons (pv 1) (pa_cons pe_int pa_nil))) (pe_callB call_len_str (by rfl) B.len (by decide +kernel) (pa_cons (pv 6) pa_nil))))
  (pss_cons (ps_if (pt_cmpR op_eq (pe_call O_law_draw (hr.mono (by decide)) rfl m_law_draw k_law_draw b_law_draw .nil pass0 (pa_cons (pv 1) (pa_cons pe_int pa_nil))) pe_int (nomark _))
    (pss_one (ps_set (i := 6) sclaw.nd rfl (by first | exact Or.inl rfl | exact Or.inr rfl) (pe_op op_add_str (pe_op op_add_str (pe_slice sl_str (pv 6) po_none (po_some (pv 7))) (pe_call O_law_pick (hr.mono (by decide)) rfl m_law_pick k_law_pick b_law_pick .nil pass0 (pa_cons (pv 1) (pa_cons (pe_lst (pa_cons pe_str (pa_cons pe_str (pa_cons pe_str pa_nil)))) pa_nil)))) (pe_slice sl_str (pv 6) (po_some (pe_op op_add (pv 7) pe_int)) po_none)))) pss_nil)
  (pss_one (ps_expr (pe_bm PySem.F.plainAttrs_list PySem.F.slot_list_append PySem.F.type_list_append mt_append (pv 4) (pa_cons (pv 6) pa_nil))))))))
  (pss_one (ps_ret (pe_cmpR (op_eqD hr.units) (pe_lc (own := [("_law_word", 6)]) (g := gName 6) (by rfl) sclaw.nd (pi_list (pv 4)) (blkOk_by (own := [("_law_word", 6)]) (N := ["_law_script", "_law_pot_here", "_law_ring_here", "_law_by", "_law_words", "_law_turn", "_law_word", "_law_at"]) (sc := defScope slaw) (by decide +kernel)) (fun _ _ _ _ _ => (pg_name (i := 6) sclaw.nd rfl (by first | exact Or.inl rfl | exact Or.inr rfl))) (fun _ _ _ _ _ => (pts_one (pt_not (pt_val (pe_call O_law_word_right hr rfl m_law_word_right k_law_word_right b_law_word_right .nil pass0 (pa_cons (pv 2) (pa_cons (pv 6) (pa_cons (pv 3) pa_nil)))))))) (fun _ _ _ _ _ => (pv 6))) (pe_lst pa_nil) (nomark _))))))))), ?_⟩
  refine ⟨_, rfl, sa, ns, rfl, hs, fun a H1 hp1 hS1 na => ?_⟩
  refine ⟨_, rfl, a, 10, rfl, hp1, by decide, by decide, fun l H2 hl hl20 hk2 hp2 => ?_⟩
  have h0 := hl.1
  refine ⟨_, rfl, a, 20, rfl, hp2, by decide, by decide, fun b H3 hb hk3 hp3 => ?_⟩
  have ht1 : (l.take 1).length ≤ 1 := by rw [List.length_take]; omega
  refine ⟨_, rfl, _, rfl, _, rfl, _, rfl, _, rfl, T_line (by omega), _, _, rfl, rfl, ?_, ?_⟩
  · rw [show cutS ⟨l.toArray⟩ none (some (1 : Int)) = ⟨(l.take 1).toArray⟩ from cut_to (p := 1), T_len, T_len]
    exact Nat.le_of_lt (small1000 (by omega))
  rw [show cutS ⟨l.toArray⟩ none (some (1 : Int)) = ⟨(l.take 1).toArray⟩ from cut_to (p := 1), T_app]
  refine ⟨_, rfl, a, 5, rfl, hp3, by decide, by decide, fun l2 H4 hl2 hl2' hk4 hp4 => ?_⟩
  refine ⟨_, rfl, _, rfl, _, rfl, a, 20, rfl, hp4, by decide, by decide, fun d H5 hd hk5 hp5 => ⟨_, _, rfl, rfl, l, b, 1 + d, rfl, hl, by omega, (by show 5 ≤ sizeLine; decide), fun pw npw => ?_⟩⟩
  have hpa : ∀ {H : Hp} {p : Addr}, PotAt H a → H p = none → p ≠ a := fun h np => by
    obtain ⟨x, y, e, _⟩ := h
    exact (ne_of_none e np).symm
  have npa := hpa hp5 npw
  refine ⟨_, rfl, (by decide), (by decide), for_range (lo := 0) (n := 4) (fun i σ H' => ∃ (xs : List V) (v5 v6 v7 : Option V), σ = [some (.ref sa), some (.ref a), some (T l), some (.int (b : Int)), some (.ref pw), v5, v6, v7] ∧ H' pw = some (.lst xs) ∧ xs.length = 5 + i ∧ (∀ x ∈ xs, Gd x) ∧ PotAt H' a)
    ⟨_, none, none, none, rfl, upd_same, rfl, ?_, hp5.new npw⟩ ?_ ?_⟩
  · intro x hx
    rcases List.mem_cons.mp hx with hx | hx
    · exact ⟨l, hx, hl⟩
    rcases List.mem_cons.mp hx with hx | hx
    · refine ⟨l ++ l.take 1, hx, by rw [List.length_append]; omega, by rw [List.length_append]; omega, fun c hc => ?_⟩
      rcases List.mem_append.mp hc with hc | hc
      · exact hl.2.2 c hc
      · exact hl.2.2 c (List.mem_of_mem_take hc)
    rcases List.mem_cons.mp hx with hx | hx
    · rw [of_a] at hx
      exact ⟨[97], hx, by decide, by decide, by decide⟩
    rcases List.mem_cons.mp hx with hx | hx
    · exact ⟨l2, hx, hl2⟩
    rcases List.mem_cons.mp hx with hx | hx
    · exact ⟨_, hx, wd_rd hl (by omega) (by omega)⟩
    · cases hx
  · rintro i σ H6 hi ⟨xs, v5, v6, v7, rfl, hxs, hxl, hG, hp6⟩
    refine ⟨_, rfl, _, rfl, a, 20, rfl, hp6, by decide, by decide, fun d1 H7 hd1 hk7 hp7 => ⟨_, rfl, a, 12, rfl, hp7, by decide, by decide, fun d2 H8 hd2 hk8 hp8 => ⟨_, _, rfl, rfl, l, d1, 1 + d2, rfl, hl, by omega, ?_⟩⟩⟩
    have hW : Wd (rd l d1 (1 + d2)) := wd_rd hl (by omega) (by omega)
    generalize rd l d1 (1 + d2) = W at hW
    have hWl := hW.2.1
    have hW0 := hW.1
    refine ⟨_, rfl, a, 24, rfl, hp8, by decide, by decide, fun d3 H9 hd3 hk9 hp9 => ⟨_, rfl, _, rfl, T_line (by omega), _, _, rfl, rfl, (by show (0 : Int) < _; rw [T_len]; omega), ?_⟩⟩
    have eat : (d3 : Int) % (((⟨W.toArray⟩ : Str).length : Nat) : Int) = ((d3 % W.length : Nat) : Int) := by
      rw [T_len]
      rfl
    dsimp only
    rw [eat]
    have htl : d3 % W.length < W.length := Nat.mod_lt _ hW0
    generalize d3 % W.length = t at htl
    have hx9 : H9 pw = some (.lst xs) := hk9 _ _ (hk8 _ _ (hk7 _ _ hxs npa) npa) npa
    refine ⟨_, rfl, a, 2, rfl, hp9, by decide, by decide, fun d4 H10 hd4 hk10 hp10 => ⟨rfl, _, rfl, ?_⟩⟩
    have hx10 := hk10 _ _ hx9 npa
    refine ite2 (fun c1 => ?_) (fun c1 => ?_)
    · refine ⟨_, rfl, _, rfl, _, rfl, _, rfl, T_line (by omega), ?_⟩
      refine ⟨_, rfl, (by show 3 ≤ sizeLine; decide), fun p np => ⟨a, .inl ⟨p, _, rfl, upd_same, hpa hp10 np, by simp, by simp, hp10.new np, fun v H11 hv hk11 hp11 => ?_⟩⟩⟩
      obtain ⟨c, rfl, hc1, hc2⟩ := one_of hv
      have hx11 : H11 pw = some (.lst xs) := hk11 _ _ (same_new np _ _ _ hx10) npa
      have e1 : cutS ⟨W.toArray⟩ none (some ((t : Nat) : Int)) = ⟨(W.take t).toArray⟩ := cut_to
      have e2 : cutS ⟨W.toArray⟩ (some (((t : Nat) : Int) + 1)) none = ⟨(W.drop (t + 1)).toArray⟩ := cut_from (p := t + 1)
      have hb := wd_bent hW htl hc1 hc2
      have hbl := hb.2.1
      have htk : (W.take t).length ≤ 100 := by rw [List.length_take]; omega
      refine ⟨_, _, rfl, rfl, ?_, _, rfl, _, rfl, _, _, rfl, rfl, _, rfl, _, rfl, T_line (by omega), _, _, rfl, rfl, ?_, ?_⟩
      · rw [e1, T_len]
        show (W.take t).length + 1 ≤ sizeLine
        exact Nat.le_of_lt (small1000 (by omega))
      · rw [e1, e2, T_app, T_len, T_len]
        rw [List.length_append] at hbl
        exact Nat.le_of_lt (small1000 (by omega))
      · rw [e1, e2, T_app, T_app]
        refine ⟨_, rfl, .inl ⟨rfl, _, SqL.of hx11⟩, _, rfl, _, _, _, rfl, rfl, hx11, small1000 (by omega), ?_⟩
        refine ⟨xs ++ [T ((W.take t ++ [c]) ++ W.drop (t + 1))], _, _, _, rfl, upd_same, by rw [List.length_append, hxl]; rfl, fun x hx => ?_, ?_⟩
        · rcases List.mem_append.mp hx with hx | hx
          · exact hG x hx
          · exact ⟨_, List.mem_singleton.mp hx, hb⟩
        · obtain ⟨x, y, e, hxy⟩ := hp11
          exact ⟨x, y, by rw [upd_ne npa.symm]; exact e, hxy⟩
    · refine ⟨_, rfl, .inl ⟨rfl, _, SqL.of hx10⟩, _, rfl, _, _, _, rfl, rfl, hx10, small1000 (by omega), ?_⟩
      refine ⟨xs ++ [T W], _, _, _, rfl, upd_same, by rw [List.length_append, hxl]; rfl, fun x hx => ?_, ?_⟩
      · rcases List.mem_append.mp hx with hx | hx
        · exact hG x hx
        · exact ⟨_, List.mem_singleton.mp hx, hW⟩
      · obtain ⟨x, y, e, hxy⟩ := hp10
        exact ⟨x, y, by rw [upd_ne npa.symm]; exact e, hxy⟩
  · rintro σ H6 ⟨xs, v5, v6, v7, rfl, hxs, hxl, hG, hp6⟩
    refine ⟨_, rfl, _, rfl, ⟨_, SqL.of hxs⟩, fun D nD => ?_⟩
    refine lc_list (K := K) (a := pw) (xs := xs) (fun i H' => Same H6 H' ∧ H' D = some (.lst [])) ⟨same_new nD _, upd_same⟩ (fun i H' _ ⟨hS', _⟩ => SqL.of (hS' _ _ hxs)) ?_ ?_
    · rintro i x H7 hx ⟨hS7, hD7⟩
      obtain ⟨w, rfl, hw⟩ := hG x (List.mem_of_getElem? hx)
      refine ⟨rfl, _, rfl, _, rfl, _, rfl, l, w, b, rfl, hl, hw, fun H8 hS8 => ⟨_, rfl, ?_⟩⟩
      refine iteF ?_
      exact ⟨hS7.trans hS8, hS8 _ _ hD7⟩
    · rintro H7 ⟨hS7, hD7⟩
      refine ⟨(by show 0 ≤ sizeLine; decide), fun p np => ⟨dz [], dz [], dp_iz (L := []) ?_, dp_iz (L := []) upd_same, shaped_iz _, shaped_iz _, bl_is (eqv_same []) (q _)⟩⟩
      rw [upd_ne (ne_of_none hD7 np)]
      exact hD7
end
end My
namespace My
open PySem L2 PyProof.Rows
/-! ### the end -/
theorem fd_is {K : PySem.W.Frag} {x : Str} {st : Stmt} {f : Addr} {fd fe : FuncData} {oc : Value} {od : Option Addr} {sl : Array (Option Value)} (F : Fun K x x st f fd) (l : K.lookup f = some ⟨oc, od, .func fe, sl⟩) : fd = fe := by
  obtain ⟨oc2, od2, kV, doc, pm, an, cdv, ct, osl, e, lk, c⟩ := F.ex
  rw [lk] at l
  have := Option.some.inj l
  injection this with _ _ h3 _
  injection h3
set_option maxHeartbeats 4000000 in
theorem all_mk {l : PySem.W.OpenLaw} {w : World} {K : PySem.W.Frag} {h : Heap} {mg : Str → Option Value} {fa : Addr} (X : K.In h) (G : h.Ns mainGlobals mg) (hfa : mg "law" = some (.ref fa))
    {f0 : Addr} {od0 an0 : Option Addr} {sl0 : Array (Option Value)} {oc0 kV0 dc0 pm0 cd0 ct0 : Value} {f1 : Addr} {od1 an1 : Option Addr} {sl1 : Array (Option Value)} {oc1 kV1 dc1 pm1 cd1 ct1 : Value} {f2 : Addr} {od2 an2 : Option Addr} {sl2 : Array (Option Value)} {oc2 kV2 dc2 pm2 cd2 ct2 : Value} {f3 : Addr} {od3 an3 : Option Addr} {sl3 : Array (Option Value)} {oc3 kV3 dc3 pm3 cd3 ct3 : Value} {f4 : Addr} {od4 an4 : Option Addr} {sl4 : Array (Option Value)} {oc4 kV4 dc4 pm4 cd4 ct4 : Value} {f5 : Addr} {od5 an5 : Option Addr} {sl5 : Array (Option Value)} {oc5 kV5 dc5 pm5 cd5 ct5 : Value} {f6 : Addr} {od6 an6 : Option Addr} {sl6 : Array (Option Value)} {oc6 kV6 dc6 pm6 cd6 ct6 : Value} {f7 : Addr} {od7 an7 : Option Addr} {sl7 : Array (Option Value)} {oc7 kV7 dc7 pm7 cd7 ct7 : Value} {f8 : Addr} {od8 an8 : Option Addr} {sl8 : Array (Option Value)} {oc8 kV8 dc8 pm8 cd8 ct8 : Value} {f9 : Addr} {od9 an9 : Option Addr} {sl9 : Array (Option Value)} {oc9 kV9 dc9 pm9 cd9 ct9 : Value} {f10 : Addr} {od10 an10 : Option Addr} {sl10 : Array (Option Value)} {oc10 kV10 dc10 pm10 cd10 ct10 : Value} {f11 : Addr} {od11 an11 : Option Addr} {sl11 : Array (Option Value)} {oc11 kV11 dc11 pm11 cd11 ct11 : Value} {f12 : Addr} {od12 an12 : Option Addr} {sl12 : Array (Option Value)} {oc12 kV12 dc12 pm12 cd12 ct12 : Value} {f13 : Addr} {od13 an13 : Option Addr} {sl13 : Array (Option Value)} {oc13 kV13 dc13 pm13 cd13 ct13 : Value} {f14 : Addr} {od14 an14 : Option Addr} {sl14 : Array (Option Value)} {oc14 kV14 dc14 pm14 cd14 ct14 : Value} {f15 : Addr} {od15 an15 : Option Addr} {sl15 : Array (Option Value)} {oc15 kV15 dc15 pm15 cd15 ct15 : Value} {f16 : Addr} {od16 an16 : Option Addr} {sl16 : Array (Option Value)} {oc16 kV16 dc16 pm16 cd16 ct16 : Value} {f17 : Addr} {od17 an17 : Option Addr} {sl17 : Array (Option Value)} {oc17 kV17 dc17 pm17 cd17 ct17 : Value} {f18 : Addr} {od18 an18 : Option Addr} {sl18 : Array (Option Value)} {oc18 kV18 dc18 pm18 cd18 ct18 : Value} {f19 : Addr} {od19 an19 : Option Addr} {sl19 : Array (Option Value)} {oc19 kV19 dc19 pm19 cd19 ct19 : Value} {f20 : Addr} {od20 an20 : Option Addr} {sl20 : Array (Option Value)} {oc20 kV20 dc20 pm20 cd20 ct20 : Value} {f21 : Addr} {od21 an21 : Option Addr} {sl21 : Array (Option Value)} {oc21 kV21 dc21 pm21 cd21 ct21 : Value} {f22 : Addr} {od22 an22 : Option Addr} {sl22 : Array (Option Value)} {oc22 kV22 dc22 pm22 cd22 ct22 : Value} {f23 : Addr} {od23 an23 : Option Addr} {sl23 : Array (Option Value)} {oc23 kV23 dc23 pm23 cd23 ct23 : Value} {f24 : Addr} {od24 an24 : Option Addr} {sl24 : Array (Option Value)} {oc24 kV24 dc24 pm24 cd24 ct24 : Value} {f25 : Addr} {od25 an25 : Option Addr} {sl25 : Array (Option Value)} {oc25 kV25 dc25 pm25 cd25 ct25 : Value} {t0 : Tok}
    (a0 : PySem.W.nsIn K mainGlobals "is_integer" = some (some (.ref f0))) (l0 : K.lookup f0 = some ⟨oc0, od0, .func (PySem.W.fnOf "is_integer" "is_integer" (defArgs sis_integer) (defBody sis_integer) (defScope sis_integer) .none kV0 dc0 pm0 an0 cd0 ct0), sl0⟩) (c0 : PySem.W.codeIn K cd0 "is_integer" = true) (k0 : PySem.W.keepIn K (.ref f0) = true)
    (a1 : PySem.W.nsIn K mainGlobals "is_count" = some (some (.ref f1))) (l1 : K.lookup f1 = some ⟨oc1, od1, .func (PySem.W.fnOf "is_count" "is_count" (defArgs sis_count) (defBody sis_count) (defScope sis_count) .none kV1 dc1 pm1 an1 cd1 ct1), sl1⟩) (c1 : PySem.W.codeIn K cd1 "is_count" = true) (k1 : PySem.W.keepIn K (.ref f1) = true)
    (a2 : PySem.W.nsIn K mainGlobals "is_letter" = some (some (.ref f2))) (l2 : K.lookup f2 = some ⟨oc2, od2, .func (PySem.W.fnOf "is_letter" "is_letter" (defArgs sis_letter) (defBody sis_letter) (defScope sis_letter) .none kV2 dc2 pm2 an2 cd2 ct2), sl2⟩) (c2 : PySem.W.codeIn K cd2 "is_letter" = true) (k2 : PySem.W.keepIn K (.ref f2) = true)
    (a3 : PySem.W.nsIn K mainGlobals "longest_borders" = some (some (.ref f3))) (l3 : K.lookup f3 = some ⟨oc3, od3, .func (PySem.W.fnOf "longest_borders" "longest_borders" (defArgs slongest_borders) (defBody slongest_borders) (defScope slongest_borders) .none kV3 dc3 pm3 an3 cd3 ct3), sl3⟩) (c3 : PySem.W.codeIn K cd3 "longest_borders" = true) (k3 : PySem.W.keepIn K (.ref f3) = true)
    (a4 : PySem.W.nsIn K mainGlobals "starts_in" = some (some (.ref f4))) (l4 : K.lookup f4 = some ⟨oc4, od4, .func (PySem.W.fnOf "starts_in" "starts_in" (defArgs sstarts_in) (defBody sstarts_in) (defScope sstarts_in) .none kV4 dc4 pm4 an4 cd4 ct4), sl4⟩) (c4 : PySem.W.codeIn K cd4 "starts_in" = true) (k4 : PySem.W.keepIn K (.ref f4) = true)
    (a5 : PySem.W.nsIn K mainGlobals "is_text" = some (some (.ref f5))) (l5 : K.lookup f5 = some ⟨oc5, od5, .func (PySem.W.fnOf "is_text" "is_text" (defArgs sis_text) (defBody sis_text) (defScope sis_text) .none kV5 dc5 pm5 an5 cd5 ct5), sl5⟩) (c5 : PySem.W.codeIn K cd5 "is_text" = true) (k5 : PySem.W.keepIn K (.ref f5) = true)
    (a6 : PySem.W.nsIn K mainGlobals "is_ring" = some (some (.ref f6))) (l6 : K.lookup f6 = some ⟨oc6, od6, .func (PySem.W.fnOf "is_ring" "is_ring" (defArgs sis_ring) (defBody sis_ring) (defScope sis_ring) .none kV6 dc6 pm6 an6 cd6 ct6), sl6⟩) (c6 : PySem.W.codeIn K cd6 "is_ring" = true) (k6 : PySem.W.keepIn K (.ref f6) = true)
    (a7 : PySem.W.nsIn K mainGlobals "need_ring" = some (some (.ref f7))) (l7 : K.lookup f7 = some ⟨oc7, od7, .func (PySem.W.fnOf "need_ring" "need_ring" (defArgs sneed_ring) (defBody sneed_ring) (defScope sneed_ring) .none kV7 dc7 pm7 an7 cd7 ct7), sl7⟩) (c7 : PySem.W.codeIn K cd7 "need_ring" = true) (k7 : PySem.W.keepIn K (.ref f7) = true)
    (a8 : PySem.W.nsIn K mainGlobals "need_word" = some (some (.ref f8))) (l8 : K.lookup f8 = some ⟨oc8, od8, .func (PySem.W.fnOf "need_word" "need_word" (defArgs sneed_word) (defBody sneed_word) (defScope sneed_word) .none kV8 dc8 pm8 an8 cd8 ct8), sl8⟩) (c8 : PySem.W.codeIn K cd8 "need_word" = true) (k8 : PySem.W.keepIn K (.ref f8) = true)
    (a9 : PySem.W.nsIn K mainGlobals "turned" = some (some (.ref f9))) (l9 : K.lookup f9 = some ⟨oc9, od9, .func (PySem.W.fnOf "turned" "turned" (defArgs sturned) (defBody sturned) (defScope sturned) .none kV9 dc9 pm9 an9 cd9 ct9), sl9⟩) (c9 : PySem.W.codeIn K cd9 "turned" = true) (k9 : PySem.W.keepIn K (.ref f9) = true)
    (a10 : PySem.W.nsIn K mainGlobals "_turned_to" = some (some (.ref f10))) (l10 : K.lookup f10 = some ⟨oc10, od10, .func (PySem.W.fnOf "_turned_to" "_turned_to" (defArgs s_turned_to) (defBody s_turned_to) (defScope s_turned_to) .none kV10 dc10 pm10 an10 cd10 ct10), sl10⟩) (c10 : PySem.W.codeIn K cd10 "_turned_to" = true) (k10 : PySem.W.keepIn K (.ref f10) = true)
    (a11 : PySem.W.nsIn K mainGlobals "borders" = some (some (.ref f11))) (l11 : K.lookup f11 = some ⟨oc11, od11, .func (PySem.W.fnOf "borders" "borders" (defArgs sborders) (defBody sborders) (defScope sborders) .none kV11 dc11 pm11 an11 cd11 ct11), sl11⟩) (c11 : PySem.W.codeIn K cd11 "borders" = true) (k11 : PySem.W.keepIn K (.ref f11) = true)
    (a12 : PySem.W.nsIn K mainGlobals "read_on" = some (some (.ref f12))) (l12 : K.lookup f12 = some ⟨oc12, od12, .func (PySem.W.fnOf "read_on" "read_on" (defArgs sread_on) (defBody sread_on) (defScope sread_on) .none kV12 dc12 pm12 an12 cd12 ct12), sl12⟩) (c12 : PySem.W.codeIn K cd12 "read_on" = true) (k12 : PySem.W.keepIn K (.ref f12) = true)
    (a13 : PySem.W.nsIn K mainGlobals "plain_begins" = some (some (.ref f13))) (l13 : K.lookup f13 = some ⟨oc13, od13, .func (PySem.W.fnOf "plain_begins" "plain_begins" (defArgs splain_begins) (defBody splain_begins) (defScope splain_begins) .none kV13 dc13 pm13 an13 cd13 ct13), sl13⟩) (c13 : PySem.W.codeIn K cd13 "plain_begins" = true) (k13 : PySem.W.keepIn K (.ref f13) = true)
    (a14 : PySem.W.nsIn K mainGlobals "begins" = some (some (.ref f14))) (l14 : K.lookup f14 = some ⟨oc14, od14, .func (PySem.W.fnOf "begins" "begins" (defArgs sbegins) (defBody sbegins) (defScope sbegins) .none kV14 dc14 pm14 an14 cd14 ct14), sl14⟩) (c14 : PySem.W.codeIn K cd14 "begins" = true) (k14 : PySem.W.keepIn K (.ref f14) = true)
    (a15 : PySem.W.nsIn K mainGlobals "stands_in" = some (some (.ref f15))) (l15 : K.lookup f15 = some ⟨oc15, od15, .func (PySem.W.fnOf "stands_in" "stands_in" (defArgs sstands_in) (defBody sstands_in) (defScope sstands_in) .none kV15 dc15 pm15 an15 cd15 ct15), sl15⟩) (c15 : PySem.W.codeIn K cd15 "stands_in" = true) (k15 : PySem.W.keepIn K (.ref f15) = true)
    (a16 : PySem.W.nsIn K mainGlobals "period_of" = some (some (.ref f16))) (l16 : K.lookup f16 = some ⟨oc16, od16, .func (PySem.W.fnOf "period_of" "period_of" (defArgs speriod_of) (defBody speriod_of) (defScope speriod_of) .none kV16 dc16 pm16 an16 cd16 ct16), sl16⟩) (c16 : PySem.W.codeIn K cd16 "period_of" = true) (k16 : PySem.W.keepIn K (.ref f16) = true)
    (a17 : PySem.W.nsIn K mainGlobals "_law_pot" = some (some (.ref f17))) (l17 : K.lookup f17 = some ⟨oc17, od17, .func (PySem.W.fnOf "_law_pot" "_law_pot" (defArgs s_law_pot) (defBody s_law_pot) (defScope s_law_pot) .none kV17 dc17 pm17 an17 cd17 ct17), sl17⟩) (c17 : PySem.W.codeIn K cd17 "_law_pot" = true) (k17 : PySem.W.keepIn K (.ref f17) = true)
    (a18 : PySem.W.nsIn K mainGlobals "_law_draw" = some (some (.ref f18))) (l18 : K.lookup f18 = some ⟨oc18, od18, .func (PySem.W.fnOf "_law_draw" "_law_draw" (defArgs s_law_draw) (defBody s_law_draw) (defScope s_law_draw) .none kV18 dc18 pm18 an18 cd18 ct18), sl18⟩) (c18 : PySem.W.codeIn K cd18 "_law_draw" = true) (k18 : PySem.W.keepIn K (.ref f18) = true)
    (a19 : PySem.W.nsIn K mainGlobals "_law_pick" = some (some (.ref f19))) (l19 : K.lookup f19 = some ⟨oc19, od19, .func (PySem.W.fnOf "_law_pick" "_law_pick" (defArgs s_law_pick) (defBody s_law_pick) (defScope s_law_pick) .none kV19 dc19 pm19 an19 cd19 ct19), sl19⟩) (c19 : PySem.W.codeIn K cd19 "_law_pick" = true) (k19 : PySem.W.keepIn K (.ref f19) = true)
    (a20 : PySem.W.nsIn K mainGlobals "_law_ring" = some (some (.ref f20))) (l20 : K.lookup f20 = some ⟨oc20, od20, .func (PySem.W.fnOf "_law_ring" "_law_ring" (defArgs s_law_ring) (defBody s_law_ring) (defScope s_law_ring) .none kV20 dc20 pm20 an20 cd20 ct20), sl20⟩) (c20 : PySem.W.codeIn K cd20 "_law_ring" = true) (k20 : PySem.W.keepIn K (.ref f20) = true)
    (a21 : PySem.W.nsIn K mainGlobals "_law_round" = some (some (.ref f21))) (l21 : K.lookup f21 = some ⟨oc21, od21, .func (PySem.W.fnOf "_law_round" "_law_round" (defArgs s_law_round) (defBody s_law_round) (defScope s_law_round) .none kV21 dc21 pm21 an21 cd21 ct21), sl21⟩) (c21 : PySem.W.codeIn K cd21 "_law_round" = true) (k21 : PySem.W.keepIn K (.ref f21) = true)
    (a22 : PySem.W.nsIn K mainGlobals "_law_borders" = some (some (.ref f22))) (l22 : K.lookup f22 = some ⟨oc22, od22, .func (PySem.W.fnOf "_law_borders" "_law_borders" (defArgs s_law_borders) (defBody s_law_borders) (defScope s_law_borders) .none kV22 dc22 pm22 an22 cd22 ct22), sl22⟩) (c22 : PySem.W.codeIn K cd22 "_law_borders" = true) (k22 : PySem.W.keepIn K (.ref f22) = true)
    (a23 : PySem.W.nsIn K mainGlobals "_law_begins" = some (some (.ref f23))) (l23 : K.lookup f23 = some ⟨oc23, od23, .func (PySem.W.fnOf "_law_begins" "_law_begins" (defArgs s_law_begins) (defBody s_law_begins) (defScope s_law_begins) .none kV23 dc23 pm23 an23 cd23 ct23), sl23⟩) (c23 : PySem.W.codeIn K cd23 "_law_begins" = true) (k23 : PySem.W.keepIn K (.ref f23) = true)
    (a24 : PySem.W.nsIn K mainGlobals "_law_word_right" = some (some (.ref f24))) (l24 : K.lookup f24 = some ⟨oc24, od24, .func (PySem.W.fnOf "_law_word_right" "_law_word_right" (defArgs s_law_word_right) (defBody s_law_word_right) (defScope s_law_word_right) .none kV24 dc24 pm24 an24 cd24 ct24), sl24⟩) (c24 : PySem.W.codeIn K cd24 "_law_word_right" = true) (k24 : PySem.W.keepIn K (.ref f24) = true)
    (a25 : PySem.W.nsIn K mainGlobals "law" = some (some (.ref f25))) (l25 : K.lookup f25 = some ⟨oc25, od25, .func (PySem.W.fnOf "law" "law" (defArgs slaw) (defBody slaw) (defScope slaw) .none kV25 dc25 pm25 an25 cd25 ct25), sl25⟩) (c25 : PySem.W.codeIn K cd25 "law" = true) (k25 : PySem.W.keepIn K (.ref f25) = true)
    (z0 : PySem.W.nsIn K mainGlobals "isinstance" = some none)
    (z1 : PySem.W.nsIn K mainGlobals "int" = some none)
    (z2 : PySem.W.nsIn K mainGlobals "bool" = some none)
    (z3 : PySem.W.nsIn K mainGlobals "str" = some none)
    (z4 : PySem.W.nsIn K mainGlobals "len" = some none)
    (z5 : PySem.W.nsIn K mainGlobals "range" = some none)
    (z6 : PySem.W.nsIn K mainGlobals "abs" = some none)
    (z7 : PySem.W.nsIn K mainGlobals "max" = some none)
    (z8 : PySem.W.nsIn K mainGlobals "divmod" = some none)
    (z9 : PySem.W.nsIn K mainGlobals "sorted" = some none)
    (z10 : PySem.W.nsIn K mainGlobals "repr" = some none)
    (z11 : PySem.W.nsIn K mainGlobals "all" = some none)
    (y0 : PySem.W.nsIn K mainGlobals "MOST_LETTERS" = some (some (.int 400 t0)))
    : ∃ fd : FuncData, (∀ (s : Shared) (v : Value), BindsTo s fd ⟨[v], []⟩ [("_law_script", v)]) ∧ ∀ base : Heap, K.In base → base.Ns mainGlobals mg → FnOk l.prog w K mg base CX0 8 fa fd ["_law_script"] (splaw K) := by
  have e := hfa.symm.trans (PySem.W.mg_of X G a25)
  cases e
  have B : Bs mg := ⟨PySem.W.mg_none_of X G z0, PySem.W.mg_none_of X G z1, PySem.W.mg_none_of X G z2, PySem.W.mg_none_of X G z3, PySem.W.mg_none_of X G z4, PySem.W.mg_none_of X G z5, PySem.W.mg_none_of X G z6, PySem.W.mg_none_of X G z7, PySem.W.mg_none_of X G z8, PySem.W.mg_none_of X G z9, PySem.W.mg_none_of X G z10, PySem.W.mg_none_of X G z11⟩
  have Glb : Glo mg := ⟨⟨t0, PySem.W.mg_of X G y0⟩⟩
  have Dis_integer : Def K mg "is_integer" sis_integer ["value"] := def_mk X G a0 l0 c0 k0 fun _ _ _ _ _ _ us hl => match us, hl with | [_], _ => rfl
  have Dis_count : Def K mg "is_count" sis_count ["value"] := def_mk X G a1 l1 c1 k1 fun _ _ _ _ _ _ us hl => match us, hl with | [_], _ => rfl
  have Dis_letter : Def K mg "is_letter" sis_letter ["sign"] := def_mk X G a2 l2 c2 k2 fun _ _ _ _ _ _ us hl => match us, hl with | [_], _ => rfl
  have Dlongest_borders : Def K mg "longest_borders" slongest_borders ["word"] := def_mk X G a3 l3 c3 k3 fun _ _ _ _ _ _ us hl => match us, hl with | [_], _ => rfl
  have Dstarts_in : Def K mg "starts_in" sstarts_in ["cycle", "word"] := def_mk X G a4 l4 c4 k4 fun _ _ _ _ _ _ us hl => match us, hl with | [_, _], _ => rfl
  have Dis_text : Def K mg "is_text" sis_text ["value"] := def_mk X G a5 l5 c5 k5 fun _ _ _ _ _ _ us hl => match us, hl with | [_], _ => rfl
  have Dis_ring : Def K mg "is_ring" sis_ring ["value"] := def_mk X G a6 l6 c6 k6 fun _ _ _ _ _ _ us hl => match us, hl with | [_], _ => rfl
  have Dneed_ring : Def K mg "need_ring" sneed_ring ["ring"] := def_mk X G a7 l7 c7 k7 fun _ _ _ _ _ _ us hl => match us, hl with | [_], _ => rfl
  have Dneed_word : Def K mg "need_word" sneed_word ["word"] := def_mk X G a8 l8 c8 k8 fun _ _ _ _ _ _ us hl => match us, hl with | [_], _ => rfl
  have Dturned : Def K mg "turned" sturned ["ring", "by"] := def_mk X G a9 l9 c9 k9 fun _ _ _ _ _ _ us hl => match us, hl with | [_, _], _ => rfl
  have D_turned_to : Def K mg "_turned_to" s_turned_to ["ring", "place"] := def_mk X G a10 l10 c10 k10 fun _ _ _ _ _ _ us hl => match us, hl with | [_, _], _ => rfl
  have Dborders : Def K mg "borders" sborders ["word"] := def_mk X G a11 l11 c11 k11 fun _ _ _ _ _ _ us hl => match us, hl with | [_], _ => rfl
  have Dread_on : Def K mg "read_on" sread_on ["ring", "place", "many"] := def_mk X G a12 l12 c12 k12 fun _ _ _ _ _ _ us hl => match us, hl with | [_, _, _], _ => rfl
  have Dplain_begins : Def K mg "plain_begins" splain_begins ["ring", "word"] := def_mk X G a13 l13 c13 k13 fun _ _ _ _ _ _ us hl => match us, hl with | [_, _], _ => rfl
  have Dbegins : Def K mg "begins" sbegins ["ring", "word"] := def_mk X G a14 l14 c14 k14 fun _ _ _ _ _ _ us hl => match us, hl with | [_, _], _ => rfl
  have Dstands_in : Def K mg "stands_in" sstands_in ["ring", "word"] := def_mk X G a15 l15 c15 k15 fun _ _ _ _ _ _ us hl => match us, hl with | [_, _], _ => rfl
  have Dperiod_of : Def K mg "period_of" speriod_of ["ring"] := def_mk X G a16 l16 c16 k16 fun _ _ _ _ _ _ us hl => match us, hl with | [_], _ => rfl
  have D_law_pot : Def K mg "_law_pot" s_law_pot ["_law_script", "_law_k"] := def_mk X G a17 l17 c17 k17 fun _ _ _ _ _ _ us hl => match us, hl with | [_, _], _ => rfl
  have D_law_draw : Def K mg "_law_draw" s_law_draw ["_law_pot_here", "_law_size"] := def_mk X G a18 l18 c18 k18 fun _ _ _ _ _ _ us hl => match us, hl with | [_, _], _ => rfl
  have D_law_pick : Def K mg "_law_pick" s_law_pick ["_law_pot_here", "_law_some"] := def_mk X G a19 l19 c19 k19 fun _ _ _ _ _ _ us hl => match us, hl with | [_, _], _ => rfl
  have D_law_ring : Def K mg "_law_ring" s_law_ring ["_law_pot_here", "_law_most"] := def_mk X G a20 l20 c20 k20 fun _ _ _ _ _ _ us hl => match us, hl with | [_, _], _ => rfl
  have D_law_round : Def K mg "_law_round" s_law_round ["_law_ring_here", "_law_place", "_law_many"] := def_mk X G a21 l21 c21 k21 fun _ _ _ _ _ _ us hl => match us, hl with | [_, _, _], _ => rfl
  have D_law_borders : Def K mg "_law_borders" s_law_borders ["_law_word"] := def_mk X G a22 l22 c22 k22 fun _ _ _ _ _ _ us hl => match us, hl with | [_], _ => rfl
  have D_law_begins : Def K mg "_law_begins" s_law_begins ["_law_ring_here", "_law_word"] := def_mk X G a23 l23 c23 k23 fun _ _ _ _ _ _ us hl => match us, hl with | [_, _], _ => rfl
  have D_law_word_right : Def K mg "_law_word_right" s_law_word_right ["_law_ring_here", "_law_word", "_law_by"] := def_mk X G a24 l24 c24 k24 fun _ _ _ _ _ _ us hl => match us, hl with | [_, _, _], _ => rfl
  have Dlaw : Def K mg "law" slaw ["_law_script"] := def_mk X G a25 l25 c25 k25 fun _ _ _ _ _ _ us hl => match us, hl with | [_], _ => rfl
  refine ⟨PySem.W.fnOf "law" "law" (defArgs slaw) (defBody slaw) (defScope slaw) .none kV25 dc25 pm25 an25 cd25 ct25, fun s v => .of_eq rfl, fun base _ _ => ?_⟩
  have H_law_pot := ok_law_pot (P := l.prog) (w := w) (base := base) D_law_pot B Glb
  have H_law_draw := ok_law_draw (P := l.prog) (w := w) (base := base) D_law_draw B Glb
  have H_law_pick := ok_law_pick (P := l.prog) (w := w) (base := base) D_law_pick B Glb H_law_draw
  have H_law_ring := ok_law_ring (P := l.prog) (w := w) (base := base) D_law_ring B Glb H_law_pick H_law_draw
  have H_law_round := ok_law_round (P := l.prog) (w := w) (base := base) D_law_round B Glb
  have H_law_begins := ok_law_begins (P := l.prog) (w := w) (base := base) D_law_begins B Glb H_law_round
  have His_letter := okis_letter (P := l.prog) (w := w) (base := base) Dis_letter B Glb
  have His_text := okis_text (P := l.prog) (w := w) (base := base) Dis_text B Glb His_letter
  have His_ring := okis_ring (P := l.prog) (w := w) (base := base) Dis_ring B Glb His_text
  have Hneed_ring := okneed_ring (P := l.prog) (w := w) (base := base) Dneed_ring B Glb His_ring
  have Hneed_word := okneed_word (P := l.prog) (w := w) (base := base) Dneed_word B Glb His_ring
  have Hlongest_borders := oklongest_borders (P := l.prog) (w := w) (base := base) Dlongest_borders B Glb
  have Hstarts_in := okstarts_in (P := l.prog) (w := w) (base := base) Dstarts_in B Glb Hlongest_borders
  have Hbegins := okbegins (P := l.prog) (w := w) (base := base) Dbegins B Glb Hneed_ring Hneed_word Hstarts_in
  have Hperiod_of := okperiod_of (P := l.prog) (w := w) (base := base) Dperiod_of B Glb Hneed_ring Hlongest_borders
  have Hread_on := okread_on (P := l.prog) (w := w) (base := base) Dread_on B Glb
  have Hplain_begins := okplain_begins (P := l.prog) (w := w) (base := base) Dplain_begins B Glb Hneed_ring Hneed_word Hread_on
  have Hborders := okborders (P := l.prog) (w := w) (base := base) Dborders B Glb Hneed_word Hlongest_borders
  have H_law_borders := ok_law_borders (P := l.prog) (w := w) (base := base) D_law_borders B Glb
  have H_turned_to := ok_turned_to (P := l.prog) (w := w) (base := base) D_turned_to B Glb
  have His_integer := okis_integer (P := l.prog) (w := w) (base := base) Dis_integer B Glb
  have His_count := okis_count (P := l.prog) (w := w) (base := base) Dis_count B Glb His_integer
  have Hturned := okturned (P := l.prog) (w := w) (base := base) Dturned B Glb Hneed_ring H_turned_to His_count
  have Hstands_in := okstands_in (P := l.prog) (w := w) (base := base) Dstands_in B Glb Hbegins
  have H_law_word_right := ok_law_word_right (P := l.prog) (w := w) (base := base) D_law_word_right B Glb H_law_begins Hbegins Hperiod_of Hplain_begins Hborders H_law_borders Hturned Hstands_in
  have Hlaw := oklaw (P := l.prog) (w := w) (base := base) Dlaw B Glb H_law_pot H_law_ring H_law_draw H_law_round H_law_pick H_law_word_right
  obtain ⟨f, fd, O, m, k, b, F⟩ := Hlaw
  have e2 := m.symm.trans hfa
  cases e2
  rw [fd_is F l25] at O
  exact O
theorem walk {l : PySem.W.OpenLaw} {q : Program} {loose : List Str} {XP : (Str → Option Value) → Heap → Prop} {YP : World → Heap → Prop} {d : DefRec} {K : Params → PySem.W.Frag} (hn : l.most = some 63) (hdf : d.params.defaults = [])
    (hY : ∀ (w : World) (h : Heap), YP w h → (K w.params).In h)
    (F : ∀ (w : World) (mg : Str → Option Value) (fa : Addr) (h : Heap), (K w.params).In h → h.Ns mainGlobals mg → mg d.name = some (.ref fa) →
      ∃ fd : FuncData, (∀ (s : Shared) (u : Value), BindsTo s fd ⟨[u], []⟩ [("_law_script", u)]) ∧ ∀ base : Heap, (K w.params).In base → base.Ns mainGlobals mg → FnOk l.prog w (K w.params) mg base CX0 8 fa fd ["_law_script"] (splaw (K w.params))) :
    PySem.W.WalkO q loose XP YP l.row.toRowW d [] (fun f vs => PySem.call f vs) :=
  L2.walk_of (n := 63) (k := 8) (x := "_law_script") (CX := fun _ => CX0) (sp := fun w => splaw (K w.params)) hn (by decide) hdf ⟨rfl, by decide, by decide⟩ hY F (fun _ _ a ns hl _ hS => ⟨a, ns, rfl, hS, hl, fun _ => rfl⟩) fun _ _ _ _ _ z => z
end My
open PySem PySem.W PyProof.Rows
set_option maxRecDepth 100000 in
set_option maxHeartbeats 0 in
theorem PySem.Challenge.cw_suretexts_k12_whole_words_in_rings_holds : PySem.Challenge.rw_suretexts_k12_whole_words_in_rings.Holds := by
  w_on; o_law; k_head; (case hw => w_witness2)
  k_fill
  refine My.walk (l := PySem.Challenge.rw_suretexts_k12_whole_words_in_rings) rfl rfl (fun w h Y => PySem.W.kIn_of Y) ?F
  case F =>
    intro w mg fa h KX G hmg
    refine' My.all_mk KX G hmg ?a0 ?l0 ?c0 ?k0 ?a1 ?l1 ?c1 ?k1 ?a2 ?l2 ?c2 ?k2 ?a3 ?l3 ?c3 ?k3 ?a4 ?l4 ?c4 ?k4 ?a5 ?l5 ?c5 ?k5 ?a6 ?l6 ?c6 ?k6 ?a7 ?l7 ?c7 ?k7 ?a8 ?l8 ?c8 ?k8 ?a9 ?l9 ?c9 ?k9 ?a10 ?l10 ?c10 ?k10 ?a11 ?l11 ?c11 ?k11 ?a12 ?l12 ?c12 ?k12 ?a13 ?l13 ?c13 ?k13 ?a14 ?l14 ?c14 ?k14 ?a15 ?l15 ?c15 ?k15 ?a16 ?l16 ?c16 ?k16 ?a17 ?l17 ?c17 ?k17 ?a18 ?l18 ?c18 ?k18 ?a19 ?l19 ?c19 ?k19 ?a20 ?l20 ?c20 ?k20 ?a21 ?l21 ?c21 ?k21 ?a22 ?l22 ?c22 ?k22 ?a23 ?l23 ?c23 ?k23 ?a24 ?l24 ?c24 ?k24 ?a25 ?l25 ?c25 ?k25 ?z0 ?z1 ?z2 ?z3 ?z4 ?z5 ?z6 ?z7 ?z8 ?z9 ?z10 ?z11 ?y0
    (case a0 => k_is)
    (case l0 => k_is)
    (case c0 => k_is)
    (case k0 => k_is)
    (case a1 => k_is)
    (case l1 => k_is)
    (case c1 => k_is)
    (case k1 => k_is)
    (case a2 => k_is)
    (case l2 => k_is)
    (case c2 => k_is)
    (case k2 => k_is)
    (case a3 => k_is)
    (case l3 => k_is)
    (case c3 => k_is)
    (case k3 => k_is)
    (case a4 => k_is)
    (case l4 => k_is)
    (case c4 => k_is)
    (case k4 => k_is)
    (case a5 => k_is)
    (case l5 => k_is)
    (case c5 => k_is)
    (case k5 => k_is)
    (case a6 => k_is)
    (case l6 => k_is)
    (case c6 => k_is)
    (case k6 => k_is)
    (case a7 => k_is)
    (case l7 => k_is)
    (case c7 => k_is)
    (case k7 => k_is)
    (case a8 => k_is)
    (case l8 => k_is)
    (case c8 => k_is)
    (case k8 => k_is)
    (case a9 => k_is)
    (case l9 => k_is)
    (case c9 => k_is)
    (case k9 => k_is)
    (case a10 => k_is)
    (case l10 => k_is)
    (case c10 => k_is)
    (case k10 => k_is)
    (case a11 => k_is)
    (case l11 => k_is)
    (case c11 => k_is)
    (case k11 => k_is)
    (case a12 => k_is)
    (case l12 => k_is)
    (case c12 => k_is)
    (case k12 => k_is)
    (case a13 => k_is)
    (case l13 => k_is)
    (case c13 => k_is)
    (case k13 => k_is)
    (case a14 => k_is)
    (case l14 => k_is)
    (case c14 => k_is)
    (case k14 => k_is)
    (case a15 => k_is)
    (case l15 => k_is)
    (case c15 => k_is)
    (case k15 => k_is)
    (case a16 => k_is)
    (case l16 => k_is)
    (case c16 => k_is)
    (case k16 => k_is)
    (case a17 => k_is)
    (case l17 => k_is)
    (case c17 => k_is)
    (case k17 => k_is)
    (case a18 => k_is)
    (case l18 => k_is)
    (case c18 => k_is)
    (case k18 => k_is)
    (case a19 => k_is)
    (case l19 => k_is)
    (case c19 => k_is)
    (case k19 => k_is)
    (case a20 => k_is)
    (case l20 => k_is)
    (case c20 => k_is)
    (case k20 => k_is)
    (case a21 => k_is)
    (case l21 => k_is)
    (case c21 => k_is)
    (case k21 => k_is)
    (case a22 => k_is)
    (case l22 => k_is)
    (case c22 => k_is)
    (case k22 => k_is)
    (case a23 => k_is)
    (case l23 => k_is)
    (case c23 => k_is)
    (case k23 => k_is)
    (case a24 => k_is)
    (case l24 => k_is)
    (case c24 => k_is)
    (case k24 => k_is)
    (case a25 => k_is)
    (case l25 => k_is)
    (case c25 => k_is)
    (case k25 => k_is)
    (case z0 => k_is)
    (case z1 => k_is)
    (case z2 => k_is)
    (case z3 => k_is)
    (case z4 => k_is)
    (case z5 => k_is)
    (case z6 => k_is)
    (case z7 => k_is)
    (case z8 => k_is)
    (case z9 => k_is)
    (case z10 => k_is)
    (case z11 => k_is)
    (case y0 => k_is)
