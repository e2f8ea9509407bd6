import PyProof.Rows.All
import Wide.All
import OpenK.AllK
import Wide.FinOn
import HandS.ForMost
import HandS.IsInst
import HandS.SortInts
import HandS.Walk
import HandS.Property
import HandS.Style
import HandS.DictTup
import KE.SortData
import KE.KDictWalk
import HandS.OwnEq
import PyProof.InstNe
import HandS.ListItems
import HandS.More
import HandS.DictComp
import PySem.Challenge.RW_suretexts_k16_whole_lots_come_and_go
set_option Elab.async false
set_option maxRecDepth 100000
set_option linter.all false
namespace My
/-! ### reading round and round -/
def rd (l : List Nat) (p n : Nat) : List Nat := (List.range n).map fun k => l.getD ((p + k) % l.length) 0
theorem rd_len (l : List Nat) (p n : Nat) : (rd l p n).length = n := by simp [rd]
theorem rd_zero (l : List Nat) (p : Nat) : rd l p 0 = [] := rfl
theorem rd_succ (l : List Nat) (p n : Nat) : rd l p (n + 1) = rd l p n ++ [l.getD ((p + n) % l.length) 0] := by
  simp [rd, List.range_succ]
theorem rd_get (l : List Nat) (p n k : Nat) (h : k < n) : (rd l p n)[k]? = some (l.getD ((p + k) % l.length) 0) := by
  simp [rd, h]
theorem rd_drop (l : List Nat) (p n k : Nat) : (rd l p n).drop k = rd l (p + k) (n - k) := by
  apply List.ext_getElem?
  intro i
  rw [List.getElem?_drop]
  by_cases h : k + i < n
  · rw [rd_get _ _ _ _ h, rd_get _ _ _ _ (by omega), Nat.add_assoc]
  · rw [List.getElem?_eq_none (by rw [rd_len]; omega), List.getElem?_eq_none (by rw [rd_len]; omega)]
theorem rd_mod (l : List Nat) (p n : Nat) : rd l (p % l.length) n = rd l p n := by
  unfold rd
  apply List.map_congr_left
  intro k _
  rw [Nat.mod_add_mod]
theorem rd_self (l : List Nat) : rd l 0 l.length = l := by
  apply List.ext_getElem?
  intro i
  by_cases h : i < l.length
  · rw [rd_get _ _ _ _ h, Nat.zero_add, Nat.mod_eq_of_lt h, List.getElem?_eq_getElem h, List.getD_eq_getElem?_getD, List.getElem?_eq_getElem h]
    rfl
  · rw [List.getElem?_eq_none (by rw [rd_len]; omega), List.getElem?_eq_none (by omega)]
/-- turned -/
theorem rd_turn (l : List Nat) (p : Nat) (h : p < l.length) : rd l p l.length = l.drop p ++ l.take p := by
  apply List.ext_getElem?
  intro i
  by_cases hi : i < l.length
  · rw [rd_get _ _ _ _ hi]
    by_cases h2 : i < l.length - p
    · rw [List.getElem?_append_left (by rw [List.length_drop]; exact h2), List.getElem?_drop, Nat.mod_eq_of_lt (by omega), List.getElem?_eq_getElem (by omega), List.getD_eq_getElem?_getD, List.getElem?_eq_getElem (by omega)]
      rfl
    · rw [List.getElem?_append_right (by rw [List.length_drop]; omega), List.length_drop, List.getElem?_take_of_lt (by omega)]
      have e : (p + i) % l.length = i - (l.length - p) := by
        rw [Nat.mod_eq_sub_mod (by omega), Nat.mod_eq_of_lt (by omega)]
        omega
      rw [e, List.getElem?_eq_getElem (by omega), List.getD_eq_getElem?_getD, List.getElem?_eq_getElem (by omega)]
      rfl
  · rw [List.getElem?_eq_none (by rw [rd_len]; omega), List.getElem?_eq_none (by rw [List.length_append, List.length_drop, List.length_take]; omega)]
/-- reading from a turned ring -/
theorem rd_turned (l : List Nat) (b p n : Nat) (hl : 0 < l.length) : rd (rd l b l.length) p n = rd l (b + p) n := by
  unfold rd
  apply List.map_congr_left
  intro k _
  have e : ((List.range l.length).map fun k => l.getD ((b + k) % l.length) 0).length = l.length := by simp
  rw [e]
  have h2 : (p + k) % l.length < l.length := Nat.mod_lt _ hl
  rw [List.getD_eq_getElem?_getD, List.getElem?_map, List.getElem?_range h2]
  show l.getD ((b + (p + k) % l.length) % l.length) 0 = _
  rw [Nat.add_mod_mod, Nat.add_assoc]

/-! ### beginnings that are endings -/
def Pre (w t : List Nat) (k : Nat) : Prop := k ≤ w.length ∧ w.take k <:+ t
def Longest (w t : List Nat) (k : Nat) : Prop := Pre w t k ∧ ∀ k', Pre w t k' → k' ≤ k
def IsLB (p : List Nat) (b : Nat) : Prop := b < p.length ∧ p.take b <:+ p ∧ ∀ b', b' < p.length → p.take b' <:+ p → b' ≤ b
def At (w t : List Nat) (c k : Nat) : Prop := Pre w t k ∧ ∀ k', Pre w t k' → w[k']? = some c → k' ≤ k
theorem suff_one {a t : List Nat} {x c : Nat} : a ++ [x] <:+ t ++ [c] ↔ a <:+ t ∧ x = c := by
  constructor
  · rintro ⟨u, hu⟩
    rw [← List.append_assoc] at hu
    have h := List.append_inj' hu rfl
    exact ⟨⟨u, h.1⟩, by simpa using h.2⟩
  · rintro ⟨⟨u, hu⟩, rfl⟩
    exact ⟨u, by rw [← hu, List.append_assoc]⟩
theorem pre_succ {w t : List Nat} {c k : Nat} : Pre w (t ++ [c]) (k + 1) ↔ Pre w t k ∧ w[k]? = some c := by
  unfold Pre
  constructor
  · rintro ⟨h1, h2⟩
    have hk : k < w.length := by omega
    rw [List.take_succ_eq_append_getElem hk, suff_one] at h2
    exact ⟨⟨by omega, h2.1⟩, by rw [List.getElem?_eq_getElem hk, h2.2]⟩
  · rintro ⟨⟨h1, h2⟩, h3⟩
    have hk : k < w.length := by
      rw [List.getElem?_eq_some_iff] at h3
      exact h3.1
    rw [List.take_succ_eq_append_getElem hk, suff_one]
    rw [List.getElem?_eq_getElem hk] at h3
    exact ⟨by omega, h2, Option.some.inj h3⟩
theorem pre_zero (w t : List Nat) : Pre w t 0 := ⟨Nat.zero_le _, by simp⟩
theorem at_start {w t : List Nat} {c k : Nat} (h : Longest w t k) : At w t c k := ⟨h.1, fun k' h' _ => h.2 k' h'⟩
theorem at_fall {w t : List Nat} {c k b : Nat} (h : At w t c k) (hne : w[k]? ≠ some c) (hb : IsLB (w.take k) b) : At w t c b := by
  obtain ⟨h1, h2⟩ := h
  obtain ⟨b1, b2, b3⟩ := hb
  have lk : (w.take k).length = k := by rw [List.length_take]; have := h1.1; omega
  rw [lk] at b1 b3
  have tk : ∀ j, j ≤ k → (w.take k).take j = w.take j := fun j hj => by rw [List.take_take, Nat.min_eq_left hj]
  refine ⟨⟨by have := h1.1; omega, ?_⟩, fun k' p' e' => ?_⟩
  · rw [← tk b (by omega)]
    exact b2.trans h1.2
  · have l1 := h2 k' p' e'
    have l2 : k' ≠ k := by rintro rfl; exact hne e'
    have l3 : k' < k := by omega
    refine b3 k' l3 ?_
    rw [tk k' (by omega)]
    refine List.suffix_of_suffix_length_le p'.2 h1.2 ?_
    rw [List.length_take, List.length_take]
    have := h1.1
    omega
theorem at_hit {w t : List Nat} {c k : Nat} (h : At w t c k) (he : w[k]? = some c) : Longest w (t ++ [c]) (k + 1) := by
  refine ⟨pre_succ.mpr ⟨h.1, he⟩, fun k' p' => ?_⟩
  cases k' with
  | zero => omega
  | succ j =>
    have q := pre_succ.mp p'
    have := h.2 j q.1 q.2
    omega
theorem at_miss {w t : List Nat} {c : Nat} (h : At w t c 0) (he : w[0]? ≠ some c) : Longest w (t ++ [c]) 0 := by
  refine ⟨pre_zero _ _, fun k' p' => ?_⟩
  cases k' with
  | zero => omega
  | succ j =>
    have q := pre_succ.mp p'
    have l := h.2 j q.1 q.2
    have e : j = 0 := by omega
    subst e
    exact absurd q.2 he
theorem longest_nil (w : List Nat) : Longest w [] 0 := by
  refine ⟨pre_zero _ _, fun k' p' => ?_⟩
  have h := List.suffix_nil.mp p'.2
  have h2 : (w.take k').length = 0 := by rw [h]; rfl
  rw [List.length_take] at h2
  have := p'.1
  omega
theorem longest_le {w t : List Nat} {k : Nat} (h : Longest w t k) : k ≤ t.length := by
  have h1 := h.1.2.length_le
  rw [List.length_take] at h1
  have := h.1.1
  omega
/-- the longest beginning that ends the letters behind the first one is the longest border -/
theorem lb_of_longest {w : List Nat} {i k : Nat} (hi : i < w.length) (h : Longest w ((w.drop 1).take i) k) : IsLB (w.take (i + 1)) k := by
  have hk := longest_le h
  have ht : ((w.drop 1).take i).length = i := by rw [List.length_take, List.length_drop]; omega
  rw [ht] at hk
  have hl : (w.take (i + 1)).length = i + 1 := by rw [List.length_take]; omega
  have tk : ∀ j, j ≤ i + 1 → (w.take (i + 1)).take j = w.take j := fun j hj => by rw [List.take_take, Nat.min_eq_left hj]
  obtain ⟨a, r, rfl⟩ : ∃ a r, w = a :: r := by
    cases w with
    | nil => simp at hi
    | cons a r => exact ⟨a, r, rfl⟩
  have e : (a :: r).take (i + 1) = a :: ((a :: r).drop 1).take i := by simp
  refine ⟨by omega, ?_, fun b' hb' hs => ?_⟩
  · rw [tk k (by omega), e]
    exact h.1.2.trans (List.suffix_cons _ _)
  · rw [hl] at hb'
    refine h.2 b' ⟨by omega, ?_⟩
    rw [tk b' (by omega), e, List.suffix_cons_iff] at hs
    rcases hs with hs | hs
    · have hq := congrArg List.length hs
      rw [List.length_take, ← e, hl] at hq
      omega
    · exact hs
theorem lb_one {w : List Nat} (h : 0 < w.length) : IsLB (w.take 1) 0 := lb_of_longest h (by simpa using longest_nil w)
theorem lb_unique {p : List Nat} {a b : Nat} (h1 : IsLB p a) (h2 : IsLB p b) : a = b := by
  have := h1.2.2 b h2.1 h2.2.1
  have := h2.2.2 a h1.1 h1.2.1
  omega
/-- the list of the longest borders -/
def Bords (w : List Nat) (L : List Nat) : Prop := L.length = w.length ∧ ∀ j, j < w.length → ∃ b, L[j]? = some b ∧ IsLB (w.take (j + 1)) b
theorem bords_unique {w A B : List Nat} (h1 : Bords w A) (h2 : Bords w B) : A = B := by
  apply List.ext_getElem?
  intro i
  by_cases h : i < w.length
  · obtain ⟨a, ea, la⟩ := h1.2 i h
    obtain ⟨b, eb, lb⟩ := h2.2 i h
    rw [ea, eb, lb_unique la lb]
  · rw [List.getElem?_eq_none (by rw [h1.1]; omega), List.getElem?_eq_none (by rw [h2.1]; omega)]
/-- some first ones of them -/
def BordsTo (w : List Nat) (n : Nat) (L : List Nat) : Prop := L.length = n ∧ ∀ j, j < n → ∃ b, L[j]? = some b ∧ IsLB (w.take (j + 1)) b
theorem bordsTo_one {w : List Nat} (h : 0 < w.length) : BordsTo w 1 [0] := by
  refine ⟨rfl, fun j hj => ?_⟩
  have e : j = 0 := by omega
  subst e
  exact ⟨0, rfl, lb_one h⟩
theorem bordsTo_succ {w L : List Nat} {i k : Nat} (hi : i < w.length) (hB : BordsTo w i L) (h : Longest w ((w.drop 1).take i) k) : BordsTo w (i + 1) (L ++ [k]) := by
  refine ⟨by rw [List.length_append, hB.1]; rfl, fun j hj => ?_⟩
  by_cases hji : j < i
  · obtain ⟨b, e, l⟩ := hB.2 j hji
    exact ⟨b, by rw [List.getElem?_append_left (by rw [hB.1]; exact hji)]; exact e, l⟩
  · have e : j = i := by omega
    subst e
    refine ⟨k, ?_, lb_of_longest hi h⟩
    rw [List.getElem?_append_right (by rw [hB.1]; omega), hB.1, Nat.sub_self]
    rfl
theorem bordsTo_at {w L : List Nat} {n k : Nat} (hB : BordsTo w n L) (h0 : 0 < k) (hk : k ≤ n) : ∃ b, L[k - 1]? = some b ∧ IsLB (w.take k) b ∧ b < k := by
  obtain ⟨b, e, l⟩ := hB.2 (k - 1) (by omega)
  rw [show k - 1 + 1 = k by omega] at l
  refine ⟨b, e, l, ?_⟩
  have := l.1
  rw [List.length_take] at this
  omega
theorem bords_of {w L : List Nat} : BordsTo w w.length L ↔ Bords w L := Iff.rfl

/-! ### a word begins at a place -/
def due (l w : List Nat) : List Nat := (List.range l.length).filter fun p => rd l p w.length == w
theorem mem_due {l w : List Nat} {p : Nat} : p ∈ due l w ↔ p < l.length ∧ rd l p w.length = w := by
  simp [due]
/-- of the first n letters read -/
def dueTo (l w : List Nat) (n : Nat) : List Nat := (List.range n).filter fun p => rd l p w.length == w
theorem dueTo_all (l w : List Nat) : dueTo l w l.length = due l w := rfl
theorem dueTo_succ_yes {l w : List Nat} {n : Nat} (h : rd l n w.length = w) : dueTo l w (n + 1) = dueTo l w n ++ [n] := by
  simp [dueTo, List.range_succ, List.filter_append, h]
theorem dueTo_succ_no {l w : List Nat} {n : Nat} (h : ¬ rd l n w.length = w) : dueTo l w (n + 1) = dueTo l w n := by
  simp [dueTo, List.range_succ, List.filter_append, h]
/-- the whole word was just read -/
theorem longest_full {l w : List Nat} {n k : Nat} (h : Longest w (rd l 0 n) k) : k = w.length ↔ w.length ≤ n ∧ rd l (n - w.length) w.length = w := by
  have key : w <:+ rd l 0 n ↔ w.length ≤ n ∧ rd l (n - w.length) w.length = w := by
    constructor
    · intro hs
      have hl := hs.length_le
      rw [rd_len] at hl
      refine ⟨hl, ?_⟩
      have e := List.suffix_iff_eq_drop.mp hs
      rw [rd_len, rd_drop, Nat.zero_add, show n - (n - w.length) = w.length by omega] at e
      exact e.symm
    · rintro ⟨hl, e⟩
      rw [List.suffix_iff_eq_drop, rd_len, rd_drop, Nat.zero_add, show n - (n - w.length) = w.length by omega]
      exact e.symm
  rw [← key]
  constructor
  · rintro rfl
    have := h.1.2
    rw [List.take_length] at this
    exact this
  · intro hs
    have h1 := h.1.1
    have h2 := h.2 w.length ⟨Nat.le_refl _, by rw [List.take_length]; exact hs⟩
    omega

/-! ### the period -/
theorem getD_lt {l : List Nat} {i : Nat} (h : i < l.length) : l[i]? = some (l.getD i 0) := by
  rw [List.getD_eq_getElem?_getD, List.getElem?_eq_getElem h]
  rfl
theorem line_period {l : List Nat} {b : Nat} (h : IsLB l b) (i : Nat) (hi : i + (l.length - b) < l.length) : l.getD (i + (l.length - b)) 0 = l.getD i 0 := by
  have hb := h.1
  have e := List.suffix_iff_eq_drop.mp h.2.1
  have hl : (l.take b).length = b := by rw [List.length_take]; omega
  rw [hl] at e
  have e2 := congrArg (fun z : List Nat => z[i]?) e
  simp only [List.getElem?_take, List.getElem?_drop] at e2
  rw [if_pos (by omega)] at e2
  rw [List.getD_eq_getElem?_getD, List.getD_eq_getElem?_getD, e2, Nat.add_comm]
theorem line_mult {l : List Nat} {s : Nat} (h : ∀ i, i + s < l.length → l.getD (i + s) 0 = l.getD i 0) : ∀ (m i : Nat), i + m * s < l.length → l.getD (i + m * s) 0 = l.getD i 0
  | 0, i, _ => by simp
  | m + 1, i, hi => by
    have e : i + (m + 1) * s = (i + m * s) + s := by rw [Nat.succ_mul]; omega
    rw [e] at hi ⊢
    rw [h _ hi]
    exact line_mult h m i (by omega)
theorem round_period {l : List Nat} {s : Nat} (_hs : 0 < s) (hsl : s ≤ l.length) (hd : l.length % s = 0) (h : ∀ i, i + s < l.length → l.getD (i + s) 0 = l.getD i 0) (i : Nat) (hi : i < l.length) : l.getD ((i + s) % l.length) 0 = l.getD i 0 := by
  by_cases hlt : i + s < l.length
  · rw [Nat.mod_eq_of_lt hlt]
    exact h i hlt
  · have e1 : (i + s) % l.length = i + s - l.length := by
      rw [Nat.mod_eq_sub_mod (by omega), Nat.mod_eq_of_lt (by omega)]
    rw [e1]
    obtain ⟨q, hq⟩ : ∃ q, l.length = s * q := ⟨l.length / s, by rw [Nat.mul_div_cancel' (Nat.dvd_of_mod_eq_zero hd)]⟩
    have hq0 : 0 < q := by
      rcases Nat.eq_zero_or_pos q with z | z
      · subst z; omega
      · exact z
    obtain ⟨r, rfl⟩ : ∃ r, q = r + 1 := ⟨q - 1, by omega⟩
    have e2 : l.length = r * s + s := by rw [hq, Nat.mul_succ, Nat.mul_comm]
    have e3 : i = (i + s - l.length) + r * s := by omega
    have := line_mult h r (i + s - l.length) (by omega)
    rw [← e3] at this
    exact this.symm
/-- the told period -/
def per (l : List Nat) (b : Nat) : Nat := if l.length % (l.length - b) = 0 then l.length - b else l.length
theorem per_turns {l : List Nat} {b : Nat} (h : IsLB l b) (i : Nat) (hi : i < l.length) : l.getD ((i + per l b) % l.length) 0 = l.getD i 0 := by
  have hb := h.1
  unfold per
  split
  · exact round_period (by omega) (by omega) (by assumption) (fun j hj => line_period h j hj) i hi
  · rw [Nat.add_mod_right, Nat.mod_eq_of_lt hi]
theorem rd_per {l : List Nat} {b : Nat} (h : IsLB l b) (p n : Nat) : rd l (p + per l b) n = rd l p n := by
  have hb := h.1
  unfold rd
  apply List.map_congr_left
  intro k _
  rw [show p + per l b + k = (p + k) + per l b by omega, ← Nat.mod_add_mod]
  rw [per_turns h ((p + k) % l.length) (Nat.mod_lt _ (by omega))]
theorem per_pos {l : List Nat} {b : Nat} (h : IsLB l b) : 0 < per l b ∧ per l b ≤ l.length := by
  have hb := h.1
  unfold per
  split <;> omega

/-! ### rising lists of the same numbers are one list -/
theorem rising_ext : ∀ {a b : List Int}, a.Pairwise (· < ·) → b.Pairwise (· < ·) → (∀ x, x ∈ a ↔ x ∈ b) → a = b
  | [], [], _, _, _ => rfl
  | [], y :: ys, _, _, h => by have := (h y).mpr (by simp); simp at this
  | x :: xs, [], _, _, h => by have := (h x).mp (by simp); simp at this
  | x :: xs, y :: ys, ha, hb, h => by
    rw [List.pairwise_cons] at ha hb
    have e : x = y := by
      have h1 := (h x).mp (by simp)
      have h2 := (h y).mpr (by simp)
      rw [List.mem_cons] at h1 h2
      rcases h1 with h1 | h1
      · exact h1
      · rcases h2 with h2 | h2
        · exact h2.symm
        · have := ha.1 y h2
          have := hb.1 x h1
          omega
    subst e
    congr 1
    refine rising_ext ha.2 hb.2 fun z => ?_
    constructor
    · intro hz
      have := (h z).mp (List.mem_cons_of_mem _ hz)
      rw [List.mem_cons] at this
      rcases this with rfl | this
      · have := ha.1 _ hz; omega
      · exact this
    · intro hz
      have := (h z).mpr (List.mem_cons_of_mem _ hz)
      rw [List.mem_cons] at this
      rcases this with rfl | this
      · have := hb.1 _ hz; omega
      · exact this
theorem rising_of {s : List Int} (h : s.Pairwise (· ≤ ·)) (n : s.Nodup) : s.Pairwise (· < ·) := by
  have := h.and n
  exact this.imp fun ⟨h1, h2⟩ => by omega
/-- sorted, and the same numbers, none twice: that is it -/
theorem sorted_is {s m d : List Int} (hp : List.Perm s m) (hs : s.Pairwise (· ≤ ·)) (hn : m.Nodup) (hd : d.Pairwise (· < ·)) (h : ∀ x, x ∈ m ↔ x ∈ d) : s = d := by
  refine rising_ext (rising_of hs (hp.nodup_iff.mpr hn)) hd fun x => ?_
  rw [hp.mem_iff]
  exact h x
theorem due_rising (l w : List Nat) : ((due l w).map fun n : Nat => (n : Int)).Pairwise (· < ·) := by
  rw [List.pairwise_map]
  refine List.Pairwise.imp (fun {a b} (h : a < b) => by omega) ?_
  exact List.Pairwise.filter _ List.pairwise_lt_range
end My
namespace My
open PySem L2 PyProof.Rows
/-- a text by its letters -/
abbrev T (l : List Nat) : V := .str ⟨l.toArray⟩
section
variable {X : Cx}
theorem mul_flat (l : List Nat) (n : Nat) : ((List.replicate n l.toArray).foldl (· ++ ·) (#[] : Array Nat)) = (List.replicate n l).flatten.toArray := by
  have h : ∀ (m : Nat) (acc : List Nat), (List.replicate m l.toArray).foldl (· ++ ·) acc.toArray = (acc ++ (List.replicate m l).flatten).toArray := by
    intro m
    induction m with
    | zero => intro acc; simp
    | succ m ih =>
      intro acc
      rw [List.replicate_succ, List.foldl_cons]
      have e : acc.toArray ++ l.toArray = (acc ++ l).toArray := by simp
      rw [e, ih, List.replicate_succ, List.flatten_cons, List.append_assoc]
  have := h n []
  simpa using this
theorem op_mul_str : OpR X (binaryOp .Mult) (fun x y H Q => ∃ l n, x = T l ∧ y = .int (n : Nat) ∧ 1 ≤ n ∧ n ≤ 1000 ∧ l.length ≤ 1000 ∧ Q (T (List.replicate n l).flatten) H) := by
  intro pins s σ H x y v u Q I rx ry h
  obtain ⟨l, n, rfl, rfl, h1, h2, h3, q⟩ := h
  obtain ⟨t, rfl⟩ := rx
  obtain ⟨t', rfl⟩ := ry
  have hlen : (⟨l.toArray⟩ : Str).length = l.length := by simp [Str.length]
  have ok : MulOk ⟨l.toArray⟩ (n : Int) := by
    refine ⟨?_, fun _ _ => ?_, fun _ _ => ?_⟩
    · have a1 : decide ((n : Int) < -(2 ^ 63 : Int)) = false := decide_eq_false (by omega)
      have a2 : decide ((n : Int) ≥ 2 ^ 63) = false := decide_eq_false (by omega)
      rw [a1, a2]
      rfl
    · rw [hlen]
      have : (1000000 : Int) ≤ (2 ^ 63 - 1) / (n : Int) := by
        rw [Int.le_ediv_iff_mul_le (by omega)]
        omega
      omega
    · rw [hlen]
      have e : (n : Int).toNat = n := by omega
      rw [e]
      have : l.length * n ≤ 1000 * 1000 := Nat.mul_le_mul h3 h2
      have z : (1000000 : Nat) ≤ sizeLine := by decide
      simp [Builtin.Str.tooLong]
      omega
  refine SB.mul ok fun t'' k => ?_
  have em : Txt.mul ⟨l.toArray⟩ (n : Int) = ⟨(List.replicate n l).flatten.toArray⟩ := by
    unfold Txt.mul
    rw [if_neg (by omega)]
    split
    · rename_i c
      rw [hlen] at c
      simp at c
      rcases c with c | c
      · have : n = 1 := by omega
        subst this
        simp
      · subst c
        simp
    · have e : (n : Int).toNat = n := by omega
      rw [e]
      exact congrArg Str.mk (mul_flat l n)
  rw [em]
  exact ⟨.str _, H, I.tok _, ⟨_, rfl⟩, q⟩
theorem call_repr_bl : CallR X (.builtin "repr") (fun xs H Q => ∃ b, xs = [.bl b] ∧ Q (.str (if b then "True" else "False")) H) := by
  intro pins s σ H xs us Q I r h
  obtain ⟨b, rfl, q⟩ := h
  obtain ⟨u, rfl, e⟩ := vals1 r
  cases e
  exact PySem.P.repr_of_bool ⟨.str _, H, I.tok _, ⟨_, rfl⟩, q⟩
/-- a module's constant that is an int -/
theorem pe_globI {x : Str} {n : Int} {pos : Pos} (h : ∃ t, X.mg x = some (.int n t)) (hg : Gl X x := by rfl) (hd : (x == ("__debug__" : Str)) = false := by decide) : PE X (.Name x pos) (tC (.int n)) := by
  obtain ⟨t, e⟩ := h
  exact pe_glob (v := .int n) hg e ⟨t, rfl⟩ hd
variable {CX : CXT} {k : Nat} {f : Addr} {fd : FuncData} {ps ks : List Str} {sp : Sp} {E : XK} {x : Str} {p pos : Pos} {kws : List Keyword} {tk : TA} {g : List Value → List Value → List Value} {gV : List V → List V → List V}
/-- f(a=.., b=..) -/
theorem pe_callKK (F : FnOk X.prog X.w X.K X.mg X.base CX k f fd ps sp) (hr : Room k X.A) (hg : Gl X x) (hm : X.mg x = some (.ref f)) (hk : PySem.W.keepIn X.K (.ref f) = true) (hb : KBinds X.K fd ps ks g gV) (hx : Passes CX X E)
    (hkw : PK X kws tk) (hall : (backToKw pos (keywordEach kws X.env)).all (·.1.isSome) = true := by rfl) (hks : (backToKw pos (keywordEach kws X.env)).filterMap (·.1) = ks := by rfl)
    (hdb : (x == ("__debug__" : Str)) = false := by decide)
    (hpl : ((backTo pos (starEach [] X.env)).any (·.1) || (backToKw pos (keywordEach kws X.env)).any (·.1.isNone)) = false := by rfl) :
    PE X (.Call (.Name x p) [] kws pos) (tCallK sp gV E tNil tk) := by
  refine ⟨fun pins s σ H Q I h => ?_⟩
  refine wpAny_Call_Name_kw (ld_glob I hg hm ?_ hdb)
  refine PySem.W.callWith_KW0 (h₀ := X.base) I.ok.mod.kin hk hall (thn (hkw.run pos pins s σ H _ I h) fun ws s2 ⟨zs, H2, I2, rz, q2⟩ => ⟨I2.kIn, ?_⟩) hpl
  rw [hks]
  exact run_fnk F hr hb hx I2 .nil rz q2
end
/-! ### a def that stands, and one that keeps a promise -/
def Def (K : PySem.W.Frag) (mg : Str → Option Value) (x : Str) (st : Stmt) (ps : List Str) : Prop := ∃ (f : Addr) (fd : FuncData), Fun K x x st f fd ∧ mg x = some (.ref f) ∧ Binds K fd ps []
section
variable {P : Program} {w : World} {K : PySem.W.Frag} {mg : Str → Option Value} {base : Heap}
def Good (P : Program) (w : World) (K : PySem.W.Frag) (mg : Str → Option Value) (base : Heap) (x : Str) (st : Stmt) (ps : List Str) (k : Nat) (sp : Sp) : Prop := ∃ (f : Addr) (fd : FuncData), FnOk P w K mg base CX0 k f fd ps sp ∧ mg x = some (.ref f) ∧ PySem.W.keepIn K (.ref f) = true ∧ Binds K fd ps [] ∧ Fun K x x st f fd
theorem Def.good {x : Str} {st : Stmt} {ps : List Str} {k : Nat} {sp : Sp} (D : Def K mg x st ps) (h : ∀ f fd, Fun K x x st f fd → FnOk P w K mg base CX0 k f fd ps sp) : Good P w K mg base x st ps k sp := by
  obtain ⟨f, fd, F, m, b⟩ := D
  exact ⟨f, fd, h f fd F, m, F.kp, b, F⟩
theorem def_mk {h : Heap} (X : K.In h) (G : h.Ns mainGlobals mg) {x : Str} {st : Stmt} {ps : List Str} {f : Addr} {oc : Value} {od an : Option Addr} {osl : Array (Option Value)} {kV doc pm cdv ct : Value} (a : PySem.W.nsIn K mainGlobals x = some (some (.ref f)))
    (l : K.lookup f = some ⟨oc, od, .func (PySem.W.fnOf x x (defArgs st) (defBody st) (defScope st) .none kV doc pm an cdv ct), osl⟩) (c : PySem.W.codeIn K cdv x = true) (k : PySem.W.keepIn K (.ref f) = true)
    (hb : ∀ (kV doc pm : Value) (an : Option Addr) (cdv ct : Value) (us : List Value), us.length = ps.length → bindArgs (PySem.W.fnOf x x (defArgs st) (defBody st) (defScope st) .none kV doc pm an cdv ct) ⟨us, []⟩ = pure (ps.zip us)) : Def K mg x st ps :=
  ⟨f, _, fun_mk l c k, PySem.W.mg_of X G a, (fun_mk l c k).binds hb⟩
theorem fun_kbinds {x qual : Str} {st : Stmt} {f : Addr} {fd : FuncData} {ps ks : List Str} (F : Fun K x qual st f fd) (g : List Value → List Value → List Value) (gV : List V → List V → List V)
    (hrel : ∀ {vs : List V} {us : List Value} {zs : List V} {ws : List Value}, Vals vs us → Vals zs ws → Vals (gV vs zs) (g us ws))
    (h : ∀ (kV doc pm : Value) (an : Option Addr) (cdv ct : Value) (us ws : List Value), (g us ws).length = ps.length → bindArgs (PySem.W.fnOf x qual (defArgs st) (defBody st) (defScope st) .none kV doc pm an cdv ct) ⟨us, ks.zip ws⟩ = pure (ps.zip (g us ws))) : KBinds K fd ps ks g gV := by
  obtain ⟨oc, od, kV, doc, pm, an, cdv, ct, osl, rfl, lk, hcd⟩ := F.ex
  exact ⟨fun s us ws X hl => .of_eq (h kV doc pm an cdv ct us ws hl), hrel⟩
/-- two keywords, in the parameters' order, or turned; one -/
def g12 {α : Type} : List α → List α → List α | [], [a, b] => [a, b] | _, _ => []
def g21 {α : Type} : List α → List α → List α | [], [a, b] => [b, a] | _, _ => []
def g1 {α : Type} : List α → List α → List α | [], [a] => [a] | _, _ => []
theorem g12_inv {α : Type} {us ws : List α} (h : (g12 us ws).length = 2) : us = [] ∧ ∃ a b, ws = [a, b] := by
  match us, ws, h with
  | [], [a, b], _ => exact ⟨rfl, a, b, rfl⟩
  | [], [], h => exact absurd h (by simp [g12, g21, g1])
  | [], [_], h => exact absurd h (by simp [g12])
  | [], _ :: _ :: _ :: _, h => exact absurd h (by simp [g12])
  | _ :: _, _, h => exact absurd h (by simp [g12])
theorem g21_inv {α : Type} {us ws : List α} (h : (g21 us ws).length = 2) : us = [] ∧ ∃ a b, ws = [a, b] := by
  match us, ws, h with
  | [], [a, b], _ => exact ⟨rfl, a, b, rfl⟩
  | [], [], h => exact absurd h (by simp [g12, g21, g1])
  | [], [_], h => exact absurd h (by simp [g21])
  | [], _ :: _ :: _ :: _, h => exact absurd h (by simp [g21])
  | _ :: _, _, h => exact absurd h (by simp [g21])
theorem g1_inv {α : Type} {us ws : List α} (h : (g1 us ws).length = 1) : us = [] ∧ ∃ a, ws = [a] := by
  match us, ws, h with
  | [], [a], _ => exact ⟨rfl, a, rfl⟩
  | [], [], h => exact absurd h (by simp [g12, g21, g1])
  | [], _ :: _ :: _, h => exact absurd h (by simp [g1])
  | _ :: _, _, h => exact absurd h (by simp [g1])
theorem rel12 {vs : List V} {us : List Value} {zs : List V} {ws : List Value} (a : Vals vs us) (b : Vals zs ws) : Vals (g12 vs zs) (g12 us ws) := by
  cases a with
  | nil =>
    cases b with
    | nil => exact .nil
    | cons r b =>
      cases b with
      | nil => exact .nil
      | cons r2 b =>
        cases b with
        | nil => exact .cons r (.cons r2 .nil)
        | cons r3 b => exact .nil
  | cons r a => exact .nil
theorem rel21 {vs : List V} {us : List Value} {zs : List V} {ws : List Value} (a : Vals vs us) (b : Vals zs ws) : Vals (g21 vs zs) (g21 us ws) := by
  cases a with
  | nil =>
    cases b with
    | nil => exact .nil
    | cons r b =>
      cases b with
      | nil => exact .nil
      | cons r2 b =>
        cases b with
        | nil => exact .cons r2 (.cons r .nil)
        | cons r3 b => exact .nil
  | cons r a => exact .nil
theorem rel1 {vs : List V} {us : List Value} {zs : List V} {ws : List Value} (a : Vals vs us) (b : Vals zs ws) : Vals (g1 vs zs) (g1 us ws) := by
  cases a with
  | nil =>
    cases b with
    | nil => exact .nil
    | cons r b =>
      cases b with
      | nil => exact .cons r .nil
      | cons r3 b => exact .nil
  | cons r a => exact .nil
end
end My
namespace My
open PySem L2 PyProof.Rows
theorem bl_is1 {x : Bool} {Q : VK} {H : Hp} (h : x = true) (q : Q (.bl true) H) : Q (.bl x) H := by
  rw [h]
  exact q
/-! ### a list that nobody asks for any more is forgotten -/
section
variable {X : Cx} {pins : List (Addr × Obj)} {σ : L2.St} {H1 H2 : Hp} {s : Shared} {D : Addr} {xs : List V}
theorem inv_drop (I : Inv X pins σ H1 s) (e : H1 = upd H2 D (.lst xs)) (n : H2 D = none) : Inv X pins σ H2 s := by
  subst e
  have off : ∀ b, upd H2 D (.lst xs) b = none → H2 b = none := fun b h => by
    by_cases hb : b = D
    · rw [hb]; exact n
    · rw [upd_ne hb] at h; exact h
  have back : ∀ b o, o ≠ HO.lst xs → upd H2 D (.lst xs) b = some o → H2 b = some o := fun b o ho h => by
    by_cases hb : b = D
    · subst hb
      rw [upd_same] at h
      exact absurd (Option.some.inj h).symm ho
    · rw [upd_ne hb] at h; exact h
  refine ⟨I.ok, I.os, I.bare, ?_, I.loc, I.cell, off _ I.free, fun x c h => off _ (I.freeC x c h), fun p hp => ?_, ?_, I.len⟩
  · have u := I.base
    refine ⟨u.keep, u.slot, fun b o h1 h2 h3 => off _ (u.free b o h1 h2 h3), u.there, fun b ys h => back _ _ (by intro z; cases z) (u.tups b ys h), fun b o v h => back _ _ (by intro z; cases z) (u.frzs b o v h), fun b ps h => ?_⟩
    obtain ⟨more, h⟩ := u.tbls b ps h
    exact ⟨more, back _ _ (by intro z; cases z) h⟩
  · obtain ⟨a, b, c⟩ := I.pin p hp
    exact ⟨a, off _ b, c⟩
  · intro a o h
    have ha : a ≠ D := fun z => by rw [z, n] at h; cases h
    refine (I.hok a o (by rw [upd_ne ha]; exact h)).stay (fun _ _ _ z => z) (fun b h => back _ _ (by intro z; cases z) h) (fun b ys h => back _ _ (by intro z; cases z) h)
theorem pe_drop {e : Expr} {te : TE} (he : PE X e te) : PE X e (fun σ H Q => te σ H fun v H1 => ∃ D xs H2, H1 = upd H2 D (.lst xs) ∧ H2 D = none ∧ Q v H2) := by
  refine ⟨fun pins s σ H Q I h => ?_⟩
  exact wpAny_mono (he.run pins s σ H _ I h) (fun u s1 ⟨v, H1, I1, r, D, xs, H2, e, n, q⟩ => ⟨v, H2, inv_drop I1 e n, r, q⟩) fun _ _ h => h
theorem ix_seqK {K : PySem.W.Frag} (h : X.K = K) : IxR X (rIx K) := h ▸ ix_seq
end
end My
namespace My
open PySem L2 PyProof.Rows
/-! ### methods, properties, __init__ of a class at C -/
section
variable {P : Program} {w : World} {K : PySem.W.Frag} {mg : Str → Option Value} {base : Heap} {C : Addr}
def DefM (K : PySem.W.Frag) (C : Addr) (x qual : Str) (st : Stmt) (ps : List Str) : Prop := ∃ (f : Addr) (fd : FuncData), Fun K x qual st f fd ∧ Meth K C x f ∧ Binds K fd ps []
def DefP (K : PySem.W.Frag) (C : Addr) (x qual : Str) (st : Stmt) (ps : List Str) : Prop := ∃ (p f : Addr) (fd : FuncData), Fun K x qual st f fd ∧ PropOf K C x p f ∧ Binds K fd ps []
def DefI (K : PySem.W.Frag) (C : Addr) (x qual : Str) (st : Stmt) (ps : List Str) : Prop := ∃ (f : Addr) (fd : FuncData), Fun K x qual st f fd ∧ Mk K C f ∧ Binds K fd ps []
def GoodM (P : Program) (w : World) (K : PySem.W.Frag) (mg : Str → Option Value) (base : Heap) (C : Addr) (x qual : Str) (st : Stmt) (ps : List Str) (k : Nat) (sp : Sp) : Prop := ∃ (f : Addr) (fd : FuncData), FnOk P w K mg base CX0 k f fd ps sp ∧ Meth K C x f ∧ Binds K fd ps [] ∧ Fun K x qual st f fd
def GoodP (P : Program) (w : World) (K : PySem.W.Frag) (mg : Str → Option Value) (base : Heap) (C : Addr) (x _qual : Str) (_st : Stmt) (ps : List Str) (k : Nat) (sp : Sp) : Prop := ∃ (p f : Addr) (fd : FuncData), FnOk P w K mg base CX0 k f fd ps sp ∧ PropOf K C x p f ∧ Binds K fd ps []
def GoodI (P : Program) (w : World) (K : PySem.W.Frag) (mg : Str → Option Value) (base : Heap) (C : Addr) (x _qual : Str) (_st : Stmt) (ps : List Str) (k : Nat) (sp : Sp) : Prop := ∃ (f : Addr) (fd : FuncData), FnOk P w K mg base CX0 k f fd ps sp ∧ Mk K C f ∧ Binds K fd ps []
theorem DefM.good {x qual : Str} {st : Stmt} {ps : List Str} {k : Nat} {sp : Sp} (D : DefM K C x qual st ps) (h : ∀ f fd, Fun K x qual st f fd → FnOk P w K mg base CX0 k f fd ps sp) : GoodM P w K mg base C x qual st ps k sp := by
  obtain ⟨f, fd, F, m, b⟩ := D
  exact ⟨f, fd, h f fd F, m, b, F⟩
theorem DefP.good {x qual : Str} {st : Stmt} {ps : List Str} {k : Nat} {sp : Sp} (D : DefP K C x qual st ps) (h : ∀ f fd, Fun K x qual st f fd → FnOk P w K mg base CX0 k f fd ps sp) : GoodP P w K mg base C x qual st ps k sp := by
  obtain ⟨p, f, fd, F, m, b⟩ := D
  exact ⟨p, f, fd, h f fd F, m, b⟩
theorem DefI.good {x qual : Str} {st : Stmt} {ps : List Str} {k : Nat} {sp : Sp} (D : DefI K C x qual st ps) (h : ∀ f fd, Fun K x qual st f fd → FnOk P w K mg base CX0 k f fd ps sp) : GoodI P w K mg base C x qual st ps k sp := by
  obtain ⟨f, fd, F, m, b⟩ := D
  exact ⟨f, fd, h f fd F, m, b⟩
end
def g123 {α : Type} : List α → List α → List α | [], [a, b, c] => [a, b, c] | _, _ => []
theorem g123_inv {α : Type} {us ws : List α} (h : (g123 us ws).length = 3) : us = [] ∧ ∃ a b c, ws = [a, b, c] := by
  unfold g123 at h
  split at h
  · exact ⟨rfl, _, _, _, rfl⟩
  · simp at h
theorem rel123 {vs : List V} {us : List Value} {zs : List V} {ws : List Value} (a : Vals vs us) (b : Vals zs ws) : Vals (g123 vs zs) (g123 us ws) := by
  cases a with
  | cons h t => exact .nil
  | nil => cases b with
    | nil => exact .nil
    | cons h1 t => cases t with
      | nil => exact .nil
      | cons h2 t => cases t with
        | nil => exact .nil
        | cons h3 t => cases t with
          | nil => exact .cons h1 (.cons h2 (.cons h3 .nil))
          | cons h4 t => exact .nil
/-- self, then one keyword -/
def gm1 {α : Type} : List α → List α → List α | [a], [b] => [a, b] | _, _ => []
theorem gm1_inv {α : Type} {us ws : List α} (h : (gm1 us ws).length = 2) : ∃ a b, us = [a] ∧ ws = [b] := by
  unfold gm1 at h
  split at h
  · exact ⟨_, _, rfl, rfl⟩
  · simp at h
theorem relm1 {vs : List V} {us : List Value} {zs : List V} {ws : List Value} (a : Vals vs us) (b : Vals zs ws) : Vals (gm1 vs zs) (gm1 us ws) := by
  cases a with
  | nil => exact .nil
  | cons h t => cases t with
    | cons h2 t => exact .nil
    | nil => cases b with
      | nil => exact .nil
      | cons h1 t => cases t with
        | nil => exact .cons h (.cons h1 .nil)
        | cons h2 t => exact .nil
/-! ### a list or a tuple, gone through -/
section
variable {X : Cx}
theorem pi_or {tg e : Expr} {w1 w2 : TI} (h1 : PI X tg e w1) (h2 : PI X tg e w2) : PI X tg e (fun σ H R => w1 σ H R ∨ w2 σ H R) := by
  constructor
  intro pins s σ H R I h
  rcases h with h | h
  · exact h1.run pins s σ H R I h
  · exact h2.run pins s σ H R I h
end
end My
namespace My
open PySem PySem.W L2 L2.DX PyProof.Rows
/-! ### d.items() of a dict by texts, sorted -/
section
variable {X : Cx}
def rItemsK : V → List V → Hp → VK → Prop := fun x xs H Q => ∃ (a : Addr) (kvs : List (Key × V)), x = .ref a ∧ xs = [] ∧ H a = some (.dK kvs) ∧ ∀ p, H p = none → Q (.ref p) (upd H p (itemsO p a))
theorem mt_itemsK : MtR X "dict.items" rItemsK := by
  intro pins s σ H x xs v us Q I rx rxs h
  obtain ⟨d, kvs, rfl, rfl, hd0, q⟩ := h
  cases rx
  cases rxs
  obtain ⟨_, hd, vs, rel, dof⟩ := dk_of I.hok hd0
  obtain ⟨es, ep, raw, _, _⟩ := PySem.Heap.DictOf.raw dof
  exact DT.callItems (es := es) (ep := ep) hd raw ⟨.ref s.heap.objs.size, upd H s.heap.objs.size (itemsO s.heap.objs.size d), I.laid (t' := s.toks) (fun b u e => Heap.get?_push_of_some _ e) (Nat.le_refl _) (itemsO_ok (Heap.get?_push_size _ rfl)), rfl, q _ (I.hok.fresh (Nat.le_refl _))⟩
/-- an entry: a text and a number -/
abbrev entSI (e : Str × Int) : Key × V := (Sum.inr e.1, .int e.2)
abbrev encSI (e : Str × Int) : PyData := .tuple [.str e.1, .int e.2]
theorem kv_at : ∀ {kvs : List (Key × V)} {vs : List (Key × Value)}, KV kvs vs → ∀ {j : Nat} {p : Key × V}, kvs[j]? = some p → ∃ q, vs[j]? = some q ∧ p.1 = q.1 ∧ RelV p.2 q.2
  | _, _, .nil, _, _, h => by simp at h
  | _, _, .cons r _, 0, _, h => by
    cases h
    exact ⟨_, rfl, r⟩
  | _, _, .cons _ t, j + 1, p, h => by
    obtain ⟨q, h1, h2⟩ := kv_at t (j := j) (by simpa using h)
    exact ⟨q, by simpa using h1, h2⟩
theorem eachIs_of {α β : Type} {R : α → β → Prop} : ∀ {as : List α} {bs : List β}, as.length = bs.length → (∀ (j : Nat) (a : α) (b : β), as[j]? = some a → bs[j]? = some b → R a b) → PySem.W.EachIs R as bs
  | [], [], _, _ => .nil
  | [], _ :: _, h, _ => by simp at h
  | _ :: _, [], h, _ => by simp at h
  | a :: as, b :: bs, h, k => .cons (k 0 a b rfl rfl) (eachIs_of (by simpa using h) fun j x y hx hy => k (j + 1) x y (by simpa using hx) (by simpa using hy))
theorem encSI_alike (kvs : List (Str × Int)) : AllAlike (kvs.map encSI) := by
  intro d hd d' hd'
  obtain ⟨e, _, rfl⟩ := List.mem_map.mp hd
  obtain ⟨e', _, rfl⟩ := List.mem_map.mp hd'
  rfl
theorem encSI_sortable (kvs : List (Str × Int)) : Sortable (kvs.map encSI) := .tuples fun b => ⟨_, _, rfl⟩
theorem eachIs_refs {β : Type} {as : List Addr} {bs : List β} : ∀ {out : List Value} {cs : List β}, PySem.W.EachIs (fun v b => ∃ (j : Nat) (x : Addr), v = Value.ref x ∧ as[j]? = some x ∧ bs[j]? = some b) out cs →
    ∃ ts : List Addr, out = ts.map Value.ref ∧ Paired (fun (x : Addr) (b : β) => ∃ j : Nat, as[j]? = some x ∧ bs[j]? = some b) ts cs
  | _, _, .nil => ⟨[], rfl, .nil⟩
  | _, _, .cons h t => by
    obtain ⟨j, x, rfl, h1, h2⟩ := h
    obtain ⟨ts, rfl, hp⟩ := eachIs_refs t
    exact ⟨x :: ts, rfl, .cons ⟨j, h1, h2⟩ hp⟩
theorem paired_imp {α β : Type} {F G : α → β → Prop} (h : ∀ a b, F a b → G a b) : ∀ {l1 : List α} {l2 : List β}, Paired F l1 l2 → Paired G l1 l2
  | _, _, .nil => .nil
  | _, _, .cons a r => .cons (h _ _ a) (paired_imp h r)
theorem vals_refs : ∀ ts : List Addr, Vals (ts.map V.ref) (ts.map Value.ref)
  | [] => .nil
  | _ :: r => .cons rfl (vals_refs r)
/-- the told list is new, its pairs too -/
def rSortItK : List V → Hp → VK → Prop := fun vs H Q => ∃ (p a : Addr) (kvs : List (Str × Int)), vs = [.ref p] ∧ H p = some (itemsO p a) ∧ H a = some (.dK (kvs.map entSI)) ∧ kvs.length ≤ 100000 ∧
  ∀ (H' : Hp) (l : Addr) (ts : List Addr), (∀ b o, H b = some o → H' b = some o) → H l = none → H' l = some (.lst (ts.map V.ref)) → Paired (fun t (e : Str × Int) => H' t = some (.tup [.str e.1, .int e.2])) ts (kvs.mergeSort (dataLe false encSI)) → Q (.ref l) H'
theorem cr_sortItK (hc : X.calm = true) (hu : X.A.units + 64 < cLine) : CallR X (.builtin "sorted") rSortItK := by
  intro pins s σ H xs us Q I r h
  obtain ⟨p, a, kvs, rfl, hp, ha, hlen, q⟩ := h
  obtain rfl := Vals.ref1 r
  have vw : s.heap.IsItemsView p a := by
    have z : ObjOk X.prog X.w H s.heap p (itemsO p a) := I.hok p _ hp
    exact z.1
  obtain ⟨_, hd, vs, rel, dof⟩ := dk_of I.hok ha
  obtain ⟨es, ep, raw, hsz, hent⟩ := PySem.Heap.DictOf.raw dof
  have l1 : vs.length = kvs.length := by
    have := Paired.length rel
    rw [List.length_map] at this
    exact this.symm
  have small : kvs.length ≤ sizeLine := Nat.le_trans hlen (by decide)
  refine DT.sortedI (es := es) (ep := ep) (I.ok.hd hc) vw raw (by rw [hsz, l1]; exact small) fun h' tk as kpt hlt hl mde => ?_
  have lak : as.length = kvs.length := by rw [hl, hsz, l1]
  have nod : as.Nodup := List.Pairwise.imp (fun h => Nat.ne_of_lt h) mde.rise
  have pr : ∀ (j : Nat) (b : Addr), as[j]? = some b → ∃ (e : Str × Int) (t t' : Tok), kvs[j]? = some e ∧ h'.get? b = some { cls := .type "tuple", data := .seq #[Value.str e.1 t, Value.int e.2 t'] } := fun j b ej => by
    obtain ⟨en, ee, gh⟩ := mde.pairs j b ej
    have hj2 : j < es.size := (Array.getElem?_eq_some_iff.mp ee).1
    have hj3 : j < kvs.length := by rw [← l1, ← hsz]; exact hj2
    obtain ⟨⟨k, v⟩, g1, g2, g3⟩ := kv_at rel (j := j) (p := entSI kvs[j]) (by rw [List.getElem?_map, List.getElem?_eq_getElem hj3]; rfl)
    obtain ⟨m1, m2⟩ := hent j hj2 k v g1
    have e1 : es[j] = en := (Array.getElem?_eq_some_iff.mp ee).2
    rw [e1] at m1 m2
    have g2' : k = Sum.inr kvs[j].1 := g2.symm
    subst g2'
    obtain ⟨t', ev⟩ : ∃ t', v = Value.int kvs[j].2 t' := g3
    rcases keyIs_shape (show keyIs (Sum.inr kvs[j].1) en.key = true from m1) with ⟨i, t, z, _⟩ | ⟨x, t, z, ek⟩
    · cases z
    · have ex : kvs[j].1 = x := Sum.inr.inj z
      refine ⟨kvs[j], t, t', List.getElem?_eq_getElem hj3, ?_⟩
      rw [gh, ek, m2, ev, ex]
  have gl : (h'.push { cls := .type "list", data := .seq (as.map Value.ref).toArray }).get? h'.objs.size = some (seqObj "list" (as.map Value.ref).toArray 0) := Heap.get?_push_size _ rfl
  have far : ∀ b o, h'.get? b = some o → b ≠ h'.objs.size := fun b o e => Nat.ne_of_lt (Heap.lt_size e)
  have kp : ∀ b o, h'.get? b = some o → (h'.push { cls := .type "list", data := .seq (as.map Value.ref).toArray }).get? b = some o := fun b o e => Heap.get?_push_of_some _ e
  generalize h'.push { cls := .type "list", data := .seq (as.map Value.ref).toArray } = h2 at gl kp ⊢
  have at_ : ∀ (j : Nat) (v : Value) (e : Str × Int), (as.map Value.ref)[j]? = some v → kvs[j]? = some e → ∃ b, v = .ref b ∧ as[j]? = some b := fun j v e hv _ => by
    rw [List.getElem?_map] at hv
    cases z : as[j]? with
    | none => rw [z] at hv; cases hv
    | some b => rw [z] at hv; exact ⟨b, (Option.some.inj hv).symm, rfl⟩
  refine list_sort_data (s := { s with heap := h2, toks := tk }) (R := fun v e => ∃ (j : Nat) (x : Addr), v = Value.ref x ∧ as[j]? = some x ∧ kvs[j]? = some e) (enc := encSI) (bs := kvs) gl (eachIs_of (by rw [List.length_map]; exact lak) fun j v e hv ee => ?_) (eachIs_of (by rw [List.length_map]; exact lak) fun j v e hv ee => ?_) (encSI_alike kvs) (encSI_sortable kvs) small (fun b _ => ?_) fun out ho1 ho2 => ?_
  · obtain ⟨b, e1, e2⟩ := at_ j v e hv ee
    exact ⟨j, b, e1, e2, ee⟩
  · obtain ⟨b, rfl, e2⟩ := at_ j v e hv ee
    obtain ⟨e', t, t', g1, g2⟩ := pr j b e2
    rw [ee] at g1
    cases g1
    exact ⟨[] ++ ([] ++ []), .tuple (kp _ _ g2) rfl rfl (.cons (.str _ _) (.cons (.int _ _) .nil)), by simp⟩
  · show X.A.units + 1 + 1 + 1 < cLine
    omega
  obtain ⟨ts, rfl, hts⟩ := eachIs_refs ho2
  show EP X pins σ Q (.ref h'.objs.size) { s with heap := sortedHeap h2 h'.objs.size (as.map Value.ref) (ts.map Value.ref).toArray, toks := tk }
  have kF : ∀ b o, b ≠ h'.objs.size → h2.get? b = some o → (sortedHeap h2 h'.objs.size (as.map Value.ref) (ts.map Value.ref).toArray).get? b = some o := fun b o hb e => (PyProof.Rows.sortedHeap_old hb (Heap.lt_size e)).trans e
  have kS : ∀ b o, s.heap.get? b = some o → (sortedHeap h2 h'.objs.size (as.map Value.ref) (ts.map Value.ref).toArray).get? b = some o := fun b o e => kF b o (far _ _ (kpt b o e)) (kp b o (kpt b o e))
  obtain ⟨eF, heF⟩ := PyProof.Rows.sortedHeap_at (vs := as.map Value.ref) (out := (ts.map Value.ref).toArray) gl
  generalize sortedHeap h2 h'.objs.size (as.map Value.ref) (ts.map Value.ref).toArray = hz at kF kS heF ⊢
  have free0 : H h'.objs.size = none := I.hok.fresh (Nat.le_of_lt hlt)
  have htl : (ts.map V.ref).length ≤ sizeLine := by
    rw [List.length_map] at ho1 ⊢
    rw [ho1]
    exact small
  have I2 : Inv X pins σ (upd H h'.objs.size (.lst (ts.map V.ref))) { s with heap := hz, toks := tk } :=
    (I.kept (t' := tk) kS).take (h' := hz) (t' := tk) (fun b ob _ e => e) (I.fpOk (Nat.le_of_lt hlt) free0) ⟨htl, ts.map Value.ref, eF, vals_refs ts, heF⟩
  obtain ⟨H2, I3, g, qt⟩ := takeT (P := fun b vs => ∃ (j : Nat) (e : Str × Int), as[j]? = some b ∧ kvs[j]? = some e ∧ vs = [.str e.1, .int e.2]) I as _ I2 nod fun b hb => by
    obtain ⟨j, ej⟩ := List.mem_iff_getElem?.mp hb
    obtain ⟨e, t, t', ee, gh⟩ := pr j b ej
    have big : s.heap.objs.size ≤ b := Nat.le_of_lt (mde.above b hb)
    refine ⟨big, by rw [upd_ne (far _ _ gh)]; exact I.hok.fresh big, [.str e.1, .int e.2], ⟨j, e, ej, ee, rfl⟩, fun H3 => ⟨(by show 2 ≤ sizeLine; decide), [Value.str e.1 t, Value.int e.2 t'], .cons ⟨t, rfl⟩ (.cons ⟨t', rfl⟩ .nil), ⟨_, kF _ _ (far _ _ gh) (kp _ _ gh), rfl, 0, rfl⟩⟩⟩
  refine ⟨.ref h'.objs.size, H2, I3, rfl, q H2 h'.objs.size ts (fun b o e => g b o (by rw [upd_ne (ne_of_none e free0)]; exact e)) free0 (g _ _ upd_same) (paired_imp (fun x e hx => ?_) hts)⟩
  obtain ⟨i, i1, i2⟩ := hx
  obtain ⟨vs', ⟨j, e', j1, j2, ev⟩, hH⟩ := qt x (List.mem_of_getElem? i1)
  have eqi : i = j := (List.getElem?_inj (List.getElem?_eq_some_iff.mp i1).1 nod).mp (i1.trans j1.symm)
  subst eqi
  rw [i2] at j2
  cases j2
  rw [ev] at hH
  exact hH
end
end My
namespace My
open PySem PySem.W L2 L2.DX PyProof.Rows
section
variable {X : Cx}
theorem dp_at {K : PySem.W.Frag} {H : Hp} : ∀ {ys : List V} {ds : List PyData}, DpAll K H ys ds → ∀ {j : Nat} {y : V} {d : PyData}, ys[j]? = some y → ds[j]? = some d → Dp K H y d
  | _, _, .nil, _, _, _, h, _ => by simp at h
  | _, _, .cons p _, 0, _, _, h, k => by
    cases h
    cases k
    exact p
  | _, _, .cons _ t, j + 1, _, _, h, k => dp_at t (j := j) (by simpa using h) (by simpa using k)
theorem dp_len {K : PySem.W.Frag} {H : Hp} : ∀ {ys : List V} {ds : List PyData}, DpAll K H ys ds → ys.length = ds.length
  | _, _, .nil => rfl
  | _, _, .cons _ t => congrArg Nat.succ (dp_len t)
theorem vals_at : ∀ {ys : List V} {us : List Value}, Vals ys us → ∀ {j : Nat} {u : Value}, us[j]? = some u → ∃ y, ys[j]? = some y ∧ RelV y u
  | _, _, .nil, _, _, h => by simp at h
  | _, _, .cons r _, 0, _, h => by
    cases h
    exact ⟨_, rfl, r⟩
  | _, _, .cons _ t, j + 1, _, h => by
    obtain ⟨y, h1, h2⟩ := vals_at t (j := j) (by simpa using h)
    exact ⟨y, by simpa using h1, h2⟩
theorem out_vals {ys : List V} {ds : List PyData} : ∀ {out : List Value} {cs : List PyData}, PySem.W.EachIs (fun v d => ∃ (j : Nat) (y : V), ys[j]? = some y ∧ ds[j]? = some d ∧ RelV y v) out cs →
    ∃ zs : List V, Vals zs out ∧ Paired (fun (z : V) (d : PyData) => ∃ j : Nat, ys[j]? = some z ∧ ds[j]? = some d) zs cs
  | _, _, .nil => ⟨[], .nil, .nil⟩
  | _, _, .cons h t => by
    obtain ⟨j, y, h1, h2, h3⟩ := h
    obtain ⟨zs, g1, g2⟩ := out_vals t
    exact ⟨y :: zs, .cons h3 g1, .cons ⟨j, h1, h2⟩ g2⟩
theorem vals_len : ∀ {ys : List V} {us : List Value}, Vals ys us → ys.length = us.length
  | _, _, .nil => rfl
  | _, _, .cons _ t => congrArg Nat.succ (vals_len t)
/-- sorted(xs), data of one shape: the items are set in sequence by what they are -/
def rSortD (K : PySem.W.Frag) : List V → Hp → VK → Prop := fun vs H Q => ∃ (a : Addr) (ys : List V) (ds : List PyData), vs = [.ref a] ∧ SqL K H a ys ∧ DpAll K H ys ds ∧ AllAlike ds ∧ Sortable ds ∧ (∀ d ∈ ds, d.depth ≤ 8) ∧ ys.length ≤ 100000 ∧
  ∀ (zs : List V) (p : Addr), Paired (fun (z : V) (d : PyData) => ∃ j : Nat, ys[j]? = some z ∧ ds[j]? = some d) zs (ds.mergeSort (dataLe false id)) → H p = none → Q (.ref p) (upd H p (.lst zs))
theorem cr_sortD (hu : X.A.units + 64 < cLine) : CallR X (.builtin "sorted") (rSortD X.K) := by
  intro pins s σ H xs us Q I r h
  obtain ⟨a, ys, ds, rfl, hs, hd, hal, hk, hdp, hlen, q⟩ := h
  obtain rfl := Vals.ref1 r
  obtain ⟨its, rv, pl, _⟩ := I.list hs
  have li : its.length = ds.length := by rw [← vals_len rv]; exact dp_len hd
  have small : ds.length ≤ sizeLine := by rw [← dp_len hd]; exact Nat.le_trans hlen (by decide)
  refine sorted_data (R := fun v d => ∃ (j : Nat) (y : V), ys[j]? = some y ∧ ds[j]? = some d ∧ RelV y v) (enc := id) (bs := ds) pl.isList (eachIs_of li fun j v d hv he => ?_) (eachIs_of li fun j v d hv he => ?_) (by rw [List.map_id]; exact hal) (by rw [List.map_id]; exact hk) small (fun d hdm => ?_) fun out ho1 ho2 => ?_
  · obtain ⟨y, g1, g2⟩ := vals_at rv hv
    exact ⟨j, y, g1, he, g2⟩
  · obtain ⟨y, g1, g2⟩ := vals_at rv hv
    exact Dp.reads I d y v (dp_at hd g1 he) g2
  · have := hdp d hdm
    show X.A.units + 2 + d.depth < cLine
    omega
  obtain ⟨zs, hz, hp⟩ := out_vals ho2
  obtain ⟨eF, heF⟩ := PyProof.Rows.sortedAll_at s.heap its out.toArray
  have hzl : zs.length ≤ sizeLine := by rw [vals_len hz, ho1]; exact small
  exact ⟨.ref (s.heap.objs.size + 1), upd H (s.heap.objs.size + 1) (.lst zs), I.laid (t' := s.toks) (fun _ _ => PyProof.Rows.sortedAll_old) (Nat.le_succ _) ⟨hzl, out, eF, hz, heF⟩, rfl, q zs _ hp (I.hok.fresh (Nat.le_succ _))⟩
end
end My
namespace My
open PySem PySem.W L2 PyProof.Rows
/-! ### told lists: texts with numbers, rising by the texts -/
theorem strict_ext {α : Type} {r : α → α → Prop} (irr : ∀ a, ¬ r a a) (tr : ∀ a b c, r a b → r b c → r a c) : ∀ {a b : List α}, a.Pairwise r → b.Pairwise r → (∀ x, x ∈ a ↔ x ∈ b) → a = b
  | [], [], _, _, _ => rfl
  | [], y :: ys, _, _, h => absurd ((h y).mpr List.mem_cons_self) (by simp)
  | x :: xs, [], _, _, h => absurd ((h x).mp List.mem_cons_self) (by simp)
  | x :: xs, y :: ys, hx, hy, h => by
    have hx' := List.pairwise_cons.mp hx
    have hy' := List.pairwise_cons.mp hy
    have e : x = y := by
      rcases List.mem_cons.mp ((h x).mp List.mem_cons_self) with z | z
      · exact z
      · rcases List.mem_cons.mp ((h y).mpr List.mem_cons_self) with z2 | z2
        · exact z2.symm
        · exact absurd (tr _ _ _ (hx'.1 y z2) (hy'.1 x z)) (irr x)
    subst e
    refine congrArg (x :: ·) (strict_ext irr tr hx'.2 hy'.2 fun z => ?_)
    constructor
    · intro hz
      rcases List.mem_cons.mp ((h z).mp (List.mem_cons_of_mem _ hz)) with q | q
      · exact absurd (by rw [q] at hz; exact hx'.1 x hz) (irr x)
      · exact q
    · intro hz
      rcases List.mem_cons.mp ((h z).mpr (List.mem_cons_of_mem _ hz)) with q | q
      · exact absurd (by rw [q] at hz; exact hy'.1 x hz) (irr x)
      · exact q
def sLt (x y : Str) : Prop := x.cps.toList < y.cps.toList
instance (x y : Str) : Decidable (sLt x y) := by unfold sLt; exact inferInstance
theorem sLt_irr (x : Str) : ¬ sLt x x := List.lt_irrefl _
theorem sLt_trans {x y z : Str} (h : sLt x y) (k : sLt y z) : sLt x z := List.lt_trans h k
theorem sLt_total (x y : Str) : sLt x y ∨ x = y ∨ sLt y x := by
  by_cases h : sLt x y
  · exact .inl h
  · by_cases k : sLt y x
    · exact .inr (.inr k)
    · exact .inr (.inl (str_of_cps (List.le_antisymm (List.not_lt.mp k) (List.not_lt.mp h))))
theorem dataLt_si (x x' : Str) (y y' : Int) : dataLt (.tuple [.str x, .int y]) (.tuple [.str x', .int y']) = decide (sLt x x' ∨ (x = x' ∧ y < y')) := by
  rw [dataLt_pair (by simp [alike]) (by simp [alike]), dataLt_str, dataLt_int]
  have e1 : PyData.eqv (.str x) (.str x') = decide (x = x') := by
    by_cases h : x = x'
    · subst h; simp [PyData.eqv]
    · simp [PyData.eqv, h]
  have e2 : PyData.eqv (.int y) (.int y') = decide (y = y') := by
    by_cases h : y = y'
    · subst h; simp [PyData.eqv]
    · simp [PyData.eqv, h]
  rw [e1, e2]
  by_cases h : x = x'
  · subst h
    have n := sLt_irr x
    by_cases h2 : y = y'
    · subst h2
      simp [n]
    · simp [h2, n]
  · by_cases h3 : sLt x x'
    · have h4 := h3
      unfold sLt at h4
      simp [h, h3, h4]
    · have h4 := h3
      unfold sLt at h4
      simp [h, h3, h4]
abbrev leSI (e f : Str × Int) : Bool := decide (sLt e.1 f.1 ∨ (e.1 = f.1 ∧ e.2 ≤ f.2))
theorem dataLe_si : dataLe false encSI = leSI := by
  funext e f
  show (!dataLt (.tuple [.str f.1, .int f.2]) (.tuple [.str e.1, .int e.2])) = _
  rw [dataLt_si]
  by_cases h : sLt f.1 e.1 ∨ (f.1 = e.1 ∧ f.2 < e.2)
  · have h' : ¬ (sLt e.1 f.1 ∨ (e.1 = f.1 ∧ e.2 ≤ f.2)) := by
      rintro (z | ⟨z, z2⟩)
      · rcases h with k | ⟨k, k2⟩
        · exact sLt_irr _ (sLt_trans z k)
        · rw [k] at z; exact sLt_irr _ z
      · rcases h with k | ⟨k, k2⟩
        · rw [z] at k; exact sLt_irr _ k
        · omega
    simp [h, leSI, h']
  · have h' : sLt e.1 f.1 ∨ (e.1 = f.1 ∧ e.2 ≤ f.2) := by
      rcases sLt_total e.1 f.1 with z | z | z
      · exact .inl z
      · refine .inr ⟨z, ?_⟩
        rcases Int.lt_or_le f.2 e.2 with k | k
        · exact absurd (.inr ⟨z.symm, k⟩) h
        · exact k
      · exact absurd (.inl z) h
    simp only [decide_eq_true h', leSI, decide_eq_false h, Bool.not_false]
theorem leSI_trans (a b c : Str × Int) (h : leSI a b = true) (k : leSI b c = true) : leSI a c = true := by
  have h1 := of_decide_eq_true h
  have k1 := of_decide_eq_true k
  refine decide_eq_true ?_
  rcases h1 with z | ⟨z, z2⟩
  · rcases k1 with w | ⟨w, w2⟩
    · exact .inl (sLt_trans z w)
    · rw [w] at z; exact .inl z
  · rcases k1 with w | ⟨w, w2⟩
    · rw [← z] at w; exact .inl w
    · exact .inr ⟨z.trans w, by omega⟩
theorem leSI_total (a b : Str × Int) : (leSI a b || leSI b a) = true := by
  rw [Bool.or_eq_true]
  rcases sLt_total a.1 b.1 with z | z | z
  · exact .inl (decide_eq_true (.inl z))
  · rcases Int.le_total a.2 b.2 with k | k
    · exact .inl (decide_eq_true (.inr ⟨z, k⟩))
    · exact .inr (decide_eq_true (.inr ⟨z.symm, k⟩))
  · exact .inr (decide_eq_true (.inl z))
/-- rising by the texts -/
def Told (M : List (Str × Int)) : Prop := M.Pairwise fun e f => sLt e.1 f.1
theorem told_of {L : List (Str × Int)} (hn : (L.map Prod.fst).Nodup) : Told (L.mergeSort (dataLe false encSI)) := by
  rw [dataLe_si]
  have hp : (L.mergeSort leSI).Perm L := List.mergeSort_perm _ _
  have hs := List.pairwise_mergeSort (le := leSI) leSI_trans leSI_total L
  have hn2 : ((L.mergeSort leSI).map Prod.fst).Nodup := ((hp.map Prod.fst).nodup_iff).mpr hn
  rw [List.Nodup, List.pairwise_map] at hn2
  refine (hs.and hn2).imp fun {e f} h => ?_
  rcases of_decide_eq_true h.1 with z | z
  · exact z
  · exact absurd z.1 h.2
theorem Told.unique {M N : List (Str × Int)} (h : Told M) (k : Told N) (e : ∀ x, x ∈ M ↔ x ∈ N) : M = N :=
  strict_ext (r := fun e f : Str × Int => sLt e.1 f.1) (fun a => sLt_irr _) (fun _ _ _ => sLt_trans) h k e
/-- texts alone -/
abbrev leS (x y : Str) : Bool := decide (x.cps.toList ≤ y.cps.toList)
theorem dataLe_s : dataLe false (fun x : Str => PyData.str x) = leS := dataLe_str fun x => x
theorem leS_trans (a b c : Str) (h : leS a b = true) (k : leS b c = true) : leS a c = true := decide_eq_true (List.le_trans (of_decide_eq_true h) (of_decide_eq_true k))
theorem leS_total (a b : Str) : (leS a b || leS b a) = true := by
  rw [Bool.or_eq_true]
  rcases List.le_total a.cps.toList b.cps.toList with z | z
  · exact .inl (decide_eq_true z)
  · exact .inr (decide_eq_true z)
theorem texts_of {L : List Str} (hn : L.Nodup) : (L.mergeSort leS).Pairwise sLt := by
  have hp : (L.mergeSort leS).Perm L := List.mergeSort_perm _ _
  have hs := List.pairwise_mergeSort (le := leS) leS_trans leS_total L
  refine (hs.and ((hp.nodup_iff).mpr hn)).imp fun {x y} h => ?_
  rcases sLt_total x y with z | z | z
  · exact z
  · exact absurd z h.2
  · exact absurd z (List.not_lt.mpr (of_decide_eq_true h.1))
end My
namespace My
open PySem L2 PyProof.Rows
/-! ### == by an own __eq__, whatever it answers -/
section
variable {X : Cx}
theorem op_eqOwn {CX : CXT} {k : Nat} {C f : Addr} {fd : FuncData} {ps : List Str} {sp : Sp} {E : XK} (F : FnOk X.prog X.w X.K X.mg X.base CX k f fd ps sp) (hr : Room k X.A)
    (hs : PySem.W.findIn X.K (.ref C) "__eq__" = some (some (.ref f))) (hf : PySem.W.isFn X.K (.ref f) = true) (hb : Binds X.K fd ps []) (hx : Passes CX X E) :
    OpR X (compareOp .Eq) (fun x y H Q => ∃ a b dx dy fs gs, x = .ref a ∧ y = .ref b ∧ H a = some (.ins C dx fs) ∧ H b = some (.ins C dy gs) ∧ sp [x, y] H (fun v H' => ∃ c, v = .bl c ∧ Q (.bl c) H') E) := by
  intro pins s σ H x y v u Q I rx ry h
  obtain ⟨a, b, dx, dy, fs, gs, rfl, rfl, ha, hb', hsp⟩ := h
  cases rx
  cases ry
  show wpAny (model X.prog X.w) X.A (richCompare .Eq (.ref a) (.ref b)) (EP X pins σ Q) X.xe s
  obtain ⟨_, J, _⟩ := ins_get I.hok ha
  obtain ⟨_, J', _⟩ := ins_get I.hok hb'
  obtain ⟨_, J, _⟩ := J.look
  obtain ⟨_, J', _⟩ := J'.look
  obtain ⟨m, hF⟩ := I.fr
  refine PySem.W.cmp_K (op := .Eq) (tb := .ref C) hr.units0 hF I.ok.mod.kin J J'.type (by simp [PySem.W.notFirst]) hs hf ?_
  have vals : Vals [V.ref a, V.ref b] [Value.ref a, Value.ref b] := .cons rfl (.cons rfl .nil)
  have e0 : Env0 X.prog X.w X.K X.mg X.base X.A X.stack s H := I.env0
  have hl := F.len _ _ _ _ hsp
  refine wpAny_call (codeAny_mono (F.run X.A X.stack s H ⟨[.ref a, .ref b], []⟩ [.ref a, .ref b] [.ref a, .ref b] _ E hr e0 (by
    have bd := hb s [.ref a, .ref b] I.kIn (by simpa using hl)
    simpa using bd) vals hsp) fun r s' hq => ?_)
  cases r with
  | error e => exact hx pins σ H s e s' I hq
  | ok fl =>
    cases fl with
    | ret w =>
      obtain ⟨z, H', I', rz, c, ez, qz⟩ := I.after hq
      subst ez
      cases rz
      exact ⟨.bl c, H', I', rfl, qz⟩
    | next => exact False.elim hq
    | brk => exact False.elim hq
    | cont => exact False.elim hq
end
end My
namespace My
open PySem L2 PyProof.Rows PySem.W
/-! ### != of instances with an own __eq__ and the object's __ne__ -/
section
variable {prog : Program} {w : World} {A : Around} {E : Value → Shared → Prop} {s : Shared} {K : PySem.W.Frag} {x y C L f : Addr} {h₀ : Heap} {m : Str → Option Value} {ox : Obj} {od : Option Obj}
theorem check_ne {Q : Unit → Shared → Prop} (X : K.In s.heap) (I : PySem.W.InstAt s.heap x ox C od) (hm : PySem.W.mroIn K C (.type "object") = some true) (hq : Q () s) :
    wpAny (model prog w) A (checkBuiltinCall "object.__ne__" ⟨[.ref x, .ref y], []⟩) Q E s := by
  have L1 := PySem.W.looks_mroIn (M := model prog w) X hm
  simp only [checkBuiltinCall, F.cmpKind_ne, F.cmpSplit_ne]
  refine wpAny_bind ?_
  unfold isInstance
  refine wpAny_bind (I.type.here (L1.here ?_))
  simp only [Bool.not_true, Bool.false_eq_true, if_false]
  exact wpAny_pure hq
theorem entry_ne {Q : Fin → Shared → Prop} (hu : A.units < cLine) (X : K.In s.heap) (I : PySem.W.InstAt s.heap x ox C od) (hs : PySem.W.findIn K (.ref C) "__eq__" = some (some (.ref f))) (hf : PySem.W.isFn K (.ref f) = true)
    (hcall : wpAny (model prog w) A (call (.ref f) [.ref x, .ref y]) (fun v s' => ∃ b, v = .bool b ∧ Q (.done (.ret (.bool (!b)))) s') E s) :
    wpAny (model prog w) A (Builtin.«object.__ne__» ⟨[.ref x, .ref y], []⟩) Q E s := by
  unfold Builtin.«object.__ne__»
  repeat (first
    | with_reducible refine wpAny_cRoomFor hu ?_
    | (refine wpAny_bind (m := callSpecialIfBound? (.ref x) (Str.ofString "__eq__") [.ref y])
        (PySem.W.ifBound_K X I hs hf (wpAny_mono hcall (fun r s' hr => by
          obtain ⟨b, rfl, hq⟩ := hr
          repeat (first | exact hq | exact wpAny_pure hq | exact wpAny_truthy_bool hq | (refine wpAny_bind (m := truthy (.bool _)) (wpAny_truthy_bool ?_)) | wp_step)) fun _ _ e => e)))
    | wp_step)
theorem try_ne {Q : Option Value → Shared → Prop} (hu : A.units + 1 < cLine) (X : K.In s.heap) (I : PySem.W.InstAt s.heap x ox C od) (hm : PySem.W.mroIn K C (.type "object") = some true) (hn : PySem.W.findIn K (.ref C) "__ne__" = some (some (.builtin "object.__ne__")))
    (hs : PySem.W.findIn K (.ref C) "__eq__" = some (some (.ref f))) (hf : PySem.W.isFn K (.ref f) = true)
    (hcall : wpAny (model prog w) A.in1 (call (.ref f) [.ref x, .ref y]) (fun v s' => ∃ b, v = .bool b ∧ Q (some (.bool (!b))) s') E s) :
    wpAny (model prog w) A (tryCompare (.ref x) "__ne__" (.ref y)) Q E s := by
  have S := F.cmp_object.ne
  have one : wpAny (model prog w) A (callSpecialIfBound? (.ref x) "__ne__" [.ref y]) (fun r s' => ∃ b, r = some (.bool b) ∧ Q (some (.bool b)) s') E s := by
    simp only [callSpecialIfBound?, bindSpecialIfBound?]
    refine wpAny_holding (wpAny_bind (wpAny_bind (wpAny_bind (I.type.here ((PySem.W.looks_findIn X hn).here ?_)))))
    simp only [S.bind]
    refine wpAny_bind (wpAny_askSetting (wpAny_ite ?_))
    have fin : wpAny (model prog w) A (call (.builtin "object.__ne__") ([.ref x] ++ [.ref y]) >>= fun v => pure (some v)) (fun r s' => ∃ b, r = some (.bool b) ∧ Q (some (.bool b)) s') E s := by
      refine wpAny_bind (wpAny_call (codeAny_call_builtin S.plain F.cmpEntry_ne (check_ne X I hm (entry_ne (A := A.in1) hu X I hs hf (wpAny_mono hcall (fun v s' hv => ?_) fun _ _ e => e)))))
      obtain ⟨b, rfl, hq⟩ := hv
      exact ⟨b, rfl, wpAny_pure ⟨_, rfl, hq⟩⟩
    split
    · exact wpAny_bind (wpAny_pure (wpAny_pure fin))
    · exact wpAny_tryCatch (wpAny_bind (wpAny_pure (wpAny_pure fin)))
  unfold tryCompare
  refine wpAny_bind (wpAny_mono one (fun v s' hv => ?_) fun _ _ e => e)
  obtain ⟨b, rfl, hq⟩ := hv
  exact wpAny_pure hq
theorem ne_own {Q : Value → Shared → Prop} {oy : Obj} {odY : Option Obj} (hu : A.units + 1 < cLine) (X : K.In s.heap) (I : PySem.W.InstAt s.heap x ox C od) (J : PySem.W.InstAt s.heap y oy C odY) (hm : PySem.W.mroIn K C (.type "object") = some true) (hn : PySem.W.findIn K (.ref C) "__ne__" = some (some (.builtin "object.__ne__")))
    (hs : PySem.W.findIn K (.ref C) "__eq__" = some (some (.ref f))) (hf : PySem.W.isFn K (.ref f) = true)
    (hcall : wpAny (model prog w) A.in1 (call (.ref f) [.ref x, .ref y]) (fun v s' => ∃ b, v = .bool b ∧ Q (.bool (!b)) s') E s) :
    wpAny (model prog w) A (richCompare .NotEq (.ref x) (.ref y)) Q E s := by
  unfold richCompare
  simp only [oneThing_ref]
  refine wpAny_holding ?_
  refine wpAny_bind (wpAny_cRoomFor (Nat.lt_of_succ_lt hu) ?_)
  rw [cmpInfo_NotEq]
  dsimp only
  refine wpAny_bind (I.type.here (wpAny_bind (J.type.here ?_)))
  rw [show (Value.ref C != Value.ref C) = false from by simp]
  simp only [Bool.false_eq_true, if_false]
  refine wpAny_bind (wpAny_pure ?_)
  simp only [Bool.false_eq_true, if_false]
  refine wpAny_bind (try_ne hu X I hm hn hs hf (wpAny_mono hcall (fun v s' hv => ?_) fun _ _ e => e))
  obtain ⟨b, rfl, hq⟩ := hv
  exact ⟨b, rfl, wpAny_pure hq⟩
end
section
variable {X : Cx}
theorem op_neOwn {CX : CXT} {k : Nat} {C f : Addr} {fd : FuncData} {ps : List Str} {sp : Sp} {E : XK} (F : FnOk X.prog X.w X.K X.mg X.base CX k f fd ps sp) (hr : Room (k + 1) X.A) (hm : PySem.W.mroIn X.K C (.type "object") = some true) (hn : PySem.W.findIn X.K (.ref C) "__ne__" = some (some (.builtin "object.__ne__")))
    (hs : PySem.W.findIn X.K (.ref C) "__eq__" = some (some (.ref f))) (hf : PySem.W.isFn X.K (.ref f) = true) (hb : Binds X.K fd ps []) (hx : Passes CX X E) :
    OpR X (compareOp .NotEq) (fun x y H Q => ∃ a b dx dy fs gs, x = .ref a ∧ y = .ref b ∧ H a = some (.ins C dx fs) ∧ H b = some (.ins C dy gs) ∧ sp [x, y] H (fun v H' => ∃ c, v = .bl c ∧ Q (.bl (!c)) H') E) := by
  intro pins s σ H x y v u Q I rx ry h
  obtain ⟨a, b, dx, dy, fs, gs, rfl, rfl, ha, hb', hsp⟩ := h
  cases rx
  cases ry
  show wpAny (model X.prog X.w) X.A (richCompare .NotEq (.ref a) (.ref b)) (EP X pins σ Q) X.xe s
  obtain ⟨_, J, _⟩ := ins_get I.hok ha
  obtain ⟨_, J', _⟩ := ins_get I.hok hb'
  obtain ⟨_, J, _⟩ := J.look
  obtain ⟨_, J', _⟩ := J'.look
  have hu : X.A.units + 1 < cLine := hu_of hr
  refine ne_own hu I.kIn J J' hm hn hs hf ?_
  have vals : Vals [V.ref a, V.ref b] [Value.ref a, Value.ref b] := .cons rfl (.cons rfl .nil)
  have e0 : Env0 X.prog X.w X.K X.mg X.base X.A.in1 X.stack s H := I.env0.in1
  have hl := F.len _ _ _ _ hsp
  refine wpAny_call (codeAny_mono (F.run X.A.in1 X.stack s H ⟨[.ref a, .ref b], []⟩ [.ref a, .ref b] [.ref a, .ref b] _ E hr.in1 e0 (by
    have bd := hb s [.ref a, .ref b] I.kIn (by simpa using hl)
    simpa using bd) vals hsp) fun r s' hq => ?_)
  cases r with
  | error e => exact hx pins σ H s e s' I hq
  | ok fl =>
    cases fl with
    | ret w =>
      obtain ⟨z, H', I', rz, c, ez, qz⟩ := I.after hq
      subst ez
      cases rz
      exact ⟨c, rfl, .bl (!c), H', I', rfl, qz⟩
    | next => exact False.elim hq
    | brk => exact False.elim hq
    | cont => exact False.elim hq
/-- == of an instance with an own __eq__ and a dict -/
theorem op_eqDict {CX : CXT} {k : Nat} {C f : Addr} {fd : FuncData} {ps : List Str} {sp : Sp} {E : XK} (F : FnOk X.prog X.w X.K X.mg X.base CX k f fd ps sp) (hr : Room k X.A)
    (hs : PySem.W.findIn X.K (.ref C) "__eq__" = some (some (.ref f))) (hf : PySem.W.isFn X.K (.ref f) = true) (hnf : PySem.W.notFirst X.K C (.type "dict") = true) (hb : Binds X.K fd ps []) (hx : Passes CX X E) :
    OpR X (compareOp .Eq) (fun x y H Q => ∃ a d dx fs kvs, x = .ref a ∧ y = .ref d ∧ H a = some (.ins C dx fs) ∧ H d = some (.dK kvs) ∧ sp [x, y] H (fun v H' => ∃ c, v = .bl c ∧ Q (.bl c) H') E) := by
  intro pins s σ H x y v u Q I rx ry h
  obtain ⟨a, b, dx, fs, kvs, rfl, rfl, ha, hb', hsp⟩ := h
  cases rx
  cases ry
  show wpAny (model X.prog X.w) X.A (richCompare .Eq (.ref a) (.ref b)) (EP X pins σ Q) X.xe s
  obtain ⟨_, J, _⟩ := ins_get I.hok ha
  obtain ⟨_, J, _⟩ := J.look
  obtain ⟨_, _, _, _, ob, es, ep, e, ⟨hcls, _⟩, _⟩ := (show ObjOk X.prog X.w H s.heap b (.dK kvs) from I.hok b _ hb')
  have hty : PySem.W.Looks (model X.prog X.w) s.heap (typeOf (.ref b)) (.type "dict") := hcls ▸ (PySem.W.Looks.ld e).andThen .now
  obtain ⟨m, hF⟩ := I.fr
  refine PySem.W.cmp_K (op := .Eq) (tb := .type "dict") hr.units0 hF I.ok.mod.kin J hty hnf hs hf ?_
  have vals : Vals [V.ref a, V.ref b] [Value.ref a, Value.ref b] := .cons rfl (.cons rfl .nil)
  have e0 : Env0 X.prog X.w X.K X.mg X.base X.A X.stack s H := I.env0
  have hl := F.len _ _ _ _ hsp
  refine wpAny_call (codeAny_mono (F.run X.A X.stack s H ⟨[.ref a, .ref b], []⟩ [.ref a, .ref b] [.ref a, .ref b] _ E hr e0 (by
    have bd := hb s [.ref a, .ref b] I.kIn (by simpa using hl)
    simpa using bd) vals hsp) fun r s' hq => ?_)
  cases r with
  | error e => exact hx pins σ H s e s' I hq
  | ok fl =>
    cases fl with
    | ret w =>
      obtain ⟨z, H', I', rz, c, ez, qz⟩ := I.after hq
      subst ez
      cases rz
      exact ⟨.bl c, H', I', rfl, qz⟩
    | next => exact False.elim hq
    | brk => exact False.elim hq
    | cont => exact False.elim hq
def tMethKK (C : Addr) (m : Str) (sp : Sp) (gV : List V → List V → List V) (E : XK) (ta : TE) (tk : TA) : TE := fun σ H Q => ta σ H fun x H1 => ∃ a dx fs, x = .ref a ∧ H1 a = some (.ins C dx fs) ∧ fs.lookup m = none ∧ tk σ H1 fun zs H2 => sp (gV [x] zs) H2 Q E
/-- o.m(a=.., b=..) -/
theorem pe_methKK {CX : CXT} {k : Nat} {f C : Addr} {fd : FuncData} {ps ks : List Str} {sp : Sp} {E : XK} {m : Str} {pos apos : Pos} {o : Expr} {kws : List Keyword} {ta : TE} {tk : TA} {g : List Value → List Value → List Value} {gV : List V → List V → List V} {pl : Sem Bool} (he : PE X o ta) (c : Cls X.K C) (hm : Meth X.K C m f) (F : FnOk X.prog X.w X.K X.mg X.base CX k f fd ps sp) (hr : Room k X.A) (hb : KBinds X.K fd ps ks g gV) (hx : Passes CX X E)
    (hkw : PK X kws tk) (hall : (backToKw pos (keywordEach kws X.env)).all (·.1.isSome) = true := by rfl) (hks : (backToKw pos (keywordEach kws X.env)).filterMap (·.1) = ks := by rfl)
    (hpl : ((backTo pos (starEach [] X.env)).any (·.1) || (backToKw pos (keywordEach kws X.env)).any (·.1.isNone)) = false := by rfl)
    (ht : eval (.Call (.Attribute o m apos) [] kws pos) X.env = (do
      let ov ← eval o X.env
      standAt apos.atName
      let (f, first) ← holding [ov] (getMethod ov m pl)
      callWith pos f first (backTo pos (starEach [] X.env)) (backToKw pos (keywordEach kws X.env))) := by rfl) :
    PE X (.Call (.Attribute o m apos) [] kws pos) (tMethKK C m sp gV E ta tk) := by
  refine ⟨fun pins s σ H Q I h => ?_⟩
  refine PySem.W.methodCall_KW (pl := pl) (thn (he.run pins s σ H _ I h) fun u s1 ⟨x, H1, I1, rx, a, dx, fs, ex, ea, l, q⟩ => ?_) ht
  subst ex
  obtain rfl : u = Value.ref a := rx
  refine getmeth_ok I1 ea c hm l ?_
  refine PySem.W.callWith_KW0 (first := [.ref a]) (h₀ := X.base) I.ok.mod.kin hm.kp hall (thn (hkw.run pos pins s1 σ H1 _ I1 q) fun ws s2 ⟨zs, H2, I2, rz, q2⟩ => ⟨I2.kIn, ?_⟩) hpl
  rw [hks]
  exact run_fnk (us := [.ref a]) (vs := [.ref a]) F hr hb hx I2 (.cons rfl .nil) rz q2
end
end My
namespace My
open PySem L2 PyProof.Rows
def topS (i : Nat) : Stmt := PySem.Challenge.pw_suretexts_k16_whole_lots_come_and_go.main.body.getD i (.Pass ⟨0, 0, 0, 0⟩)
abbrev sis_integer : Stmt := topS 16
theorem scis_integer : FnScope ["value"] ["value"] (defScope sis_integer) := ⟨rfl, rfl, rfl, by decide +kernel, rfl, by decide +kernel, by decide +kernel⟩
abbrev sis_count : Stmt := topS 17
theorem scis_count : FnScope ["value"] ["value"] (defScope sis_count) := ⟨rfl, rfl, rfl, by decide +kernel, rfl, by decide +kernel, by decide +kernel⟩
abbrev sis_between : Stmt := topS 18
theorem scis_between : FnScope ["value", "least", "most"] ["value", "least", "most"] (defScope sis_between) := ⟨rfl, rfl, rfl, by decide +kernel, rfl, by decide +kernel, by decide +kernel⟩
abbrev sis_size : Stmt := topS 19
theorem scis_size : FnScope ["value"] ["value"] (defScope sis_size) := ⟨rfl, rfl, rfl, by decide +kernel, rfl, by decide +kernel, by decide +kernel⟩
abbrev sis_listed : Stmt := topS 20
theorem scis_listed : FnScope ["value"] ["value"] (defScope sis_listed) := ⟨rfl, rfl, rfl, by decide +kernel, rfl, by decide +kernel, by decide +kernel⟩
abbrev sis_letter : Stmt := topS 21
theorem scis_letter : FnScope ["sign"] ["sign"] (defScope sis_letter) := ⟨rfl, rfl, rfl, by decide +kernel, rfl, by decide +kernel, by decide +kernel⟩
abbrev sneed_size : Stmt := topS 22
theorem scneed_size : FnScope ["size"] ["size"] (defScope sneed_size) := ⟨rfl, rfl, rfl, by decide +kernel, rfl, by decide +kernel, by decide +kernel⟩
abbrev sis_text : Stmt := topS 25
theorem scis_text : FnScope ["value", "sign"] ["value"] (defScope sis_text) := ⟨rfl, rfl, rfl, by decide +kernel, rfl, by decide +kernel, by decide +kernel⟩
abbrev sneed_text : Stmt := topS 26
theorem scneed_text : FnScope ["text"] ["text"] (defScope sneed_text) := ⟨rfl, rfl, rfl, by decide +kernel, rfl, by decide +kernel, by decide +kernel⟩
abbrev spieces_along : Stmt := topS 28
theorem scpieces_along : FnScope ["text", "size", "place"] ["text", "size"] (defScope spieces_along) := ⟨rfl, rfl, rfl, by decide +kernel, rfl, by decide +kernel, by decide +kernel⟩
abbrev spieces_often : Stmt := topS 29
theorem scpieces_often : FnScope ["readings", "size", "often", "text", "times", "piece"] ["readings", "size"] (defScope spieces_often) := ⟨rfl, rfl, rfl, by decide +kernel, rfl, by decide +kernel, by decide +kernel⟩
abbrev sis_times : Stmt := topS 33
theorem scis_times : FnScope ["value"] ["value"] (defScope sis_times) := ⟨rfl, rfl, rfl, by decide +kernel, rfl, by decide +kernel, by decide +kernel⟩
abbrev sare_readings : Stmt := topS 34
theorem scare_readings : FnScope ["value", "reading"] ["value"] (defScope sare_readings) := ⟨rfl, rfl, rfl, by decide +kernel, rfl, by decide +kernel, by decide +kernel⟩
abbrev sneed_lot : Stmt := topS 36
theorem scneed_lot : FnScope ["lot"] ["lot"] (defScope sneed_lot) := ⟨rfl, rfl, rfl, by decide +kernel, rfl, by decide +kernel, by decide +kernel⟩
abbrev sneed_times : Stmt := topS 37
theorem scneed_times : FnScope ["times"] ["times"] (defScope sneed_times) := ⟨rfl, rfl, rfl, by decide +kernel, rfl, by decide +kernel, by decide +kernel⟩
abbrev s_times_together : Stmt := topS 38
theorem sc_times_together : FnScope ["readings", "together", "text", "times"] ["readings"] (defScope s_times_together) := ⟨rfl, rfl, rfl, by decide +kernel, rfl, by decide +kernel, by decide +kernel⟩
abbrev slot_told : Stmt := topS 39
theorem sclot_told : FnScope ["size", "told", "_", "times", "lot"] ["size", "told"] (defScope slot_told) := ⟨rfl, rfl, rfl, by decide +kernel, rfl, by decide +kernel, by decide +kernel⟩
abbrev sLot___init__ : Stmt := inClass (topS 35) 0
theorem scLot___init__ : FnScope ["self", "size", "readings"] ["self", "size", "readings"] (defScope sLot___init__) := ⟨rfl, rfl, rfl, by decide +kernel, rfl, by decide +kernel, by decide +kernel⟩
abbrev sLot_size : Stmt := inClass (topS 35) 2
theorem scLot_size : FnScope ["self"] ["self"] (defScope sLot_size) := ⟨rfl, rfl, rfl, by decide +kernel, rfl, by decide +kernel, by decide +kernel⟩
abbrev sLot_readings : Stmt := inClass (topS 35) 3
theorem scLot_readings : FnScope ["self"] ["self"] (defScope sLot_readings) := ⟨rfl, rfl, rfl, by decide +kernel, rfl, by decide +kernel, by decide +kernel⟩
abbrev sLot_pieces : Stmt := inClass (topS 35) 5
theorem scLot_pieces : FnScope ["self"] ["self"] (defScope sLot_pieces) := ⟨rfl, rfl, rfl, by decide +kernel, rfl, by decide +kernel, by decide +kernel⟩
abbrev sLot_times_of : Stmt := inClass (topS 35) 4
theorem scLot_times_of : FnScope ["self", "text"] ["self", "text"] (defScope sLot_times_of) := ⟨rfl, rfl, rfl, by decide +kernel, rfl, by decide +kernel, by decide +kernel⟩
abbrev sLot_solid : Stmt := inClass (topS 35) 6
theorem scLot_solid : FnScope ["self", "least", "piece", "times"] ["self", "least"] (defScope sLot_solid) := ⟨rfl, rfl, rfl, by decide +kernel, rfl, by decide +kernel, by decide +kernel⟩
abbrev sLot___eq__ : Stmt := inClass (topS 35) 1
theorem scLot___eq__ : FnScope ["self", "other"] ["self", "other"] (defScope sLot___eq__) := ⟨rfl, rfl, rfl, by decide +kernel, rfl, by decide +kernel, by decide +kernel⟩
abbrev s_lot_with : Stmt := topS 40
theorem sc_lot_with : FnScope ["lot", "readings", "together"] ["lot", "readings"] (defScope s_lot_with) := ⟨rfl, rfl, rfl, by decide +kernel, rfl, by decide +kernel, by decide +kernel⟩
abbrev swith_reading : Stmt := topS 41
theorem scwith_reading : FnScope ["lot", "text", "times"] ["lot", "text", "times"] (defScope swith_reading) := ⟨rfl, rfl, rfl, by decide +kernel, rfl, by decide +kernel, by decide +kernel⟩
abbrev sboth_lots : Stmt := topS 42
theorem scboth_lots : FnScope ["lot", "other"] ["lot", "other"] (defScope sboth_lots) := ⟨rfl, rfl, rfl, by decide +kernel, rfl, by decide +kernel, by decide +kernel⟩
abbrev swithout_reading : Stmt := topS 43
theorem scwithout_reading : FnScope ["lot", "text", "times", "read", "left", "reading"] ["lot", "text", "times"] (defScope swithout_reading) := ⟨rfl, rfl, rfl, by decide +kernel, rfl, by decide +kernel, by decide +kernel⟩
abbrev s_law_pot : Stmt := topS 45
theorem sc_law_pot : FnScope ["_law_script", "_law_k", "_law_cell"] ["_law_script", "_law_k"] (defScope s_law_pot) := ⟨rfl, rfl, rfl, by decide +kernel, rfl, by decide +kernel, by decide +kernel⟩
abbrev s_law_draw : Stmt := topS 46
theorem sc_law_draw : FnScope ["_law_pot_here", "_law_size", "_law_digit"] ["_law_pot_here", "_law_size"] (defScope s_law_draw) := ⟨rfl, rfl, rfl, by decide +kernel, rfl, by decide +kernel, by decide +kernel⟩
abbrev s_law_pick : Stmt := topS 47
theorem sc_law_pick : FnScope ["_law_pot_here", "_law_some"] ["_law_pot_here", "_law_some"] (defScope s_law_pick) := ⟨rfl, rfl, rfl, by decide +kernel, rfl, by decide +kernel, by decide +kernel⟩
abbrev s_law_text : Stmt := topS 48
theorem sc_law_text : FnScope ["_law_pot_here", "_law_most", "_law_found", "_law_turn"] ["_law_pot_here", "_law_most"] (defScope s_law_text) := ⟨rfl, rfl, rfl, by decide +kernel, rfl, by decide +kernel, by decide +kernel⟩
abbrev s_law_readings : Stmt := topS 49
theorem sc_law_readings : FnScope ["_law_pot_here", "_law_many", "_law_found", "_law_turn"] ["_law_pot_here", "_law_many"] (defScope s_law_readings) := ⟨rfl, rfl, rfl, by decide +kernel, rfl, by decide +kernel, by decide +kernel⟩
abbrev s_law_times : Stmt := topS 50
theorem sc_law_times : FnScope ["_law_readings_here", "_law_found", "_law_text_here", "_law_times_here"] ["_law_readings_here"] (defScope s_law_times) := ⟨rfl, rfl, rfl, by decide +kernel, rfl, by decide +kernel, by decide +kernel⟩
abbrev s_law_sorted : Stmt := topS 52
theorem sc_law_sorted : FnScope ["_law_told", "_law_one"] ["_law_told"] (defScope s_law_sorted) := ⟨rfl, rfl, rfl, by decide +kernel, rfl, by decide +kernel, by decide +kernel⟩
abbrev s_law_often : Stmt := topS 51
theorem sc_law_often : FnScope ["_law_size", "_law_told", "_law_found", "_law_text_here", "_law_place", "_law_piece"] ["_law_size", "_law_told"] (defScope s_law_often) := ⟨rfl, rfl, rfl, by decide +kernel, rfl, by decide +kernel, by decide +kernel⟩
abbrev s_law_is_plain : Stmt := topS 54
theorem sc_law_is_plain : FnScope ["_law_told", "_law_text_here"] ["_law_told"] (defScope s_law_is_plain) := ⟨rfl, rfl, rfl, by decide +kernel, rfl, by decide +kernel, by decide +kernel⟩
abbrev s_law_shows : Stmt := topS 53
theorem sc_law_shows : FnScope ["_law_lot", "_law_size", "_law_told", "_law_often_here", "_law_least", "_law_piece", "_law_text_here"] ["_law_lot", "_law_size", "_law_told"] (defScope s_law_shows) := ⟨rfl, rfl, rfl, by decide +kernel, rfl, by decide +kernel, by decide +kernel⟩
abbrev s_law_deed : Stmt := topS 55
theorem sc_law_deed : FnScope ["_law_pot_here", "_law_lot", "_law_told", "_law_way", "_law_text_here", "_law_times_here", "_law_later"] ["_law_pot_here", "_law_lot", "_law_told"] (defScope s_law_deed) := ⟨rfl, rfl, rfl, by decide +kernel, rfl, by decide +kernel, by decide +kernel⟩
abbrev s_law_both_right : Stmt := topS 56
theorem sc_law_both_right : FnScope ["_law_pot_here", "_law_lot", "_law_size", "_law_told", "_law_readings_here", "_law_other", "_law_more", "_law_both", "_law_due", "_law_text_here", "_law_near", "_law_far", "_law_piece", "_law_often_here"] ["_law_pot_here", "_law_lot", "_law_size", "_law_told"] (defScope s_law_both_right) := ⟨rfl, rfl, rfl, by decide +kernel, rfl, by decide +kernel, by decide +kernel⟩
abbrev slaw : Stmt := topS 57
theorem sclaw : FnScope ["_law_script", "_law_pot_here", "_law_size", "_law_readings_here", "_law_lot", "_law_told", "_law_turn", "_law_before", "_law_shown", "_law_later", "_law_text_here"] ["_law_script"] (defScope slaw) := ⟨rfl, rfl, rfl, by decide +kernel, rfl, by decide +kernel, by decide +kernel⟩
structure Bs (mg : Str → Option Value) : Prop where
  isinstance : mg "isinstance" = none
  int : mg "int" = none
  bool : mg "bool" = none
  str : mg "str" = none
  list : mg "list" = none
  tuple : mg "tuple" = none
  len : mg "len" = none
  range : mg "range" = none
  abs : mg "abs" = none
  max : mg "max" = none
  min : mg "min" = none
  divmod : mg "divmod" = none
  sorted : mg "sorted" = none
  dict : mg "dict" = none
  all : mg "all" = none
structure Glo (mg : Str → Option Value) : Prop where
  MOST_READINGS : ∃ t, mg "MOST_READINGS" = some (.int 60 t)
  MOST_TIMES : ∃ t, mg "MOST_TIMES" = some (.int 1200 t)
  MOST_LETTERS : ∃ t, mg "MOST_LETTERS" = some (.int 400 t)
structure WebK (K : PySem.W.Frag) (mg : Str → Option Value) (C : Addr) : Prop where
  cl : Cls K C
  nS : NoAttr K C "_size"
  nT : NoAttr K C "_told"
  mgC : mg "Lot" = some (.ref C)
  i1 : PySem.W.findIn K (.ref C) "__class__" = some (some (.builtin "object.__class__"))
  i2 : PySem.W.specialIn K (.builtin "object.__class__") "__get__" = some (some (.builtin "getset_descriptor.__get__"))
  i3 : PySem.W.takesIn K (.builtin "object.__class__") = some true
  i4 : PySem.W.mroIn K C (.type "object") = some true
  i5 : PySem.W.kitOne K (.ref C) (.ref C) = some true
  ne : PySem.W.findIn K (.ref C) "__ne__" = some (some (.builtin "object.__ne__"))
  nd : PySem.W.notFirst K C (.type "dict") = true
  kd : PySem.W.kitOne K (.type "dict") (.ref C) = some false
abbrev iv (L : List Nat) : List V := L.map fun n : Nat => V.int (n : Int)
theorem same_new {H : Hp} {p : Addr} (h : H p = none) (o : HO) : Same H (upd H p o) := fun b u q => by rw [upd_ne (ne_of_none q h)]; exact q
theorem iteNo {c A B : Prop} [Decidable c] (h : ¬ c) (b : B) : if decide c = true then A else B := by
  rw [decide_eq_false h]
  exact iteF b
theorem iteNot {c A B : Prop} [Decidable c] (h : ¬ c) (a : A) : if (!decide c) = true then A else B := by
  rw [decide_eq_false h]
  exact iteT a
theorem iteNot' {c A B : Prop} [Decidable c] (h : c) (b : B) : if (!decide c) = true then A else B := by
  rw [decide_eq_true h]
  exact iteF b
theorem iteNN {c A B : Prop} [Decidable c] (h : ¬ c) (b : B) : if (!!decide c) = true then A else B := by
  rw [decide_eq_false h]
  exact iteF b
theorem iv_at {L : List Nat} {j b : Nat} (h : L[j]? = some b) : atI (iv L) (j : Int) = some (.int (b : Int)) := by
  refine atI_nat ?_
  rw [iv, List.getElem?_map, h]
  rfl
theorem iv_app (L : List Nat) (n : Nat) : iv (L ++ [n]) = iv L ++ [V.int (n : Int)] := by
  unfold iv
  rw [List.map_append]
  rfl
theorem same_upd {H H' : Hp} {p : Addr} {o : HO} (h : Same H H') (np : H p = none) : Same H (upd H' p o) := fun b u q => by
  rw [upd_ne (ne_of_none q np)]
  exact h b u q
theorem iteYes {c A B : Prop} [Decidable c] (h : c) (a : A) : if decide c = true then A else B := by
  rw [decide_eq_true h]
  exact iteT a
theorem bl_true {c : Prop} [Decidable c] {Q : VK} {H : Hp} (h : c) (q : Q (.bl true) H) : Q (.bl (decide c)) H := by
  rw [decide_eq_true h]
  exact q
theorem int_eq {a b : Int} : V.int a = V.int b ↔ a = b := ⟨fun h => V.int.inj h, fun h => by rw [h]⟩
/-! ### lists of ints compared -/
abbrev iz (L : List Int) : List V := L.map V.int
theorem iv_iz (L : List Nat) : iv L = iz (L.map fun n : Nat => (n : Int)) := by
  unfold iv iz
  rw [List.map_map]
  rfl
abbrev dz (L : List Int) : PyData := .list (L.map PyData.int)
theorem dpAll_iz {K : PySem.W.Frag} {H : Hp} : ∀ L : List Int, DpAll K H (iz L) (L.map PyData.int)
  | [] => .nil
  | n :: r => .cons (.int n) (dpAll_iz r)
theorem dp_iz {K : PySem.W.Frag} {H : Hp} {p : Addr} {L : List Int} (h : H p = some (.lst (iz L))) : Dp K H (.ref p) (dz L) := .lst (SqL.of h) (dpAll_iz L)
theorem layAll_iz : ∀ L : List Int, PyData.canLayAll0 (L.map PyData.int) = true
  | [] => rfl
  | n :: r => by
    show (PyData.canLay0 (.int n) && PyData.canLayAll0 (r.map PyData.int)) = true
    rw [layAll_iz r]
    rfl
theorem depthAll_iz : ∀ L : List Int, PyData.depthAll (L.map PyData.int) = 0
  | [] => rfl
  | n :: r => by
    show max (PyData.depth (.int n)) (PyData.depthAll (r.map PyData.int)) = 0
    rw [depthAll_iz r]
    rfl
theorem shaped_iz (L : List Int) : SeqAt.shaped (dz L) = true := by
  unfold SeqAt.shaped
  have h1 : PyData.canLay0 (dz L) = true := by
    show PyData.canLay0 (.list (L.map PyData.int)) = true
    unfold PyData.canLay0
    exact layAll_iz L
  have h2 : PyData.depth (dz L) = 1 := by
    show PyData.depth (.list (L.map PyData.int)) = 1
    unfold PyData.depth
    rw [depthAll_iz]
  rw [h1, h2]
  rfl
theorem eqv_same (L : List Int) : PyData.eqv (dz L) (dz L) = true := by
  have h1 : PyData.canLay0 (dz L) = true := by
    show PyData.canLay0 (.list (L.map PyData.int)) = true
    unfold PyData.canLay0
    exact layAll_iz L
  exact SeqAt.eqv_refl _ h1
theorem eqv_empty (L : List Int) : PyData.eqv (dz L) (dz []) = decide (L = []) := by
  cases L with
  | nil => rfl
  | cons n r => rfl
theorem iteNb {x : Bool} {A B : Prop} (h : x = true) (b : B) : if (!x) = true then A else B := by
  rw [h]
  exact iteF b
theorem bl_is {x : Bool} {Q : VK} {H : Hp} (h : x = true) (q : Q (.bl true) H) : Q (.bl x) H := by
  rw [h]
  exact q
def Kept (a : Addr) (H H' : Hp) : Prop := ∀ b o, H b = some o → b ≠ a → H' b = some o
theorem Kept.trans {a : Addr} {H H1 H2 : Hp} (h : Kept a H H1) (h2 : Kept a H1 H2) : Kept a H H2 := fun b o e n => h2 b o (h b o e n) n
theorem Same.kept {a : Addr} {H H' : Hp} (h : Same H H') : Kept a H H' := fun b o e _ => h b o e
theorem paired_get {α β : Type} {F : α → β → Prop} : ∀ {l1 : List α} {l2 : List β} {i : Nat} {a : α}, Paired F l1 l2 → l1[i]? = some a → ∃ b, l2[i]? = some b ∧ F a b
  | _, _, _, _, .nil, h => by simp at h
  | _, _, 0, _, .cons r _, h => ⟨_, rfl, by cases h; exact r⟩
  | _, _, i + 1, _, .cons _ t, h => by
    obtain ⟨b, h1, h2⟩ := paired_get (i := i) t (by simpa using h)
    exact ⟨b, by simpa using h1, h2⟩
theorem paired_mono {α β : Type} {F G : α → β → Prop} (h : ∀ a b, F a b → G a b) : ∀ {l1 : List α} {l2 : List β}, Paired F l1 l2 → Paired G l1 l2
  | _, _, .nil => .nil
  | _, _, .cons a r => .cons (h _ _ a) (paired_mono h r)
theorem paired_len {α β : Type} {F : α → β → Prop} : ∀ {l1 : List α} {l2 : List β}, Paired F l1 l2 → l1.length = l2.length
  | _, _, .nil => rfl
  | _, _, .cons _ r => congrArg Nat.succ (paired_len r)
/-! ### lots as lists of texts with numbers -/
def getT (D : List (Str × Int)) (x : Str) : Int := ((D.find? fun e => decide (e.1 = x)).map (·.2)).getD 0
def addT : List (Str × Int) → Str → Int → List (Str × Int)
  | [], x, n => [(x, n)]
  | e :: r, x, n => if e.1 = x then (e.1, e.2 + n) :: r else e :: addT r x n
theorem addT_keys (x : Str) (n : Int) : ∀ D : List (Str × Int), (addT D x n).map Prod.fst = if x ∈ D.map Prod.fst then D.map Prod.fst else D.map Prod.fst ++ [x]
  | [] => rfl
  | e :: r => by
    have ih := addT_keys x n r
    unfold addT
    by_cases h : e.1 = x
    · rw [if_pos h, List.map_cons, List.map_cons, if_pos (by rw [h]; exact List.mem_cons_self)]
    · have hx : ¬ x = e.1 := fun z => h z.symm
      rw [if_neg h, List.map_cons, List.map_cons, ih]
      by_cases k : x ∈ r.map Prod.fst
      · rw [if_pos k, if_pos (List.mem_cons_of_mem _ k)]
      · rw [if_neg k, if_neg (by simp only [List.mem_cons]; rintro (z | z); exact hx z; exact k z)]
        rfl
theorem addT_nodup {x : Str} {n : Int} {D : List (Str × Int)} (h : (D.map Prod.fst).Nodup) : ((addT D x n).map Prod.fst).Nodup := by
  rw [addT_keys]
  split
  · exact h
  · rename_i c
    rw [List.nodup_append]
    exact ⟨h, by simp, fun a ha b hb => by rw [List.mem_singleton.mp hb]; rintro rfl; exact c ha⟩
theorem addT_mem {x y : Str} {n : Int} {D : List (Str × Int)} : y ∈ (addT D x n).map Prod.fst ↔ y ∈ D.map Prod.fst ∨ y = x := by
  rw [addT_keys]
  split
  · rename_i c
    exact ⟨.inl, fun h => h.elim id fun z => by rw [z]; exact c⟩
  · rw [List.mem_append, List.mem_singleton]
theorem addT_get (x y : Str) (n : Int) : ∀ D : List (Str × Int), getT (addT D x n) y = if y = x then getT D x + n else getT D y
  | [] => by
    unfold addT getT
    by_cases h : x = y
    · simp [h]
    · have h2 : ¬ y = x := fun z => h z.symm
      simp [h, h2]
  | e :: r => by
    have ih := addT_get x y n r
    unfold addT
    by_cases h : e.1 = x
    · rw [if_pos h]
      by_cases k : y = x
      · subst k
        simp [getT, h]
      · have k2 : ¬ e.1 = y := fun z => k (by rw [← z, h])
        rw [if_neg k]
        simp [getT, List.find?_cons, k2]
    · rw [if_neg h]
      by_cases k : e.1 = y
      · have k2 : ¬ y = x := fun z => h (by rw [k, z])
        rw [if_neg k2]
        simp [getT, List.find?_cons, k]
      · have s1 : getT (e :: addT r x n) y = getT (addT r x n) y := by simp [getT, List.find?_cons, k]
        have s2 : getT (e :: r) y = getT r y := by simp [getT, List.find?_cons, k]
        have s3 : getT (e :: r) x = getT r x := by simp [getT, List.find?_cons, h]
        rw [s1, s2, s3]
        exact ih
theorem addT_len (x : Str) (n : Int) (D : List (Str × Int)) : (addT D x n).length ≤ D.length + 1 := by
  have := congrArg List.length (addT_keys x n D)
  rw [List.length_map] at this
  rw [this]
  split
  · rw [List.length_map]; omega
  · rw [List.length_append, List.length_map]; simp
/-- the dict by texts -/
abbrev dT (D : List (Str × Int)) : List (Key × V) := D.map entSI
theorem dT_val (x : Str) : ∀ D : List (Str × Int), valV (dT D) (Sum.inr x : Key) = (D.find? fun e => decide (e.1 = x)).map fun e => V.int e.2
  | [] => rfl
  | e :: r => by
    have ih := dT_val x r
    by_cases h : e.1 = x
    · rw [show dT (e :: r) = entSI e :: dT r from rfl, valV_pos (by show (Sum.inr e.1 : Key) = _; rw [h]), List.find?_cons_of_pos (by simpa using h)]
      rfl
    · rw [show dT (e :: r) = entSI e :: dT r from rfl, valV_neg (fun z => h (Sum.inr.inj z)), List.find?_cons_of_neg (by simpa using h)]
      exact ih
theorem dT_getD (x : Str) (D : List (Str × Int)) : (valV (dT D) (Sum.inr x : Key)).getD (.int 0) = .int (getT D x) := by
  rw [dT_val]
  unfold getT
  cases D.find? fun e => decide (e.1 = x) with
  | none => rfl
  | some e => rfl
theorem dT_put {x : Str} {n : Int} : ∀ {D : List (Str × Int)}, (D.map Prod.fst).Nodup → putK (dT D) (Sum.inr x : Key) (.int (getT D x + n)) = dT (addT D x n)
  | [], _ => by
    show putK [] _ _ = _
    rw [putK_new _ rfl]
    simp [getT, addT]
  | e :: r, hn => by
    have hn' := List.nodup_cons.mp (by simpa using hn : (e.1 :: r.map Prod.fst).Nodup)
    by_cases h : e.1 = x
    · subst h
      have hg : getT (e :: r) e.1 = e.2 := by simp [getT]
      have hz : valV (dT (e :: r)) (Sum.inr e.1 : Key) = some (.int e.2) := by rw [dT_val]; simp
      unfold putK
      rw [valV_any, hz, Option.isSome_some, if_pos rfl, hg]
      show (_ :: _) = _
      unfold addT
      rw [if_pos rfl]
      show _ = entSI (e.1, e.2 + n) :: dT r
      refine congr (congrArg List.cons (by simp [entSI])) ?_
      rw [dT, List.map_map]
      refine List.map_congr_left fun f hf => ?_
      have : ¬ (Sum.inr f.1 : Key) = Sum.inr e.1 := fun z => hn'.1 (by rw [← Sum.inr.inj z]; exact List.mem_map.mpr ⟨f, hf, rfl⟩)
      show (if (Sum.inr f.1 : Key) = Sum.inr e.1 then _ else _) = _
      rw [if_neg this]
    · have ih := dT_put (x := x) (n := n) (D := r) hn'.2
      have hg : getT (e :: r) x = getT r x := by simp [getT, List.find?_cons, h]
      have hk : ¬ (entSI e).1 = (Sum.inr x : Key) := fun z => h (Sum.inr.inj z)
      have hv : valV (dT (e :: r)) (Sum.inr x : Key) = valV (dT r) (Sum.inr x : Key) := valV_neg hk
      have ha : addT (e :: r) x n = e :: addT r x n := by
        show (if e.1 = x then _ else _) = _
        rw [if_neg h]
      rw [hg, ha]
      show putK (dT (e :: r)) _ _ = entSI e :: dT (addT r x n)
      rw [← ih]
      unfold putK
      rw [valV_any, valV_any, hv]
      split
      · show ((if (entSI e).1 = Sum.inr x then _ else _) :: _) = _
        rw [if_neg hk]
      · rfl
section
variable {P : Program} {w : World} {K : PySem.W.Frag} {mg : Str → Option Value} {base : Heap} {C : Addr}
def spis_integer (_ : PySem.W.Frag) (_ : Addr) : Sp := fun vs H Q _ => ∃ n : Int, vs = [.int n] ∧ Q (.bl true) H
theorem okis_integer (D : Def K mg "is_integer" sis_integer ["value"]) (B : Bs mg) (Glb : Glo mg) (WK : WebK K mg C) :
    Good P w K mg base "is_integer" sis_integer ["value"] 1 (spis_integer K C) := by
  refine D.good fun f fd F => ?_
  refine F.ok scis_integer (fun vs H Q E h => ?_) (fun cdv A outer s H vs Q E hr h => ?_)
  · obtain ⟨n, rfl, q⟩ := h
    first | rfl | (rcases h with ⟨_, _, rfl, _⟩ | ⟨_, rfl, _⟩ <;> rfl)
  obtain ⟨n, rfl, q⟩ := h
  refine ⟨_, (pss_one (ps_ret (pe_and (pe_callB call_isi (by rfl) B.isinstance (by decide +kernel) (pa_cons (pv 0) (pa_cons (pe_bltn (v := .ty "int") (by rfl) B.int (by decide +kernel) rfl) pa_nil))) (pe_one (pe_not (pe_callB call_isi (by rfl) B.isinstance (by decide +kernel) (pa_cons (pv 0) (pa_cons (pe_bltn (v := .ty "bool") (by rfl) B.bool (by decide +kernel) rfl) pa_nil)))))))), ?_⟩
  exact ⟨_, rfl, _, _, _, _, true, rfl, .ty _, .base (.int n), kit_ty (by decide +kernel), _, rfl, iteT ⟨_, rfl, _, _, _, _, false, rfl, .ty _, .base (.int n), kit_ty (by decide +kernel), _, rfl, q⟩⟩
def spis_count (_ : PySem.W.Frag) (_ : Addr) : Sp := fun vs H Q _ => ∃ n : Nat, vs = [.int (n : Int)] ∧ Q (.bl true) H
theorem okis_count (D : Def K mg "is_count" sis_count ["value"]) (B : Bs mg) (Glb : Glo mg) (WK : WebK K mg C)
    (his_integer : Good P w K mg base "is_integer" sis_integer ["value"] 1 (spis_integer K C)) :
    Good P w K mg base "is_count" sis_count ["value"] 2 (spis_count K C) := by
  refine D.good fun f fd F => ?_
  obtain ⟨fis_integer, dis_integer, Ois_integer, mis_integer, kis_integer, bis_integer, Fis_integer⟩ := his_integer
  refine F.ok scis_count (fun vs H Q E h => ?_) (fun cdv A outer s H vs Q E hr h => ?_)
  · obtain ⟨n, rfl, q⟩ := h
    first | rfl | (rcases h with ⟨_, _, rfl, _⟩ | ⟨_, rfl, _⟩ <;> rfl)
  obtain ⟨n, rfl, q⟩ := h
  refine ⟨_, (pss_one (ps_ret (pe_and (pe_call Ois_integer hr rfl mis_integer kis_integer bis_integer .nil pass0 (pa_cons (pv 0) pa_nil)) (pe_one (pe_cmpR op_ge (pv 0) pe_int (nomark _)))))), ?_⟩
  exact ⟨_, rfl, n, rfl, _, rfl, iteT ⟨_, rfl, _, _, rfl, rfl, bl_true (by omega) q⟩⟩
def spis_between (_ : PySem.W.Frag) (_ : Addr) : Sp := fun vs H Q _ => ∃ n a b : Int, vs = [.int n, .int a, .int b] ∧ a ≤ n ∧ n ≤ b ∧ Q (.bl true) H
theorem okis_between (D : Def K mg "is_between" sis_between ["value", "least", "most"]) (B : Bs mg) (Glb : Glo mg) (WK : WebK K mg C)
    (his_integer : Good P w K mg base "is_integer" sis_integer ["value"] 1 (spis_integer K C)) :
    Good P w K mg base "is_between" sis_between ["value", "least", "most"] 2 (spis_between K C) := by
  refine D.good fun f fd F => ?_
  obtain ⟨fis_integer, dis_integer, Ois_integer, mis_integer, kis_integer, bis_integer, Fis_integer⟩ := his_integer
  refine F.ok scis_between (fun vs H Q E h => ?_) (fun cdv A outer s H vs Q E hr h => ?_)
  · obtain ⟨n, a, b, rfl, h1, h2, q⟩ := h
    first | rfl | (rcases h with ⟨_, _, rfl, _⟩ | ⟨_, rfl, _⟩ <;> rfl)
  obtain ⟨n, a, b, rfl, h1, h2, q⟩ := h
  refine ⟨_, (pss_one (ps_ret (pe_and (pe_call Ois_integer hr rfl mis_integer kis_integer bis_integer .nil pass0 (pa_cons (pv 0) pa_nil)) (pe_one (pe_chain op_le op_le (pv 1) (pv 0) (pv 2)))))), ?_⟩
  exact ⟨_, rfl, n, rfl, _, rfl, iteT ⟨_, rfl, _, rfl, _, _, rfl, rfl, _, rfl, iteYes h1 ⟨_, rfl, _, _, rfl, rfl, bl_true h2 q⟩⟩⟩
def spis_listed (_ : PySem.W.Frag) (_ : Addr) : Sp := fun vs H Q _ => ∃ a, vs = [.ref a] ∧ ((∃ xs, H a = some (.lst xs)) ∨ (∃ xs, H a = some (.tup xs))) ∧ ∀ H', Same H H' → Q (.bl true) H'
theorem okis_listed (D : Def K mg "is_listed" sis_listed ["value"]) (B : Bs mg) (Glb : Glo mg) (WK : WebK K mg C) :
    Good P w K mg base "is_listed" sis_listed ["value"] 1 (spis_listed K C) := by
  refine D.good fun f fd F => ?_
  refine F.ok scis_listed (fun vs H Q E h => ?_) (fun cdv A outer s H vs Q E hr h => ?_)
  · obtain ⟨a, rfl, ha, q⟩ := h
    first | rfl | (rcases h with ⟨_, _, rfl, _⟩ | ⟨_, rfl, _⟩ <;> rfl)
  obtain ⟨a, rfl, ha, q⟩ := h
  refine ⟨_, (pss_one (ps_ret (pe_callB call_isiT (by rfl) B.isinstance (by decide +kernel) (pa_cons (pv 0) (pa_cons (pe_tup (pa_cons (pe_bltn (v := .ty "list") (by rfl) B.list (by decide +kernel) rfl) (pa_cons (pe_bltn (v := .ty "tuple") (by rfl) B.tuple (by decide +kernel) rfl) pa_nil))) pa_nil))))), ?_⟩
  refine ⟨_, rfl, (by show 2 ≤ sizeLine; decide), fun tp ntp => ?_⟩
  rcases ha with ⟨xs, ha⟩ | ⟨xs, ha⟩
  · exact ⟨_, tp, [.ty "list", .ty "tuple"], .type "list", [.type "list", .type "tuple"], true, rfl, upd_same, .cons (.ty _) (.cons (.ty _) .nil), .base (.lst (same_new ntp _ _ _ ha)), kitAny_cons (b := true) (kit_ty (by decide +kernel)) (fun h => by cases h) (fun _ => rfl), q _ (same_new ntp _)⟩
  · exact ⟨_, tp, [.ty "list", .ty "tuple"], .type "tuple", [.type "list", .type "tuple"], true, rfl, upd_same, .cons (.ty _) (.cons (.ty _) .nil), .base (.tup (same_new ntp _ _ _ ha)), kitAny_cons (b := false) (kit_ty (by decide +kernel)) (fun _ => kitAny_cons (b := true) (kit_ty (by decide +kernel)) (fun h => by cases h) (fun _ => rfl)) (fun h => by cases h), q _ (same_new ntp _)⟩
end
end My
namespace My
open PySem L2 PyProof.Rows
theorem of_a : Str.ofString "a" = ⟨#[97]⟩ := by decide +kernel
theorem of_z : Str.ofString "z" = ⟨#[122]⟩ := by decide +kernel
theorem not_lt_one {a b : Nat} (h : b ≤ a) : ¬ ((⟨#[a]⟩ : Str).cps.toList < (⟨#[b]⟩ : Str).cps.toList) := by
  show ¬ ([a] < [b])
  rw [List.cons_lt_cons_iff]
  rintro (z | ⟨_, z⟩)
  · omega
  · exact absurd z (List.lt_irrefl [])
/-- a text -/
structure OkT (x : Str) : Prop where
  len : x.length ≤ 400
  let_ : ∀ c ∈ x.cps.toList, 97 ≤ c ∧ c ≤ 122
theorem line400 {n : Nat} (h : n ≤ 400) : n ≤ sizeLine := Nat.le_trans h (by decide)
abbrev pc (x : Str) (s p : Nat) : Str := cutS x (some (p : Int)) (some ((p : Int) + (s : Int)))
def pcsN (x : Str) (s : Nat) : Nat → List Str
  | 0 => []
  | n + 1 => pcsN x s n ++ [pc x s n]
theorem pcsN_len (x : Str) (s : Nat) : ∀ n, (pcsN x s n).length = n
  | 0 => rfl
  | n + 1 => by unfold pcsN; rw [List.length_append, pcsN_len x s n]; rfl
abbrev pcs (x : Str) (s : Nat) : List Str := pcsN x s (x.length + 1 - s)
/-- readings: a list of pairs in the heap -/
def SIAt (H : Hp) (t : Addr) (e : Str × Int) : Prop := H t = some (.tup [.str e.1, .int e.2])
def RdAt (H : Hp) (l : Addr) (L : List (Str × Int)) : Prop := ∃ ts : List Addr, H l = some (.lst (ts.map V.ref)) ∧ Paired (SIAt H) ts L
theorem RdAt.same {H H' : Hp} {l : Addr} {L : List (Str × Int)} (h : RdAt H l L) (s : Same H H') : RdAt H' l L := by
  obtain ⟨ts, h1, h2⟩ := h
  exact ⟨ts, s _ _ h1, paired_mono (fun p e hp => s _ _ hp) h2⟩
theorem ref_at {ts : List Addr} {i : Nat} {v : V} (h : (ts.map V.ref)[i]? = some v) : ∃ p, ts[i]? = some p ∧ v = .ref p := by
  rw [List.getElem?_map] at h
  cases e : ts[i]? with
  | none => rw [e] at h; cases h
  | some p => rw [e] at h; exact ⟨p, rfl, (Option.some.inj h).symm⟩
theorem str_at {xs : List Str} {i : Nat} {v : V} (h : (xs.map V.str)[i]? = some v) : ∃ x, xs[i]? = some x ∧ v = .str x := by
  rw [List.getElem?_map] at h
  cases e : xs[i]? with
  | none => rw [e] at h; cases h
  | some p => rw [e] at h; exact ⟨p, rfl, (Option.some.inj h).symm⟩
/-- numbers put together -/
def sumT : List (Str × Int) → List (Str × Int) → List (Str × Int)
  | D, [] => D
  | D, e :: r => sumT (addT D e.1 e.2) r
theorem sumT_app (L M : List (Str × Int)) : ∀ D, sumT D (L ++ M) = sumT (sumT D L) M := by
  induction L with
  | nil => intro D; rfl
  | cons e r ih => intro D; exact ih _
theorem sumT_nodup (L : List (Str × Int)) : ∀ {D : List (Str × Int)}, (D.map Prod.fst).Nodup → ((sumT D L).map Prod.fst).Nodup := by
  induction L with
  | nil => intro D h; exact h
  | cons e r ih => intro D h; exact ih (addT_nodup h)
theorem sumT_len (L : List (Str × Int)) : ∀ D, (sumT D L).length ≤ D.length + L.length := by
  induction L with
  | nil => intro D; exact Nat.le_refl _
  | cons e r ih =>
    intro D
    have h1 := ih (addT D e.1 e.2)
    have h2 := addT_len e.1 e.2 D
    show (sumT (addT D e.1 e.2) r).length ≤ D.length + (r.length + 1)
    omega
/-- the pieces of texts, each with its number -/
def pcsT (s : Nat) (L : List (Str × Int)) : List (Str × Int) := L.flatMap fun e => (pcs e.1 s).map fun p => (p, e.2)
section
variable {P : Program} {w : World} {K : PySem.W.Frag} {mg : Str → Option Value} {base : Heap} {C : Addr}
def spis_size (_ : PySem.W.Frag) (_ : Addr) : Sp := fun vs H Q _ => ∃ n : Nat, vs = [.int (n : Int)] ∧ 2 ≤ n ∧ n ≤ 8 ∧ Q (.bl true) H
theorem okis_size (D : Def K mg "is_size" sis_size ["value"]) (B : Bs mg) (Glb : Glo mg) (WK : WebK K mg C)
    (his_between : Good P w K mg base "is_between" sis_between ["value", "least", "most"] 2 (spis_between K C)) :
    Good P w K mg base "is_size" sis_size ["value"] 3 (spis_size K C) := by
  refine D.good fun f fd F => ?_
  obtain ⟨fis_between, dis_between, Ois_between, mis_between, kis_between, bis_between, Fis_between⟩ := his_between
  refine F.ok scis_size (fun vs H Q E h => ?_) (fun cdv A outer s H vs Q E hr h => ?_)
  · obtain ⟨n, rfl, h1, h2, q⟩ := h
    first | rfl | (rcases h with ⟨_, _, rfl, _⟩ | ⟨_, rfl, _⟩ <;> rfl)
  obtain ⟨n, rfl, h1, h2, q⟩ := h
  refine ⟨_, (pss_one (ps_ret (pe_call Ois_between hr rfl mis_between kis_between bis_between .nil pass0 (pa_cons (pv 0) (pa_cons pe_int (pa_cons pe_int pa_nil)))))), ?_⟩
  exact ⟨_, rfl, n, 2, 8, rfl, by omega, by omega, q⟩
def spneed_size (_ : PySem.W.Frag) (_ : Addr) : Sp := fun vs H Q _ => ∃ n : Nat, vs = [.int (n : Int)] ∧ 2 ≤ n ∧ n ≤ 8 ∧ Q .non H
theorem okneed_size (D : Def K mg "need_size" sneed_size ["size"]) (B : Bs mg) (Glb : Glo mg) (WK : WebK K mg C)
    (his_size : Good P w K mg base "is_size" sis_size ["value"] 3 (spis_size K C)) :
    Good P w K mg base "need_size" sneed_size ["size"] 4 (spneed_size K C) := by
  refine D.good fun f fd F => ?_
  obtain ⟨fis_size, dis_size, Ois_size, mis_size, kis_size, bis_size, Fis_size⟩ := his_size
  refine F.ok scneed_size (fun vs H Q E h => ?_) (fun cdv A outer s H vs Q E hr h => ?_)
  · obtain ⟨n, rfl, h1, h2, q⟩ := h
    first | rfl | (rcases h with ⟨_, _, rfl, _⟩ | ⟨_, rfl, _⟩ <;> rfl)
  obtain ⟨n, rfl, h1, h2, q⟩ := h
  refine ⟨_, (pss_one (ps_if (pt_not (pt_val (pe_call Ois_size hr rfl mis_size kis_size bis_size .nil pass0 (pa_cons (pv 0) pa_nil))))
    (pss_one ps_never) pss_nil)), ?_⟩
  exact ⟨_, rfl, n, rfl, h1, h2, _, rfl, iteF q⟩
def spis_times (_ : PySem.W.Frag) (_ : Addr) : Sp := fun vs H Q _ => ∃ n : Int, vs = [.int n] ∧ 1 ≤ n ∧ n ≤ 20 ∧ Q (.bl true) H
theorem okis_times (D : Def K mg "is_times" sis_times ["value"]) (B : Bs mg) (Glb : Glo mg) (WK : WebK K mg C)
    (his_between : Good P w K mg base "is_between" sis_between ["value", "least", "most"] 2 (spis_between K C)) :
    Good P w K mg base "is_times" sis_times ["value"] 3 (spis_times K C) := by
  refine D.good fun f fd F => ?_
  obtain ⟨fis_between, dis_between, Ois_between, mis_between, kis_between, bis_between, Fis_between⟩ := his_between
  refine F.ok scis_times (fun vs H Q E h => ?_) (fun cdv A outer s H vs Q E hr h => ?_)
  · obtain ⟨n, rfl, h1, h2, q⟩ := h
    first | rfl | (rcases h with ⟨_, _, rfl, _⟩ | ⟨_, rfl, _⟩ <;> rfl)
  obtain ⟨n, rfl, h1, h2, q⟩ := h
  refine ⟨_, (pss_one (ps_ret (pe_call Ois_between hr rfl mis_between kis_between bis_between .nil pass0 (pa_cons (pv 0) (pa_cons pe_int (pa_cons pe_int pa_nil)))))), ?_⟩
  exact ⟨_, rfl, n, 1, 20, rfl, h1, h2, q⟩
def spneed_times (_ : PySem.W.Frag) (_ : Addr) : Sp := fun vs H Q _ => ∃ n : Int, vs = [.int n] ∧ 1 ≤ n ∧ n ≤ 20 ∧ Q .non H
theorem okneed_times (D : Def K mg "need_times" sneed_times ["times"]) (B : Bs mg) (Glb : Glo mg) (WK : WebK K mg C)
    (his_times : Good P w K mg base "is_times" sis_times ["value"] 3 (spis_times K C)) :
    Good P w K mg base "need_times" sneed_times ["times"] 4 (spneed_times K C) := by
  refine D.good fun f fd F => ?_
  obtain ⟨fis_times, dis_times, Ois_times, mis_times, kis_times, bis_times, Fis_times⟩ := his_times
  refine F.ok scneed_times (fun vs H Q E h => ?_) (fun cdv A outer s H vs Q E hr h => ?_)
  · obtain ⟨n, rfl, h1, h2, q⟩ := h
    first | rfl | (rcases h with ⟨_, _, rfl, _⟩ | ⟨_, rfl, _⟩ <;> rfl)
  obtain ⟨n, rfl, h1, h2, q⟩ := h
  refine ⟨_, (pss_one (ps_if (pt_not (pt_val (pe_call Ois_times hr rfl mis_times kis_times bis_times .nil pass0 (pa_cons (pv 0) pa_nil))))
    (pss_one ps_never) pss_nil)), ?_⟩
  exact ⟨_, rfl, n, rfl, h1, h2, _, rfl, iteF q⟩
def spis_letter (_ : PySem.W.Frag) (_ : Addr) : Sp := fun vs H Q _ => ∃ c : Nat, vs = [.str ⟨#[c]⟩] ∧ 97 ≤ c ∧ c ≤ 122 ∧ Q (.bl true) H
theorem okis_letter (D : Def K mg "is_letter" sis_letter ["sign"]) (B : Bs mg) (Glb : Glo mg) (WK : WebK K mg C) :
    Good P w K mg base "is_letter" sis_letter ["sign"] 1 (spis_letter K C) := by
  refine D.good fun f fd F => ?_
  refine F.ok scis_letter (fun vs H Q E h => ?_) (fun cdv A outer s H vs Q E hr h => ?_)
  · obtain ⟨c, rfl, h1, h2, q⟩ := h
    first | rfl | (rcases h with ⟨_, _, rfl, _⟩ | ⟨_, rfl, _⟩ <;> rfl)
  obtain ⟨c, rfl, h1, h2, q⟩ := h
  refine ⟨_, (pss_one (ps_ret (pe_chain op_le_str op_le_str pe_str (pv 0) pe_str))), ?_⟩
  have k1 : ¬ ((⟨#[c]⟩ : Str).cps.toList < (Str.ofString "a").cps.toList) := by
    rw [of_a]
    exact not_lt_one h1
  have k2 : ¬ ((Str.ofString "z").cps.toList < (⟨#[c]⟩ : Str).cps.toList) := by
    rw [of_z]
    exact not_lt_one h2
  refine ⟨_, rfl, _, _, rfl, rfl, _, rfl, iteNot k1 ⟨_, _, rfl, rfl, ?_⟩⟩
  show Q (.bl (!decide _)) _
  rw [decide_eq_false k2]
  exact q
def spis_text (_ : PySem.W.Frag) (_ : Addr) : Sp := fun vs H Q _ => ∃ x, vs = [.str x] ∧ OkT x ∧ Q (.bl true) H
theorem okis_text (D : Def K mg "is_text" sis_text ["value"]) (B : Bs mg) (Glb : Glo mg) (WK : WebK K mg C)
    (his_letter : Good P w K mg base "is_letter" sis_letter ["sign"] 1 (spis_letter K C)) :
    Good P w K mg base "is_text" sis_text ["value"] 2 (spis_text K C) := by
  refine D.good fun f fd F => ?_
  obtain ⟨fis_letter, dis_letter, Ois_letter, mis_letter, kis_letter, bis_letter, Fis_letter⟩ := his_letter
  refine F.ok scis_text (fun vs H Q E h => ?_) (fun cdv A outer s H vs Q E hr h => ?_)
  · obtain ⟨x, rfl, hl, q⟩ := h
    first | rfl | (rcases h with ⟨_, _, rfl, _⟩ | ⟨_, rfl, _⟩ <;> rfl)
  obtain ⟨x, rfl, hl, q⟩ := h
  refine ⟨_, (pss_cons (ps_if (PW.pt (pw_or (pt_not (pt_val (pe_callB call_isi (by rfl) B.isinstance (by decide +kernel) (pa_cons (pv 0) (pa_cons (pe_bltn (v := .ty "str") (by rfl) B.str (by decide +kernel) rfl) pa_nil))))) (pw_or1 (pt_cmpR op_gt (pe_callB call_len_str (by rfl) B.len (by decide +kernel) (pa_cons (pv 0) pa_nil)) (pe_globI Glb.MOST_LETTERS) (nomark _)))))
    (pss_one (ps_ret pe_bl)) pss_nil)
  (pss_one (ps_ret (pe_drop (pe_callB (cr_all rfl) (by rfl) B.all (by decide +kernel) (pa_cons (pe_lc (own := [("sign", 1)]) (g := gName 1) (by rfl) scis_text.nd (pi_str (pv 0)) (blkOk_by (own := [("sign", 1)]) (N := ["value", "sign"]) (sc := defScope sis_text) (by decide +kernel)) (fun _ _ _ _ _ => (pg_name (i := 1) scis_text.nd rfl (by first | exact Or.inl rfl | exact Or.inr rfl))) (fun _ _ _ _ _ => pts_nil) (fun _ _ _ _ _ => (pe_call Ois_letter hr rfl mis_letter kis_letter bis_letter .nil pass0 (pa_cons (pv 1) pa_nil)))) pa_nil)))))), ?_⟩
  have hlen := hl.len
  refine ⟨_, rfl, _, _, _, _, true, rfl, .ty _, .base (.str _), kit_ty (by decide +kernel), _, rfl, iteF ⟨_, rfl, _, rfl, line400 hlen, _, _, rfl, rfl, _, rfl, iteNo (by omega) ?_⟩⟩
  refine ⟨_, rfl, _, rfl, fun D nD => lc_it walk_str (fun i H' => H' = upd H D (.lst ((List.replicate i true).map V.bl))) rfl (fun _ _ _ _ => trivial) ?_ ?_⟩
  · rintro i y H1 H2 hi rfl ⟨rfl, c, hc, rfl⟩
    have hm := hl.let_ c (by
      have := Array.mem_of_getElem? hc
      simpa using this)
    refine ⟨rfl, _, rfl, c, rfl, hm.1, hm.2, _, upd_same, ?_, ?_⟩
    · rw [List.length_map, List.length_replicate]
      have hi2 : i < x.length := hi
      exact Nat.lt_of_lt_of_le (by omega : i < 1000) (by decide)
    · rw [upd_upd, List.replicate_succ', List.map_append]
      rfl
  · rintro H1 rfl
    refine ⟨D, _, rfl, SqL.of upd_same, D, _, H, rfl, nD, bl_is1 ?_ q⟩
    rw [List.all_eq_true]
    intro b hb
    rw [List.eq_of_mem_replicate hb]
    rfl
def spneed_text (_ : PySem.W.Frag) (_ : Addr) : Sp := fun vs H Q _ => ∃ x, vs = [.str x] ∧ OkT x ∧ Q .non H
theorem okneed_text (D : Def K mg "need_text" sneed_text ["text"]) (B : Bs mg) (Glb : Glo mg) (WK : WebK K mg C)
    (his_text : Good P w K mg base "is_text" sis_text ["value"] 2 (spis_text K C)) :
    Good P w K mg base "need_text" sneed_text ["text"] 3 (spneed_text K C) := by
  refine D.good fun f fd F => ?_
  obtain ⟨fis_text, dis_text, Ois_text, mis_text, kis_text, bis_text, Fis_text⟩ := his_text
  refine F.ok scneed_text (fun vs H Q E h => ?_) (fun cdv A outer s H vs Q E hr h => ?_)
  · obtain ⟨x, rfl, hl, q⟩ := h
    first | rfl | (rcases h with ⟨_, _, rfl, _⟩ | ⟨_, rfl, _⟩ <;> rfl)
  obtain ⟨x, rfl, hl, q⟩ := h
  refine ⟨_, (pss_one (ps_if (pt_not (pt_val (pe_call Ois_text hr rfl mis_text kis_text bis_text .nil pass0 (pa_cons (pv 0) pa_nil))))
    (pss_one ps_never) pss_nil)), ?_⟩
  exact ⟨_, rfl, x, rfl, hl, _, rfl, iteF q⟩
def sppieces_along (_ : PySem.W.Frag) (_ : Addr) : Sp := fun vs H Q _ => ∃ x s, vs = [.str x, .int ((s : Nat) : Int)] ∧ x.length ≤ 400 ∧ s ≤ 8 ∧ ∀ H' l, Same H H' → H l = none → H' l = some (.lst ((pcs x s).map V.str)) → Q (.ref l) H'
theorem okpieces_along (D : Def K mg "pieces_along" spieces_along ["text", "size"]) (B : Bs mg) (Glb : Glo mg) (WK : WebK K mg C) :
    Good P w K mg base "pieces_along" spieces_along ["text", "size"] 1 (sppieces_along K C) := by
  refine D.good fun f fd F => ?_
  refine F.ok scpieces_along (fun vs H Q E h => ?_) (fun cdv A outer s H vs Q E hr h => ?_)
  · obtain ⟨x, s, rfl, hx, hs, q⟩ := h
    first | rfl | (rcases h with ⟨_, _, rfl, _⟩ | ⟨_, rfl, _⟩ <;> rfl)
  obtain ⟨x, s, rfl, hx, hs, q⟩ := h
  refine ⟨_, (pss_one (ps_ret (pe_lc (own := [("place", 2)]) (g := gName 2) (by rfl) scpieces_along.nd (pi_range1 (by rfl) B.range (pa_cons (pe_op op_add (pe_op op_sub (pe_callB call_len_str (by rfl) B.len (by decide +kernel) (pa_cons (pv 0) pa_nil)) (pv 1)) pe_int) pa_nil)) (blkOk_by (own := [("place", 2)]) (N := ["text", "size", "place"]) (sc := defScope spieces_along) (by decide +kernel)) (fun _ _ _ _ _ => (pg_name (i := 2) scpieces_along.nd rfl (by first | exact Or.inl rfl | exact Or.inr rfl))) (fun _ _ _ _ _ => pts_nil) (fun _ _ _ _ _ => (pe_slice sl_str (pv 0) (po_some (pv 2)) (po_some (pe_op op_add (pv 2) (pv 1)))))))), ?_⟩
  refine ⟨_, rfl, _, rfl, line400 hx, _, rfl, _, _, rfl, rfl, _, _, rfl, rfl, _, rfl, by omega, by omega, fun D nD => ?_⟩
  rw [show ((x.length : Nat) : Int) - (s : Int) + 1 = ((x.length : Nat) : Int) + 1 - (s : Int) by omega]
  rw [show (((x.length : Nat) : Int) + 1 - (s : Int)).toNat = x.length + 1 - s by omega]
  refine lc_range (lo := 0) (n := x.length + 1 - s) (fun i H' => Same H H' ∧ H' D = some (.lst ((pcsN x s i).map V.str))) ⟨same_new nD _, upd_same⟩ ?_ ?_
  · rintro i H1 hi ⟨hS, hD⟩
    rw [Int.zero_add]
    refine ⟨rfl, _, rfl, _, rfl, _, rfl, _, rfl, _, rfl, _, _, rfl, rfl, _, rfl, _, rfl, line400 hx, _, hD, ?_, same_upd hS nD, ?_⟩
    · rw [List.length_map, pcsN_len]
      exact Nat.lt_of_le_of_lt (by omega : i ≤ 1000) (by decide)
    · rw [upd_same, show pcsN x s (i + 1) = pcsN x s i ++ [pc x s i] from rfl, List.map_append]
      rfl
  · rintro H1 ⟨hS, hD⟩
    exact q H1 D hS nD hD
/-- the texts of the readings and their numbers -/
def OkRd (L : List (Str × Int)) : Prop := ∀ e ∈ L, OkT e.1 ∧ 1 ≤ e.2 ∧ e.2 ≤ 1200
theorem si_at {H : Hp} {ts : List Addr} {L : List (Str × Int)} (hP : Paired (SIAt H) ts L) {i : Nat} {v : V} (h : (ts.map V.ref)[i]? = some v) : ∃ p e, v = .ref p ∧ L[i]? = some e ∧ SIAt H p e := by
  obtain ⟨p, hp, rfl⟩ := ref_at h
  obtain ⟨e, he, hpe⟩ := paired_get hP hp
  exact ⟨p, e, rfl, he, hpe⟩
theorem sumT_snoc (D L : List (Str × Int)) (e : Str × Int) : sumT D (L ++ [e]) = addT (sumT D L) e.1 e.2 := by
  rw [sumT_app]
  rfl
theorem take_snoc {α : Type} {L : List α} {i : Nat} {e : α} (h : L[i]? = some e) : L.take (i + 1) = L.take i ++ [e] := by rw [List.take_succ, h]; rfl
def sp_times_together (_ : PySem.W.Frag) (_ : Addr) : Sp := fun vs H Q _ => ∃ l L, vs = [.ref l] ∧ RdAt H l L ∧ L.length ≤ 1000 ∧ ∀ H' d, Same H H' → H d = none → H' d = some (.dK (dT (sumT [] L))) → Q (.ref d) H'
theorem ok_times_together (D : Def K mg "_times_together" s_times_together ["readings"]) (B : Bs mg) (Glb : Glo mg) (WK : WebK K mg C) :
    Good P w K mg base "_times_together" s_times_together ["readings"] 1 (sp_times_together K C) := by
  refine D.good fun f fd F => ?_
  refine F.ok sc_times_together (fun vs H Q E h => ?_) (fun cdv A outer s H vs Q E hr h => ?_)
  · obtain ⟨l, L, rfl, ⟨ts, hl, hP⟩, hlen, q⟩ := h
    first | rfl | (rcases h with ⟨_, _, rfl, _⟩ | ⟨_, rfl, _⟩ <;> rfl)
  obtain ⟨l, L, rfl, ⟨ts, hl, hP⟩, hlen, q⟩ := h
  refine ⟨_, (pss_cons (ps_set (i := 1) sc_times_together.nd rfl (by first | exact Or.inl rfl | exact Or.inr rfl) pe_dnewK)
  (pss_cons (ps_for PassesOwn.never rfl (pi_list (pv 0)) (pg_tup rfl (pgs_cons (pg_name (i := 2) sc_times_together.nd rfl (by first | exact Or.inl rfl | exact Or.inr rfl)) (pgs_cons (pg_name (i := 3) sc_times_together.nd rfl (by first | exact Or.inl rfl | exact Or.inr rfl)) pgs_nil)))
    (pss_one (ps_dput (hu_of hr) (pv 1) (pv 2) (pe_op op_add (pe_dget2 (hu_of hr) (pv 1) (pv 2) pe_int ⟨rfl, rfl, rfl, rfl⟩) (pv 3)) rfl)))
  (pss_one (ps_ret (pv 1))))), ?_⟩
  intro d nd
  refine ⟨_, rfl, l, rfl, ⟨_, SqL.of (same_new nd _ _ _ hl)⟩, ?_⟩
  refine for_list (K := K) (a := l) (xs := ts.map V.ref) (fun i σ H' => ∃ v2 v3 : Option V, σ = [some (.ref l), some (.ref d), v2, v3] ∧ Same H H' ∧ H' d = some (.dK (dT (sumT [] (L.take i))))) ⟨none, none, rfl, same_new nd _, upd_same⟩ (fun i σ H' _ ⟨_, _, _, hS', _⟩ => SqL.of (hS' _ _ hl)) ?_ ?_
  · rintro i x σ H1 hx ⟨v2, v3, rfl, hS, hd⟩
    obtain ⟨p, e, rfl, he, hpe⟩ := si_at hP hx
    have hp1 : H1 p = some (.tup [.str e.1, .int e.2]) := hS _ _ hpe
    refine ⟨p, _, rfl, SqT.of hp1, rfl, _, _, rfl, _, _, rfl, rfl, ?_⟩
    have hget : DGet H1 d (.str e.1) (valV (dT (sumT [] (L.take i))) (Sum.inr e.1 : Key)) := DGet.k (k := Sum.inr e.1) hd
    have hlt : (dT (sumT [] (L.take i))).length < sizeLine := by
      have h1 := sumT_len (L.take i) []
      rw [List.length_take] at h1
      rw [List.length_map]
      exact Nat.lt_of_le_of_lt (by simp at h1; omega : (sumT [] (L.take i)).length ≤ 1000) (by decide)
    refine ⟨_, rfl, d, rfl, .inl ⟨_, .inl hd⟩, _, rfl, _, hget, _, rfl, ?_⟩
    rw [dT_getD]
    refine ⟨_, _, rfl, rfl, _, rfl, _, rfl, d, _, rfl, DPut.k (k := Sum.inr e.1) hd hlt, ?_⟩
    rw [dT_put (sumT_nodup _ (by simp))]
    refine ⟨_, _, rfl, same_upd hS nd, ?_⟩
    rw [upd_same, take_snoc he, sumT_snoc]
  · rintro σ H1 ⟨v2, v3, rfl, hS, hd⟩
    rw [List.length_map, paired_len hP, List.take_length] at hd
    exact ⟨_, rfl, q H1 d hS nd hd⟩
end
end My
namespace My
open PySem L2 PyProof.Rows
abbrev told (D : List (Str × Int)) : List (Str × Int) := D.mergeSort (PySem.W.dataLe false encSI)
theorem pcsT_len (s : Nat) : ∀ {L : List (Str × Int)}, (∀ e ∈ L, e.1.length ≤ 400) → (pcsT s L).length ≤ L.length * 401
  | [], _ => by simp [pcsT]
  | e :: r, h => by
    have h1 := pcsT_len s (L := r) fun f hf => h f (List.mem_cons_of_mem _ hf)
    have h2 := h e List.mem_cons_self
    have h3 : (pcsT s (e :: r)).length = ((pcs e.1 s).map fun p => (p, e.2)).length + (pcsT s r).length := by
      show (((pcs e.1 s).map fun p => (p, e.2)) ++ pcsT s r).length = _
      exact List.length_append
    rw [h3, List.length_map, pcsN_len, List.length_cons]
    omega
theorem pcsT_snoc (s : Nat) (L : List (Str × Int)) (e : Str × Int) : pcsT s (L ++ [e]) = pcsT s L ++ (pcs e.1 s).map fun p => (p, e.2) := by
  unfold pcsT
  rw [List.flatMap_append]
  simp
theorem take_map {α β : Type} {f : α → β} {L : List α} {j : Nat} {x : α} (h : L[j]? = some x) : (L.map f).take (j + 1) = (L.map f).take j ++ [f x] := take_snoc (by rw [List.getElem?_map, h]; rfl)
section
variable {P : Program} {w : World} {K : PySem.W.Frag} {mg : Str → Option Value} {base : Heap} {C : Addr}
def sppieces_often (_ : PySem.W.Frag) (_ : Addr) : Sp := fun vs H Q _ => ∃ l L s, vs = [.ref l, .int ((s : Nat) : Int)] ∧ RdAt H l L ∧ L.length ≤ 200 ∧ (∀ e ∈ L, e.1.length ≤ 400) ∧ s ≤ 8 ∧ ∀ H' p, Same H H' → H p = none → RdAt H' p (told (sumT [] (pcsT s L))) → Q (.ref p) H'
theorem okpieces_often (D : Def K mg "pieces_often" spieces_often ["readings", "size"]) (B : Bs mg) (Glb : Glo mg) (WK : WebK K mg C)
    (hpieces_along : Good P w K mg base "pieces_along" spieces_along ["text", "size"] 1 (sppieces_along K C)) :
    Good P w K mg base "pieces_often" spieces_often ["readings", "size"] 2 (sppieces_often K C) := by
  refine D.good fun f fd F => ?_
  obtain ⟨fpieces_along, dpieces_along, Opieces_along, mpieces_along, kpieces_along, bpieces_along, Fpieces_along⟩ := hpieces_along
  refine F.ok scpieces_often (fun vs H Q E h => ?_) (fun cdv A outer s H vs Q E hr h => ?_)
  · obtain ⟨l, L, s, rfl, ⟨ts, hl, hP⟩, hlen, hok, hs, q⟩ := h
    first | rfl | (rcases h with ⟨_, _, rfl, _⟩ | ⟨_, rfl, _⟩ <;> rfl)
  obtain ⟨l, L, s, rfl, ⟨ts, hl, hP⟩, hlen, hok, hs, q⟩ := h
  refine ⟨_, (pss_cons (ps_set (i := 2) scpieces_often.nd rfl (by first | exact Or.inl rfl | exact Or.inr rfl) pe_dnewK)
  (pss_cons (ps_for PassesOwn.never rfl (pi_list (pv 0)) (pg_tup rfl (pgs_cons (pg_name (i := 3) scpieces_often.nd rfl (by first | exact Or.inl rfl | exact Or.inr rfl)) (pgs_cons (pg_name (i := 4) scpieces_often.nd rfl (by first | exact Or.inl rfl | exact Or.inr rfl)) pgs_nil)))
    (pss_one (ps_for PassesOwn.never rfl (pi_list (pe_call Opieces_along hr rfl mpieces_along kpieces_along bpieces_along .nil pass0 (pa_cons (pv 3) (pa_cons (pv 1) pa_nil)))) (pg_name (i := 5) scpieces_often.nd rfl (by first | exact Or.inl rfl | exact Or.inr rfl))
    (pss_one (ps_dput (hu_of hr) (pv 2) (pv 5) (pe_op op_add (pe_dget2 (hu_of hr) (pv 2) (pv 5) pe_int ⟨rfl, rfl, rfl, rfl⟩) (pv 4)) rfl)))))
  (pss_one (ps_ret (pe_callB (cr_sortItK rfl hr.units) (by rfl) B.sorted (by decide +kernel) (pa_cons (pe_bm0 PySem.F.plainAttrs_dict PySem.F.slot_dict_items PySem.F.type_dict_items mt_itemsK (pv 2)) pa_nil)))))), ?_⟩
  intro d nd
  have hbig := pcsT_len s hok
  have small : ∀ {D : List (Str × Int)}, D.length ≤ 90000 → (dT D).length < sizeLine := fun h => by
    rw [List.length_map]
    exact Nat.lt_of_le_of_lt h (by decide)
  refine ⟨_, rfl, l, rfl, ⟨_, SqL.of (same_new nd _ _ _ hl)⟩, ?_⟩
  refine for_list (K := K) (a := l) (xs := ts.map V.ref) (fun i σ H' => ∃ v3 v4 v5 : Option V, σ = [some (.ref l), some (.int (s : Int)), some (.ref d), v3, v4, v5] ∧ Same H H' ∧ H' d = some (.dK (dT (sumT [] (pcsT s (L.take i)))))) ⟨none, none, none, rfl, same_new nd _, upd_same⟩ (fun i σ H' _ ⟨_, _, _, _, hS', _⟩ => SqL.of (hS' _ _ hl)) ?_ ?_
  · rintro i x σ H1 hx ⟨v3, v4, v5, rfl, hS, hd⟩
    obtain ⟨p, e, rfl, he, hpe⟩ := si_at hP hx
    have hp1 : H1 p = some (.tup [.str e.1, .int e.2]) := hS _ _ hpe
    have hle := hok e (List.mem_of_getElem? he)
    have hil : i < L.length := (List.getElem?_eq_some_iff.mp he).1
    refine ⟨p, _, rfl, SqT.of hp1, rfl, _, _, rfl, _, _, rfl, rfl, ?_⟩
    refine ⟨_, rfl, _, rfl, e.1, s, rfl, hle, hs, fun H2 m hS2 nm hm => ⟨m, rfl, ⟨_, SqL.of hm⟩, ?_⟩⟩
    have nmd : m ≠ d := fun z => by rw [z, hd] at nm; cases nm
    refine for_list (K := K) (a := m) (xs := (pcs e.1 s).map V.str) (fun j σ H' => ∃ v5 : Option V, σ = [some (.ref l), some (.int (s : Int)), some (.ref d), some (.str e.1), some (.int e.2), v5] ∧ Same H H' ∧ H' m = some (.lst ((pcs e.1 s).map V.str)) ∧ H' d = some (.dK (dT (sumT [] (pcsT s (L.take i) ++ ((pcs e.1 s).map fun p => (p, e.2)).take j))))) ?_ (fun j σ H' _ ⟨_, _, _, hm', _⟩ => SqL.of hm') ?_ ?_
    · exact ⟨v5, rfl, hS.trans hS2, hm, by rw [List.take_zero, List.append_nil]; exact hS2 _ _ hd⟩
    · rintro j y σ H3 hy ⟨w5, rfl, hS3, hm3, hd3⟩
      obtain ⟨z, hz, rfl⟩ := str_at hy
      have hjl : j < (pcs e.1 s).length := (List.getElem?_eq_some_iff.mp hz).1
      rw [pcsN_len] at hjl
      have hcount : (pcsT s (L.take i) ++ ((pcs e.1 s).map fun p => (p, e.2)).take j).length ≤ 90000 := by
        have h1 := pcsT_len s (L := L.take i) fun f hf => hok f (List.mem_of_mem_take hf)
        have h2 : (L.take i).length ≤ 200 := by rw [List.length_take]; omega
        have h3 : (L.take i).length * 401 ≤ 200 * 401 := Nat.mul_le_mul h2 (Nat.le_refl _)
        rw [List.length_append, List.length_take, List.length_map, pcsN_len]
        omega
      have hget : DGet H3 d (.str z) (valV (dT (sumT [] (pcsT s (L.take i) ++ ((pcs e.1 s).map fun p => (p, e.2)).take j))) (Sum.inr z : Key)) := DGet.k (k := Sum.inr z) hd3
      refine ⟨_, rfl, d, rfl, .inl ⟨_, .inl hd3⟩, _, rfl, _, hget, _, rfl, ?_⟩
      rw [dT_getD]
      refine ⟨_, _, rfl, rfl, _, rfl, _, rfl, d, _, rfl, DPut.k (k := Sum.inr z) hd3 (small (Nat.le_trans (by have := sumT_len (pcsT s (L.take i) ++ ((pcs e.1 s).map fun p => (p, e.2)).take j) []; simpa using this) hcount)), ?_⟩
      rw [dT_put (sumT_nodup _ (by simp))]
      refine ⟨_, rfl, same_upd hS3 nd, ?_, ?_⟩
      · rw [upd_ne nmd]; exact hm3
      · rw [upd_same, take_map hz, ← List.append_assoc, sumT_snoc]
    · rintro σ H3 ⟨w5, rfl, hS3, hm3, hd3⟩
      refine ⟨_, _, _, rfl, hS3, ?_⟩
      rw [List.length_map] at hd3
      rw [take_snoc he, pcsT_snoc, hd3]
      rw [show ((pcs e.1 s).map fun p => (p, e.2)).take (pcs e.1 s).length = (pcs e.1 s).map fun p => (p, e.2) from List.take_of_length_le (by rw [List.length_map]; exact Nat.le_refl _)]
  · rintro σ H1 ⟨v3, v4, v5, rfl, hS, hd⟩
    rw [List.length_map, paired_len hP, List.take_length] at hd
    refine ⟨_, rfl, .inr (.inr (.inl ⟨rfl, .inl ⟨_, hd⟩⟩)), d, _, rfl, rfl, hd, fun p0 np0 => ?_⟩
    have hd2 : upd H1 p0 (DX.itemsO p0 d) d = some (.dK (dT (sumT [] (pcsT s L)))) := same_new np0 _ _ _ hd
    refine ⟨p0, d, sumT [] (pcsT s L), rfl, upd_same, hd2, ?_, fun H2 p us hS2 np hp hU => q H2 p (fun b o e => hS2 _ _ (same_new np0 _ _ _ (hS _ _ e))) ?_ ⟨us, hp, hU⟩⟩
    · have h1 := sumT_len (pcsT s L) []
      have h2 : L.length * 401 ≤ 200 * 401 := Nat.mul_le_mul hlen (Nat.le_refl _)
      simp at h1
      omega
    · exact hS.free ((same_new (o := DX.itemsO p0 d) np0).free np)
end
end My
namespace My
open PySem L2 PyProof.Rows
theorem iteNS {c : Prop} [Decidable c] {A B : Prop} (h : c) (b : B) : if (!decide c) = true then A else B := iteNot' h b
def lf (s : Nat) (tl : Addr) : List (Str × V) := putF "_told" (.ref tl) (putF "_size" (.int (s : Int)) [])
theorem lf_S (s : Nat) (tl : Addr) : (lf s tl).lookup ("_size" : Str) = some (.int (s : Int)) := by
  unfold lf
  rw [lookup_putF, if_neg (by decide +kernel), lookup_putF, if_pos rfl]
theorem lf_T (s : Nat) (tl : Addr) : (lf s tl).lookup ("_told" : Str) = some (.ref tl) := by
  unfold lf
  rw [lookup_putF, if_pos rfl]
theorem lf_no (s : Nat) (tl : Addr) {m : Str} (h1 : ¬ m = "_told") (h2 : ¬ m = "_size") : (lf s tl).lookup m = none := by
  unfold lf
  rw [lookup_putF, if_neg h1, lookup_putF, if_neg h2]
  all_goals rfl
theorem putF_len (f : Str) (v : V) : ∀ l : List (Str × V), (putF f v l).length ≤ l.length + 1
  | [] => by simp [putF]
  | (g, x) :: r => by
    have := putF_len f v r
    unfold putF
    split
    · simp
    · simp; omega
/-- a lot: its told readings M stand in the list at tl -/
def LotAt (C a tl : Addr) (s : Nat) (M : List (Str × Int)) (H : Hp) : Prop := ∃ dx, H a = some (.ins C dx (lf s tl)) ∧ RdAt H tl M
theorem LotAt.same {C a tl : Addr} {s : Nat} {M : List (Str × Int)} {H H' : Hp} (h : LotAt C a tl s M H) (k : Same H H') : LotAt C a tl s M H' := by
  obtain ⟨dx, h1, h2⟩ := h
  exact ⟨dx, k _ _ h1, h2.same k⟩
section
variable {P : Program} {w : World} {K : PySem.W.Frag} {mg : Str → Option Value} {base : Heap} {C : Addr}
def spare_readings (_ : PySem.W.Frag) (_ : Addr) : Sp := fun vs H Q _ => ∃ l L, vs = [.ref l] ∧ RdAt H l L ∧ L.length ≤ 60 ∧ (∀ e ∈ L, OkT e.1 ∧ 1 ≤ e.2 ∧ e.2 ≤ 20) ∧ ∀ H', Same H H' → Q (.bl true) H'
theorem okare_readings (D : Def K mg "are_readings" sare_readings ["value"]) (B : Bs mg) (Glb : Glo mg) (WK : WebK K mg C)
    (his_listed : Good P w K mg base "is_listed" sis_listed ["value"] 1 (spis_listed K C))
    (his_text : Good P w K mg base "is_text" sis_text ["value"] 2 (spis_text K C))
    (his_times : Good P w K mg base "is_times" sis_times ["value"] 3 (spis_times K C)) :
    Good P w K mg base "are_readings" sare_readings ["value"] 4 (spare_readings K C) := by
  refine D.good fun f fd F => ?_
  obtain ⟨fis_listed, dis_listed, Ois_listed, mis_listed, kis_listed, bis_listed, Fis_listed⟩ := his_listed
  obtain ⟨fis_text, dis_text, Ois_text, mis_text, kis_text, bis_text, Fis_text⟩ := his_text
  obtain ⟨fis_times, dis_times, Ois_times, mis_times, kis_times, bis_times, Fis_times⟩ := his_times
  refine F.ok scare_readings (fun vs H Q E h => ?_) (fun cdv A outer s H vs Q E hr h => ?_)
  · obtain ⟨l, L, rfl, ⟨ts, hl, hP⟩, hlen, hok, q⟩ := h
    first | rfl | (rcases h with ⟨_, _, rfl, _⟩ | ⟨_, rfl, _⟩ <;> rfl)
  obtain ⟨l, L, rfl, ⟨ts, hl, hP⟩, hlen, hok, q⟩ := h
  refine ⟨_, (pss_cons (ps_if (PW.pt (pw_or (pt_not (pt_val (pe_call Ois_listed (hr.mono (by decide)) rfl mis_listed kis_listed bis_listed .nil pass0 (pa_cons (pv 0) pa_nil)))) (pw_or1 (pt_cmpR op_gt (pe_callB call_len_seq (by rfl) B.len (by decide +kernel) (pa_cons (pv 0) pa_nil)) (pe_globI Glb.MOST_READINGS) (nomark _)))))
    (pss_one (ps_ret pe_bl)) pss_nil)
  (pss_cons (ps_for PassesOwn.never rfl (pi_list (pv 0)) (pg_name (i := 1) scare_readings.nd rfl (by first | exact Or.inl rfl | exact Or.inr rfl))
    (pss_cons (ps_if (PW.pt (pw_or (pt_not (pt_val (pe_callB call_isi (by rfl) B.isinstance (by decide +kernel) (pa_cons (pv 1) (pa_cons (pe_bltn (v := .ty "tuple") (by rfl) B.tuple (by decide +kernel) rfl) pa_nil))))) (pw_or1 (pt_cmpR op_ne (pe_callB call_len_seq (by rfl) B.len (by decide +kernel) (pa_cons (pv 1) pa_nil)) pe_int (nomark _)))))
    (pss_one (ps_ret pe_bl)) pss_nil)
  (pss_one (ps_if (PW.pt (pw_or (pt_not (pt_val (pe_call Ois_text (hr.mono (by decide)) rfl mis_text kis_text bis_text .nil pass0 (pa_cons (pe_ix ix_tup (pv 1) pe_int (fun _ _ => rfl)) pa_nil)))) (pw_or1 (pt_not (pt_val (pe_call Ois_times hr rfl mis_times kis_times bis_times .nil pass0 (pa_cons (pe_ix ix_tup (pv 1) pe_int (fun _ _ => rfl)) pa_nil)))))))
    (pss_one (ps_ret pe_bl)) pss_nil))))
  (pss_one (ps_ret pe_bl)))), ?_⟩
  have hpl := paired_len hP
  refine ⟨_, rfl, l, rfl, .inl ⟨_, hl⟩, fun H1 hS1 => ⟨_, rfl, iteF ⟨_, rfl, _, _, rfl, .inl (SqL.of (hS1 _ _ hl)), _, _, rfl, rfl, _, rfl, iteNo (by rw [List.length_map]; omega) ?_⟩⟩⟩
  refine ⟨_, rfl, l, rfl, ⟨_, SqL.of (hS1 _ _ hl)⟩, for_list (K := K) (a := l) (xs := ts.map V.ref) (fun i σ H' => Same H H' ∧ ∃ v, σ = [some (.ref l), v]) ⟨hS1, none, rfl⟩ (fun i σ H' _ ⟨hS', _⟩ => SqL.of (hS' _ _ hl)) ?_ ?_⟩
  · rintro i x σ H2 hx ⟨hS2, v, rfl⟩
    obtain ⟨p, e, rfl, he, hpe⟩ := si_at hP hx
    have hp2 : H2 p = some (.tup [.str e.1, .int e.2]) := hS2 _ _ hpe
    obtain ⟨o1, o2, o3⟩ := hok e (List.mem_of_getElem? he)
    refine ⟨_, rfl, _, _, _, _, true, rfl, .ty _, .base (.tup hp2), kit_ty (by decide +kernel), _, rfl, iteF ⟨_, rfl, _, _, rfl, .inr (SqT.of hp2), rfl, _, rfl, iteNS rfl ?_⟩⟩
    exact ⟨_, rfl, _, _, _, .str e.1, rfl, rfl, SqT.of hp2, rfl, e.1, rfl, o1, _, rfl, iteF ⟨_, rfl, _, _, _, .int e.2, rfl, rfl, SqT.of hp2, rfl, e.2, rfl, o2, o3, _, rfl, iteF ⟨hS2, _, rfl⟩⟩⟩
  · rintro σ H2 ⟨hS2, v, rfl⟩
    exact q H2 hS2
def spLot___init__ (_ : PySem.W.Frag) (C : Addr) : Sp := fun vs H Q _ => ∃ a dx s l L, vs = [.ref a, .int ((s : Nat) : Int), .ref l] ∧ 2 ≤ s ∧ s ≤ 8 ∧ RdAt H l L ∧ L.length ≤ 60 ∧ (∀ e ∈ L, OkT e.1 ∧ 1 ≤ e.2 ∧ e.2 ≤ 20) ∧ H a = some (.ins C dx []) ∧ ∀ H' tl, H tl = none → Kept a H H' → LotAt C a tl s (told (sumT [] L)) H' → Q .non H'
theorem okLot___init__ (D : DefI K C "__init__" "Lot.__init__" sLot___init__ ["self", "size", "readings"]) (B : Bs mg) (Glb : Glo mg) (WK : WebK K mg C)
    (hneed_size : Good P w K mg base "need_size" sneed_size ["size"] 4 (spneed_size K C))
    (hare_readings : Good P w K mg base "are_readings" sare_readings ["value"] 4 (spare_readings K C))
    (h_times_together : Good P w K mg base "_times_together" s_times_together ["readings"] 1 (sp_times_together K C)) :
    GoodI P w K mg base C "__init__" "Lot.__init__" sLot___init__ ["self", "size", "readings"] 5 (spLot___init__ K C) := by
  refine D.good fun f fd F => ?_
  obtain ⟨fneed_size, dneed_size, Oneed_size, mneed_size, kneed_size, bneed_size, Fneed_size⟩ := hneed_size
  obtain ⟨fare_readings, dare_readings, Oare_readings, mare_readings, kare_readings, bare_readings, Fare_readings⟩ := hare_readings
  obtain ⟨f_times_together, d_times_together, O_times_together, m_times_together, k_times_together, b_times_together, F_times_together⟩ := h_times_together
  refine F.ok scLot___init__ (fun vs H Q E h => ?_) (fun cdv A outer s H vs Q E hr h => ?_)
  · obtain ⟨a, dx, s, l, L, rfl, hs1, hs2, hR, hlen, hok, ha, q⟩ := h
    first | rfl | (rcases h with ⟨_, _, rfl, _⟩ | ⟨_, rfl, _⟩ <;> rfl)
  obtain ⟨a, dx, s, l, L, rfl, hs1, hs2, hR, hlen, hok, ha, q⟩ := h
  refine ⟨_, (pss_cons (ps_expr (pe_call Oneed_size hr rfl mneed_size kneed_size bneed_size .nil pass0 (pa_cons (pv 1) pa_nil)))
  (pss_cons (ps_if (pt_not (pt_val (pe_call Oare_readings hr rfl mare_readings kare_readings bare_readings .nil pass0 (pa_cons (pv 2) pa_nil))))
    (pss_one ps_never) pss_nil)
  (pss_cons (ps_fld (pv 0) (pv 1) rfl)
  (pss_one (ps_fld (pv 0) (pe_callB (cr_sortItK rfl hr.units) (by rfl) B.sorted (by decide +kernel) (pa_cons (pe_bm0 PySem.F.plainAttrs_dict PySem.F.slot_dict_items PySem.F.type_dict_items mt_itemsK (pe_call O_times_together (hr.mono (by decide)) rfl m_times_together k_times_together b_times_together .nil pass0 (pa_cons (pv 2) pa_nil))) pa_nil)) rfl))))), ?_⟩
  refine ⟨_, rfl, s, rfl, hs1, hs2, ?_⟩
  refine ⟨_, rfl, l, L, rfl, hR, hlen, hok, fun H1 hS1 => ⟨_, rfl, iteF ?_⟩⟩
  have ha1 := hS1 _ _ ha
  refine ⟨_, rfl, _, rfl, a, C, dx, [], rfl, ha1, WK.cl, WK.nS, (by decide), ?_⟩
  have hk2 : Kept a H (upd H1 a (.ins C dx (putF "_size" (.int (s : Int)) []))) := fun b o e n => by rw [upd_ne n]; exact hS1 _ _ e
  have ha2 : upd H1 a (.ins C dx (putF "_size" (.int (s : Int)) [])) a = some (.ins C dx (putF "_size" (.int (s : Int)) [])) := upd_same
  generalize upd H1 a (.ins C dx (putF "_size" (.int (s : Int)) [])) = H2 at hk2 ha2
  have ntup : ∀ p e, SIAt H p e → p ≠ a := fun p e hp => ne_of hp ha (by intro z; cases z)
  have hR2 : RdAt H2 l L := by
    obtain ⟨ts, h1, h2⟩ := hR
    exact ⟨ts, hk2 _ _ h1 (ne_of h1 ha (by intro z; cases z)), paired_mono (fun p e hp => hk2 _ _ hp (ntup p e hp)) h2⟩
  refine ⟨_, rfl, l, L, rfl, hR2, by omega, fun H3 d hS3 nd hd => ⟨.inr (.inr (.inl ⟨rfl, .inl ⟨_, hd⟩⟩)), d, _, rfl, rfl, hd, fun p0 np0 => ?_⟩⟩
  have hd2 : upd H3 p0 (DX.itemsO p0 d) d = some (.dK (dT (sumT [] L))) := same_new np0 _ _ _ hd
  refine ⟨p0, d, sumT [] L, rfl, upd_same, hd2, ?_, fun H4 tl us hS4 ntl htl hU => ?_⟩
  · have h1 := sumT_len L []
    simp at h1
    omega
  have hS24 : Same H2 H4 := fun b o e => hS4 _ _ (same_new np0 _ _ _ (hS3 _ _ e))
  have ha4 := hS24 _ _ ha2
  have ntl2 : H2 tl = none := hS3.free ((same_new (o := DX.itemsO p0 d) np0).free ntl)
  have ntla : tl ≠ a := fun z => by rw [z, ha2] at ntl2; cases ntl2
  refine ⟨_, rfl, a, C, dx, _, rfl, ha4, WK.cl, WK.nT, Nat.lt_of_le_of_lt (putF_len _ _ _) (by decide), ?_⟩
  refine q _ tl ?_ (fun b o e n => by rw [upd_ne n]; exact hS24 _ _ (hk2 _ _ e n)) ⟨dx, upd_same, us, by rw [upd_ne ntla]; exact htl, paired_mono (fun p e hp => ?_) hU⟩
  · cases z : H tl with
    | none => rfl
    | some o =>
      rw [hk2 _ _ z ntla] at ntl2
      cases ntl2
  · have npa : p ≠ a := ne_of hp ha4 (by intro z; cases z)
    show upd _ _ _ p = _
    rw [upd_ne npa]
    exact hp
def spLot_size (_ : PySem.W.Frag) (C : Addr) : Sp := fun vs H Q _ => ∃ a tl s M, vs = [.ref a] ∧ LotAt C a tl s M H ∧ Q (.int ((s : Nat) : Int)) H
theorem okLot_size (D : DefP K C "size" "Lot.size" sLot_size ["self"]) (B : Bs mg) (Glb : Glo mg) (WK : WebK K mg C) :
    GoodP P w K mg base C "size" "Lot.size" sLot_size ["self"] 1 (spLot_size K C) := by
  refine D.good fun f fd F => ?_
  refine F.ok scLot_size (fun vs H Q E h => ?_) (fun cdv A outer s H vs Q E hr h => ?_)
  · obtain ⟨a, tl, s, M, rfl, ⟨dx, h1, h2⟩, q⟩ := h
    first | rfl | (rcases h with ⟨_, _, rfl, _⟩ | ⟨_, rfl, _⟩ <;> rfl)
  obtain ⟨a, tl, s, M, rfl, ⟨dx, h1, h2⟩, q⟩ := h
  refine ⟨_, (pss_one (ps_ret (pe_fld (pv 0) rfl))), ?_⟩
  exact ⟨_, rfl, a, C, dx, _, _, rfl, h1, WK.cl, WK.nS, lf_S _ _, q⟩
def spLot_readings (_ : PySem.W.Frag) (C : Addr) : Sp := fun vs H Q _ => ∃ a tl s M, vs = [.ref a] ∧ LotAt C a tl s M H ∧ ∀ H' l, H l = none → Same H H' → RdAt H' l M → Q (.ref l) H'
theorem okLot_readings (D : DefM K C "readings" "Lot.readings" sLot_readings ["self"]) (B : Bs mg) (Glb : Glo mg) (WK : WebK K mg C) :
    GoodM P w K mg base C "readings" "Lot.readings" sLot_readings ["self"] 1 (spLot_readings K C) := by
  refine D.good fun f fd F => ?_
  refine F.ok scLot_readings (fun vs H Q E h => ?_) (fun cdv A outer s H vs Q E hr h => ?_)
  · obtain ⟨a, tl, s, M, rfl, ⟨dx, h1, ts, ht, hP⟩, q⟩ := h
    first | rfl | (rcases h with ⟨_, _, rfl, _⟩ | ⟨_, rfl, _⟩ <;> rfl)
  obtain ⟨a, tl, s, M, rfl, ⟨dx, h1, ts, ht, hP⟩, q⟩ := h
  refine ⟨_, (pss_one (ps_ret (pe_callTy call_list_of (by rfl) B.list (by decide +kernel) (pa_cons (pe_fld (pv 0) rfl) pa_nil)))), ?_⟩
  exact ⟨_, rfl, a, C, dx, _, _, rfl, h1, WK.cl, WK.nT, lf_T _ _, _, _, rfl, .inl (SqL.of ht), fun l nl => q _ l nl (same_new nl _) ⟨ts, upd_same, paired_mono (fun p e hp => same_new nl _ _ _ hp) hP⟩⟩
def spLot_pieces (_ : PySem.W.Frag) (C : Addr) : Sp := fun vs H Q _ => ∃ a tl s M, vs = [.ref a] ∧ LotAt C a tl s M H ∧ M.length ≤ 200 ∧ (∀ e ∈ M, e.1.length ≤ 400) ∧ s ≤ 8 ∧ ∀ H' l, H l = none → Same H H' → RdAt H' l (told (sumT [] (pcsT s M))) → Q (.ref l) H'
theorem okLot_pieces (D : DefM K C "pieces" "Lot.pieces" sLot_pieces ["self"]) (B : Bs mg) (Glb : Glo mg) (WK : WebK K mg C)
    (hpieces_often : Good P w K mg base "pieces_often" spieces_often ["readings", "size"] 2 (sppieces_often K C)) :
    GoodM P w K mg base C "pieces" "Lot.pieces" sLot_pieces ["self"] 3 (spLot_pieces K C) := by
  refine D.good fun f fd F => ?_
  obtain ⟨fpieces_often, dpieces_often, Opieces_often, mpieces_often, kpieces_often, bpieces_often, Fpieces_often⟩ := hpieces_often
  refine F.ok scLot_pieces (fun vs H Q E h => ?_) (fun cdv A outer s H vs Q E hr h => ?_)
  · obtain ⟨a, tl, s, M, rfl, ⟨dx, h1, hR⟩, hlen, hok, hs, q⟩ := h
    first | rfl | (rcases h with ⟨_, _, rfl, _⟩ | ⟨_, rfl, _⟩ <;> rfl)
  obtain ⟨a, tl, s, M, rfl, ⟨dx, h1, hR⟩, hlen, hok, hs, q⟩ := h
  refine ⟨_, (pss_one (ps_ret (pe_call Opieces_often hr rfl mpieces_often kpieces_often bpieces_often .nil pass0 (pa_cons (pe_fld (pv 0) rfl) (pa_cons (pe_fld (pv 0) rfl) pa_nil))))), ?_⟩
  exact ⟨_, rfl, a, C, dx, _, _, rfl, h1, WK.cl, WK.nT, lf_T _ _, _, rfl, a, C, dx, _, _, rfl, h1, WK.cl, WK.nS, lf_S _ _, tl, M, s, rfl, hR, hlen, hok, hs, fun H' p hS np hp => q H' p np hS hp⟩
def spneed_lot (_ : PySem.W.Frag) (C : Addr) : Sp := fun vs H Q _ => ∃ a tl s M, vs = [.ref a] ∧ LotAt C a tl s M H ∧ Q .non H
theorem okneed_lot (D : Def K mg "need_lot" sneed_lot ["lot"]) (B : Bs mg) (Glb : Glo mg) (WK : WebK K mg C) :
    Good P w K mg base "need_lot" sneed_lot ["lot"] 3 (spneed_lot K C) := by
  refine D.good fun f fd F => ?_
  refine F.ok scneed_lot (fun vs H Q E h => ?_) (fun cdv A outer s H vs Q E hr h => ?_)
  · obtain ⟨a, tl, s, M, rfl, ⟨dx, h1, h2⟩, q⟩ := h
    first | rfl | (rcases h with ⟨_, _, rfl, _⟩ | ⟨_, rfl, _⟩ <;> rfl)
  obtain ⟨a, tl, s, M, rfl, ⟨dx, h1, h2⟩, q⟩ := h
  refine ⟨_, (pss_one (ps_if (pt_not (pt_val (pe_callB call_isi (by rfl) B.isinstance (by decide +kernel) (pa_cons (pv 0) (pa_cons (pe_glob (v := .ref C) (by rfl) WK.mgC rfl) pa_nil)))))
    (pss_one ps_never) pss_nil)), ?_⟩
  exact ⟨_, rfl, _, _, _, _, true, rfl, .own C, .base (.ins h1 WK.cl WK.i1 WK.i2 WK.i3 WK.i4), WK.i5, _, rfl, iteF q⟩
end
end My
namespace My
open PySem L2 PyProof.Rows
theorem lf_eq (s : Nat) (tl : Addr) : lf s tl = ([("_size", V.int (s : Int)), ("_told", V.ref tl)] : List (Str × V)) := by
  show (if ("_size" : Str) = "_told" then [(("_size" : Str), V.ref tl)] else (("_size" : Str), V.int (s : Int)) :: putF "_told" (V.ref tl) []) = ([("_size", V.int (s : Int)), ("_told", V.ref tl)] : List (Str × V))
  rw [if_neg (by decide +kernel)]
  all_goals rfl
theorem lf_put (s : Nat) (tl tm : Addr) : putF "_told" (.ref tm) (lf s tl) = lf s tm := by
  rw [lf_eq, lf_eq]
  show (if ("_size" : Str) = "_told" then _ else (("_size" : Str), V.int (s : Int)) :: (if ("_told" : Str) = "_told" then [(("_told" : Str), V.ref tm)] else _)) = ([("_size", V.int (s : Int)), ("_told", V.ref tm)] : List (Str × V))
  rw [if_neg (by decide +kernel), if_pos rfl]
theorem told_map (L : List (Str × Int)) : (L.map encSI).mergeSort (PySem.W.dataLe false id) = (told L).map encSI :=
  (List.map_mergeSort (f := encSI) (r := PySem.W.dataLe false encSI) (s := PySem.W.dataLe false id) (l := L) (fun a _ b _ => rfl)).symm
theorem sorted_rd {H : Hp} {ts : List Addr} {L : List (Str × Int)} (hP : Paired (SIAt H) ts L) : ∀ {zs : List V} {M : List (Str × Int)}, Paired (fun (z : V) (d : PyData) => ∃ j : Nat, (ts.map V.ref)[j]? = some z ∧ (L.map encSI)[j]? = some d) zs (M.map encSI) → ∃ us : List Addr, zs = us.map V.ref ∧ Paired (SIAt H) us M
  | _, [], .nil => ⟨[], rfl, .nil⟩
  | _, m :: M, .cons h t => by
    obtain ⟨us, rfl, hu⟩ := sorted_rd hP t
    obtain ⟨j, h1, h2⟩ := h
    obtain ⟨p, e, rfl, he, hpe⟩ := si_at hP h1
    rw [List.getElem?_map, he] at h2
    have h3 := Option.some.inj h2
    injection h3 with h4
    injection h4 with h5 h6
    injection h5 with h5
    injection h6 with h6 _
    injection h6 with h6
    have em : e = m := Prod.ext h5 h6
    subst em
    exact ⟨p :: us, rfl, .cons hpe hu⟩
theorem dp_si {K : PySem.W.Frag} {H : Hp} : ∀ {ts : List Addr} {L : List (Str × Int)}, Paired (SIAt H) ts L → DpAll K H (ts.map V.ref) (L.map encSI)
  | _, _, .nil => .nil
  | _, _, .cons h r => .cons (.tup (SqT.of h) (.cons (.str _) (.cons (.int _) .nil))) (dp_si r)
theorem told_len (L : List (Str × Int)) : (told L).length = L.length := (List.mergeSort_perm L _).length_eq
theorem told_mem {L : List (Str × Int)} {e : Str × Int} : e ∈ told L ↔ e ∈ L := (List.mergeSort_perm L _).mem_iff
theorem paired_ent {H : Hp} : ∀ {ts : List Addr} {D : List (Str × Int)}, Paired (fun (t : Addr) (q : Key × V) => H t = some (.tup [kV q.1, q.2])) ts (dT D) → Paired (SIAt H) ts D
  | _, [], .nil => .nil
  | _, e :: r, .cons h t => .cons h (paired_ent t)
theorem ent_paired {K : PySem.W.Frag} {H : Hp} : ∀ {ts : List Addr} {D : List (Str × Int)}, Paired (SIAt H) ts D → Paired (fun (p : Addr) (kv : Key × V) => SqT K H p [kV kv.1, kv.2]) ts (dT D)
  | _, [], .nil => .nil
  | _, e :: r, .cons h t => .cons (SqT.of h) (ent_paired t)
theorem merge_new : ∀ (L acc : List (Str × Int)), ((acc ++ L).map Prod.fst).Nodup → mergeK (dT acc) (dT L) = dT (acc ++ L)
  | [], acc, _ => by rw [List.append_nil]; rfl
  | e :: r, acc, hn => by
    have hx : e.1 ∉ acc.map Prod.fst := fun z => by
      rw [List.map_append, List.nodup_append] at hn
      exact hn.2.2 e.1 z e.1 (by simp) rfl
    have hv : valV (dT acc) (Sum.inr e.1 : Key) = none := by
      rw [dT_val]
      have : acc.find? (fun f => decide (f.1 = e.1)) = none := List.find?_eq_none.mpr fun f hf => by
        simp only [decide_eq_true_eq]
        intro z
        exact hx (List.mem_map.mpr ⟨f, hf, z⟩)
      rw [this]
      rfl
    have hp : putK (dT acc) (Sum.inr e.1 : Key) (.int e.2) = dT (acc ++ [e]) := by
      rw [putK_new _ hv]
      unfold dT
      rw [List.map_append]
      rfl
    show mergeK (putK (dT acc) (Sum.inr e.1 : Key) (.int e.2)) (dT r) = _
    rw [hp, merge_new r (acc ++ [e]) (by rw [List.append_assoc]; exact hn), List.append_assoc]
    rfl
section
variable {P : Program} {w : World} {K : PySem.W.Frag} {mg : Str → Option Value} {base : Heap} {C : Addr}
def splot_told (_ : PySem.W.Frag) (C : Addr) : Sp := fun vs H Q _ => ∃ s l L, vs = [.int ((s : Nat) : Int), .ref l] ∧ 2 ≤ s ∧ s ≤ 8 ∧ RdAt H l L ∧ L.length ≤ 60 ∧ (∀ e ∈ L, e.2 ≤ 1200) ∧ ∀ H' a tl, H a = none → H tl = none → Same H H' → LotAt C a tl s (told L) H' → Q (.ref a) H'
theorem oklot_told (D : Def K mg "lot_told" slot_told ["size", "told"]) (B : Bs mg) (Glb : Glo mg) (WK : WebK K mg C)
    (hLot___init__ : GoodI P w K mg base C "__init__" "Lot.__init__" sLot___init__ ["self", "size", "readings"] 5 (spLot___init__ K C)) :
    Good P w K mg base "lot_told" slot_told ["size", "told"] 7 (splot_told K C) := by
  refine D.good fun f fd F => ?_
  obtain ⟨fLot___init__, dLot___init__, OLot___init__, MK, bLot___init__⟩ := hLot___init__
  refine F.ok sclot_told (fun vs H Q E h => ?_) (fun cdv A outer s H vs Q E hr h => ?_)
  · obtain ⟨s, l, L, rfl, hs1, hs2, ⟨ts, hl, hP⟩, hlen, hok, q⟩ := h
    first | rfl | (rcases h with ⟨_, _, rfl, _⟩ | ⟨_, rfl, _⟩ <;> rfl)
  obtain ⟨s, l, L, rfl, hs1, hs2, ⟨ts, hl, hP⟩, hlen, hok, q⟩ := h
  refine ⟨_, (pss_cons (ps_if (pt_cmpR op_gt (pe_callB call_len_seq (by rfl) B.len (by decide +kernel) (pa_cons (pv 1) pa_nil)) (pe_globI Glb.MOST_READINGS) (nomark _))
    (pss_one ps_never) pss_nil)
  (pss_cons (ps_for PassesOwn.never rfl (pi_list (pv 1)) (pg_tup rfl (pgs_cons (pg_name (i := 2) sclot_told.nd rfl (by first | exact Or.inl rfl | exact Or.inr rfl)) (pgs_cons (pg_name (i := 3) sclot_told.nd rfl (by first | exact Or.inl rfl | exact Or.inr rfl)) pgs_nil)))
    (pss_one (ps_if (pt_cmpR op_gt (pv 3) (pe_globI Glb.MOST_TIMES) (nomark _))
    (pss_one ps_never) pss_nil)))
  (pss_cons (ps_set (i := 4) sclot_told.nd rfl (by first | exact Or.inl rfl | exact Or.inr rfl) (pe_make MK OLot___init__ (hr.mono (by decide)) rfl WK.mgC bLot___init__ .nil pass0 (pa_cons (pv 0) (pa_cons (pe_lst pa_nil) pa_nil))))
  (pss_cons (ps_fld (pv 4) (pe_callB (cr_sortD hr.units) (by rfl) B.sorted (by decide +kernel) (pa_cons (pv 1) pa_nil)) rfl)
  (pss_one (ps_ret (pv 4))))))), ?_⟩
  have hpl := paired_len hP
  refine ⟨_, rfl, _, _, rfl, .inl (SqL.of hl), _, _, rfl, rfl, _, rfl, iteNo (by rw [List.length_map]; omega) ?_⟩
  refine ⟨_, rfl, l, rfl, ⟨_, SqL.of hl⟩, for_list (K := K) (a := l) (xs := ts.map V.ref) (fun i σ H' => H' = H ∧ ∃ v2 v3 : Option V, σ = [some (.int (s : Int)), some (.ref l), v2, v3, none]) ⟨rfl, none, none, rfl⟩ (fun i σ H' _ ⟨e, _⟩ => by rw [e]; exact SqL.of hl) ?_ ?_⟩
  · rintro i x σ H2 hx ⟨rfl, v2, v3, rfl⟩
    obtain ⟨p, e, rfl, he, hpe⟩ := si_at hP hx
    have := hok e (List.mem_of_getElem? he)
    exact ⟨p, _, rfl, SqT.of hpe, rfl, _, _, rfl, _, _, rfl, rfl, _, rfl, _, _, rfl, rfl, _, rfl, iteNo (by omega) ⟨rfl, _, _, rfl⟩⟩
  rintro σ H2 ⟨rfl, v2, v3, rfl⟩
  refine ⟨_, rfl, Nat.zero_le _, fun el nel => fun x dx nx ndx ndxx => ?_⟩
  have hS2 : Same H2 (upd (upd (upd H2 el (.lst [])) dx (.own x)) x (.ins C dx [])) := fun b o e => by
    have e1 := same_new nel (.lst []) _ _ e
    rw [upd_ne (ne_of_none e1 nx), upd_ne (ne_of_none e1 ndx)]
    exact e1
  have nx0 : H2 x = none := (same_new nel (.lst [])).free nx
  have hel : (upd (upd (upd H2 el (.lst [])) dx (.own x)) x (.ins C dx [])) el = some (.lst ([].map V.ref)) := by
    have e1 : upd H2 el (.lst []) el = some (.lst []) := upd_same
    rw [upd_ne (ne_of_none e1 nx), upd_ne (ne_of_none e1 ndx)]
    exact e1
  refine ⟨x, dx, s, el, [], rfl, hs1, hs2, ⟨[], hel, .nil⟩, Nat.zero_le _, fun e he => by simp at he, upd_same, fun H3 tl ntl hk hLot => ⟨rfl, ?_⟩⟩
  obtain ⟨dx', hx3, _⟩ := hLot
  have hS3 : Same H2 H3 := fun b o e => hk _ _ (hS2 _ _ e) (ne_of_none e nx0)
  have hP3 : Paired (SIAt H3) ts L := paired_mono (fun p e hp => hS3 _ _ hp) hP
  refine ⟨_, rfl, l, _, L.map encSI, rfl, SqL.of (hS3 _ _ hl), dp_si hP3, encSI_alike L, encSI_sortable L, fun d hd => ?_, by rw [List.length_map]; omega, fun zs p hz np => ?_⟩
  · obtain ⟨e, _, rfl⟩ := List.mem_map.mp hd
    show (1 : Nat) ≤ 8
    decide
  rw [told_map] at hz
  obtain ⟨us, rfl, hU⟩ := sorted_rd hP3 hz
  have npx : x ≠ p := ne_of_none hx3 np
  refine ⟨_, rfl, x, C, dx', _, rfl, (by rw [upd_ne npx]; exact hx3), WK.cl, WK.nT, by rw [lf_eq]; show 2 < 1000; decide, ?_⟩
  rw [lf_put]
  refine ⟨_, rfl, q _ x p nx0 (hS3.free np) (fun b o e => ?_) ⟨dx', upd_same, us, by rw [upd_ne npx.symm, upd_same], paired_mono (fun t e ht => ?_) hU⟩⟩
  · rw [upd_ne (ne_of_none e nx0), upd_ne (ne_of_none (hS3 _ _ e) np)]
    exact hS3 _ _ e
  · have ntx : t ≠ x := ne_of ht hx3 (by intro z; cases z)
    show upd _ _ _ t = _
    rw [upd_ne ntx, upd_ne (ne_of_none ht np)]
    exact ht
end
end My
namespace My
open PySem L2 PyProof.Rows LiI
theorem ix_tupK {X : Cx} {K : PySem.W.Frag} (h : X.K = K) : IxR X (rIxT K) := h ▸ ix_tup
theorem RdAt.cat {H : Hp} {l m p : Addr} {L M : List (Str × Int)} (h : RdAt H l L) (k : RdAt H m M) (np : H p = none) : ∃ xs zs, H l = some (.lst xs) ∧ H m = some (.lst zs) ∧ xs.length = L.length ∧ zs.length = M.length ∧ RdAt (upd H p (.lst (xs ++ zs))) p (L ++ M) := by
  obtain ⟨ts, h1, h2⟩ := h
  obtain ⟨us, k1, k2⟩ := k
  have app : ∀ {l1 m1 : List Addr} {l2 m2 : List (Str × Int)}, Paired (SIAt H) l1 l2 → Paired (SIAt H) m1 m2 → Paired (SIAt H) (l1 ++ m1) (l2 ++ m2) := fun {l1 m1 l2 m2} a b => by
    induction a with
    | nil => exact b
    | cons r t ih => exact .cons r ih
  exact ⟨_, _, h1, k1, by rw [List.length_map]; exact paired_len h2, by rw [List.length_map]; exact paired_len k2, ts ++ us, by rw [upd_same, List.map_append], paired_mono (fun q e hq => same_new np _ _ _ hq) (app h2 k2)⟩
theorem RdAt.len {H : Hp} {l : Addr} {L : List (Str × Int)} (h : RdAt H l L) : ∃ xs, H l = some (.lst xs) ∧ xs.length = L.length := by
  obtain ⟨ts, h1, h2⟩ := h
  exact ⟨_, h1, by rw [List.length_map]; exact paired_len h2⟩
section
variable {P : Program} {w : World} {K : PySem.W.Frag} {mg : Str → Option Value} {base : Heap} {C : Addr}
def sp_lot_with (_ : PySem.W.Frag) (C : Addr) : Sp := fun vs H Q _ => ∃ a tl s M l L, vs = [.ref a, .ref l] ∧ LotAt C a tl s M H ∧ 2 ≤ s ∧ s ≤ 8 ∧ RdAt H l L ∧ M.length + L.length ≤ 60 ∧ (∀ e ∈ sumT [] (M ++ L), e.2 ≤ 1200) ∧ ∀ H' b tm, H b = none → H tm = none → Same H H' → LotAt C b tm s (told (sumT [] (M ++ L))) H' → Q (.ref b) H'
theorem ok_lot_with (D : Def K mg "_lot_with" s_lot_with ["lot", "readings"]) (B : Bs mg) (Glb : Glo mg) (WK : WebK K mg C)
    (h_times_together : Good P w K mg base "_times_together" s_times_together ["readings"] 1 (sp_times_together K C))
    (hlot_told : Good P w K mg base "lot_told" slot_told ["size", "told"] 7 (splot_told K C))
    (hLot_size : GoodP P w K mg base C "size" "Lot.size" sLot_size ["self"] 1 (spLot_size K C))
    (hLot_readings : GoodM P w K mg base C "readings" "Lot.readings" sLot_readings ["self"] 1 (spLot_readings K C)) :
    Good P w K mg base "_lot_with" s_lot_with ["lot", "readings"] 8 (sp_lot_with K C) := by
  refine D.good fun f fd F => ?_
  obtain ⟨f_times_together, d_times_together, O_times_together, m_times_together, k_times_together, b_times_together, F_times_together⟩ := h_times_together
  obtain ⟨flot_told, dlot_told, Olot_told, mlot_told, klot_told, blot_told, Flot_told⟩ := hlot_told
  obtain ⟨qLot_size, fLot_size, dLot_size, OLot_size, pLot_size, bLot_size⟩ := hLot_size
  obtain ⟨fLot_readings, dLot_readings, OLot_readings, tLot_readings, bLot_readings, FLot_readings⟩ := hLot_readings
  refine F.ok sc_lot_with (fun vs H Q E h => ?_) (fun cdv A outer s H vs Q E hr h => ?_)
  · obtain ⟨a, tl, s, M, l, L, rfl, hLot, hs1, hs2, hR, hlen, hok, q⟩ := h
    first | rfl | (rcases h with ⟨_, _, rfl, _⟩ | ⟨_, rfl, _⟩ <;> rfl)
  obtain ⟨a, tl, s, M, l, L, rfl, hLot, hs1, hs2, hR, hlen, hok, q⟩ := h
  refine ⟨_, (pss_cons (ps_set (i := 2) sc_lot_with.nd rfl (by first | exact Or.inl rfl | exact Or.inr rfl) (pe_call O_times_together (hr.mono (by decide)) rfl m_times_together k_times_together b_times_together .nil pass0 (pa_cons (pe_op op_cat (pe_meth0 (pv 0) WK.cl tLot_readings OLot_readings (hr.mono (by decide)) bLot_readings .nil pass0) (pv 1)) pa_nil)))
  (pss_one (ps_ret (pe_call Olot_told hr rfl mlot_told klot_told blot_told .nil pass0 (pa_cons (pe_prop (pv 0) WK.cl pLot_size OLot_size (hr.mono (by decide)) bLot_size .nil pass0 (by rfl)) (pa_cons (pe_listItems rfl (pv 2) (by rfl) B.list (by decide +kernel)) pa_nil)))))), ?_⟩
  obtain ⟨dx, h1, _⟩ := id hLot
  refine ⟨_, rfl, a, dx, _, rfl, h1, lf_no _ _ (by decide +kernel) (by decide +kernel), a, tl, s, M, rfl, hLot, fun H1 m nm hS1 hm => ?_⟩
  have hR1 := hR.same hS1
  obtain ⟨xs0, hxs0, e1⟩ := hm.len
  obtain ⟨zs0, hzs0, e2⟩ := hR1.len
  refine ⟨_, rfl, m, l, _, _, rfl, rfl, hxs0, hzs0, by rw [e1, e2]; exact Nat.le_trans hlen (by decide), fun p np => ?_⟩
  obtain ⟨xs, zs, g1, g2, _, _, hC⟩ := hm.cat hR1 np
  rw [hxs0] at g1
  cases g1
  rw [hzs0] at g2
  cases g2
  have hS2 : Same H (upd H1 p (.lst (xs0 ++ zs0))) := fun b o e => same_new np _ _ _ (hS1 _ _ e)
  generalize upd H1 p (.lst (xs0 ++ zs0)) = H2 at hC hS2
  refine ⟨p, M ++ L, rfl, hC, by rw [List.length_append]; omega, fun H3 d hS3 nd hd => ?_⟩
  have hS03 : Same H H3 := hS2.trans hS3
  obtain ⟨dx3, h3, _⟩ := id (hLot.same hS03)
  refine ⟨_, rfl, a, dx3, _, rfl, h3, a, tl, s, M, rfl, hLot.same hS03, ?_⟩
  refine ⟨_, rfl, d, _, rfl, hd, fun H4 m2 us hS4 nm2 _ _ hm2 hU => ?_⟩
  have hlen2 : (sumT [] (M ++ L)).length ≤ 60 := by
    have := sumT_len (M ++ L) []
    rw [List.length_append] at this
    simp at this
    omega
  have hS04 : Same H H4 := fun b o e => hS4 _ _ (hS03 _ _ e)
  exact ⟨s, m2, _, rfl, hs1, hs2, ⟨us, hm2, paired_ent hU⟩, hlen2, hok, fun H5 b tm nb ntm hS5 hL5 => q H5 b tm (hS04.free nb) (hS04.free ntm) (hS04.trans hS5) hL5⟩
def spwith_reading (_ : PySem.W.Frag) (C : Addr) : Sp := fun vs H Q _ => ∃ a tl s M x n, vs = [.ref a, .str x, .int n] ∧ LotAt C a tl s M H ∧ 2 ≤ s ∧ s ≤ 8 ∧ OkT x ∧ 1 ≤ n ∧ n ≤ 20 ∧ M.length + 1 ≤ 60 ∧ (∀ e ∈ sumT [] (M ++ [(x, n)]), e.2 ≤ 1200) ∧ ∀ H' b tm, H b = none → H tm = none → Same H H' → LotAt C b tm s (told (sumT [] (M ++ [(x, n)]))) H' → Q (.ref b) H'
theorem okwith_reading (D : Def K mg "with_reading" swith_reading ["lot", "text", "times"]) (B : Bs mg) (Glb : Glo mg) (WK : WebK K mg C)
    (hneed_lot : Good P w K mg base "need_lot" sneed_lot ["lot"] 3 (spneed_lot K C))
    (hneed_text : Good P w K mg base "need_text" sneed_text ["text"] 3 (spneed_text K C))
    (hneed_times : Good P w K mg base "need_times" sneed_times ["times"] 4 (spneed_times K C))
    (h_lot_with : Good P w K mg base "_lot_with" s_lot_with ["lot", "readings"] 8 (sp_lot_with K C)) :
    Good P w K mg base "with_reading" swith_reading ["lot", "text", "times"] 9 (spwith_reading K C) := by
  refine D.good fun f fd F => ?_
  obtain ⟨fneed_lot, dneed_lot, Oneed_lot, mneed_lot, kneed_lot, bneed_lot, Fneed_lot⟩ := hneed_lot
  obtain ⟨fneed_text, dneed_text, Oneed_text, mneed_text, kneed_text, bneed_text, Fneed_text⟩ := hneed_text
  obtain ⟨fneed_times, dneed_times, Oneed_times, mneed_times, kneed_times, bneed_times, Fneed_times⟩ := hneed_times
  obtain ⟨f_lot_with, d_lot_with, O_lot_with, m_lot_with, k_lot_with, b_lot_with, F_lot_with⟩ := h_lot_with
  refine F.ok scwith_reading (fun vs H Q E h => ?_) (fun cdv A outer s H vs Q E hr h => ?_)
  · obtain ⟨a, tl, s, M, x, n, rfl, hLot, hs1, hs2, hx, hn1, hn2, hlen, hok, q⟩ := h
    first | rfl | (rcases h with ⟨_, _, rfl, _⟩ | ⟨_, rfl, _⟩ <;> rfl)
  obtain ⟨a, tl, s, M, x, n, rfl, hLot, hs1, hs2, hx, hn1, hn2, hlen, hok, q⟩ := h
  refine ⟨_, (pss_cons (ps_expr (pe_call Oneed_lot (hr.mono (by decide)) rfl mneed_lot kneed_lot bneed_lot .nil pass0 (pa_cons (pv 0) pa_nil)))
  (pss_cons (ps_expr (pe_call Oneed_text (hr.mono (by decide)) rfl mneed_text kneed_text bneed_text .nil pass0 (pa_cons (pv 1) pa_nil)))
  (pss_cons (ps_expr (pe_call Oneed_times (hr.mono (by decide)) rfl mneed_times kneed_times bneed_times .nil pass0 (pa_cons (pv 2) pa_nil)))
  (pss_one (ps_ret (pe_call O_lot_with hr rfl m_lot_with k_lot_with b_lot_with .nil pass0 (pa_cons (pv 0) (pa_cons (pe_lst (pa_cons (pe_tup (pa_cons (pv 1) (pa_cons (pv 2) pa_nil))) pa_nil)) pa_nil)))))))), ?_⟩
  refine ⟨_, rfl, a, tl, s, M, rfl, hLot, _, rfl, x, rfl, hx, _, rfl, n, rfl, hn1, hn2, _, rfl, _, rfl, _, rfl, (by show 2 ≤ sizeLine; decide), fun tp ntp => ⟨(by show 1 ≤ sizeLine; decide), fun lp nlp => ?_⟩⟩
  have hS2 : Same H (upd (upd H tp (.tup [.str x, .int n])) lp (.lst [.ref tp])) := fun b o e => same_new nlp _ _ _ (same_new ntp _ _ _ e)
  have htp : upd (upd H tp (.tup [.str x, .int n])) lp (.lst [.ref tp]) tp = some (.tup [.str x, .int n]) := same_new nlp _ _ _ upd_same
  have hlp : upd (upd H tp (.tup [.str x, .int n])) lp (.lst [.ref tp]) lp = some (.lst ([tp].map V.ref)) := upd_same
  generalize upd (upd H tp (.tup [.str x, .int n])) lp (.lst [.ref tp]) = H2 at hS2 htp hlp
  exact ⟨a, tl, s, M, lp, [(x, n)], rfl, hLot.same hS2, hs1, hs2, ⟨[tp], hlp, .cons htp .nil⟩, hlen, hok, fun H5 b tm nb ntm hS5 hL5 => q H5 b tm (hS2.free nb) (hS2.free ntm) (hS2.trans hS5) hL5⟩
def spboth_lots (_ : PySem.W.Frag) (C : Addr) : Sp := fun vs H Q _ => ∃ a tl b tb s M L, vs = [.ref a, .ref b] ∧ LotAt C a tl s M H ∧ LotAt C b tb s L H ∧ 2 ≤ s ∧ s ≤ 8 ∧ M.length + L.length ≤ 60 ∧ (∀ e ∈ sumT [] (M ++ L), e.2 ≤ 1200) ∧ ∀ H' c tm, H c = none → H tm = none → Same H H' → LotAt C c tm s (told (sumT [] (M ++ L))) H' → Q (.ref c) H'
theorem okboth_lots (D : Def K mg "both_lots" sboth_lots ["lot", "other"]) (B : Bs mg) (Glb : Glo mg) (WK : WebK K mg C)
    (hneed_lot : Good P w K mg base "need_lot" sneed_lot ["lot"] 3 (spneed_lot K C))
    (h_lot_with : Good P w K mg base "_lot_with" s_lot_with ["lot", "readings"] 8 (sp_lot_with K C))
    (hLot_size : GoodP P w K mg base C "size" "Lot.size" sLot_size ["self"] 1 (spLot_size K C))
    (hLot_readings : GoodM P w K mg base C "readings" "Lot.readings" sLot_readings ["self"] 1 (spLot_readings K C)) :
    Good P w K mg base "both_lots" sboth_lots ["lot", "other"] 9 (spboth_lots K C) := by
  refine D.good fun f fd F => ?_
  obtain ⟨fneed_lot, dneed_lot, Oneed_lot, mneed_lot, kneed_lot, bneed_lot, Fneed_lot⟩ := hneed_lot
  obtain ⟨f_lot_with, d_lot_with, O_lot_with, m_lot_with, k_lot_with, b_lot_with, F_lot_with⟩ := h_lot_with
  obtain ⟨qLot_size, fLot_size, dLot_size, OLot_size, pLot_size, bLot_size⟩ := hLot_size
  obtain ⟨fLot_readings, dLot_readings, OLot_readings, tLot_readings, bLot_readings, FLot_readings⟩ := hLot_readings
  refine F.ok scboth_lots (fun vs H Q E h => ?_) (fun cdv A outer s H vs Q E hr h => ?_)
  · obtain ⟨a, tl, b, tb, s, M, L, rfl, hA, hB, hs1, hs2, hlen, hok, q⟩ := h
    first | rfl | (rcases h with ⟨_, _, rfl, _⟩ | ⟨_, rfl, _⟩ <;> rfl)
  obtain ⟨a, tl, b, tb, s, M, L, rfl, hA, hB, hs1, hs2, hlen, hok, q⟩ := h
  refine ⟨_, (pss_cons (ps_expr (pe_call Oneed_lot (hr.mono (by decide)) rfl mneed_lot kneed_lot bneed_lot .nil pass0 (pa_cons (pv 0) pa_nil)))
  (pss_cons (ps_expr (pe_call Oneed_lot (hr.mono (by decide)) rfl mneed_lot kneed_lot bneed_lot .nil pass0 (pa_cons (pv 1) pa_nil)))
  (pss_cons (ps_if (pt_cmpR op_ne (pe_prop (pv 0) WK.cl pLot_size OLot_size (hr.mono (by decide)) bLot_size .nil pass0 (by rfl)) (pe_prop (pv 1) WK.cl pLot_size OLot_size (hr.mono (by decide)) bLot_size .nil pass0 (by rfl)) (nomark _))
    (pss_one ps_never) pss_nil)
  (pss_one (ps_ret (pe_call O_lot_with hr rfl m_lot_with k_lot_with b_lot_with .nil pass0 (pa_cons (pv 0) (pa_cons (pe_meth0 (pv 1) WK.cl tLot_readings OLot_readings (hr.mono (by decide)) bLot_readings .nil pass0) pa_nil)))))))), ?_⟩
  obtain ⟨dxa, ha, _⟩ := id hA
  obtain ⟨dxb, hb, _⟩ := id hB
  refine ⟨_, rfl, a, tl, s, M, rfl, hA, _, rfl, b, tb, s, L, rfl, hB, ?_⟩
  refine ⟨_, rfl, a, dxa, _, rfl, ha, a, tl, s, M, rfl, hA, _, rfl, b, dxb, _, rfl, hb, b, tb, s, L, rfl, hB, rfl, _, rfl, iteNot' rfl ?_⟩
  refine ⟨_, rfl, _, rfl, b, dxb, _, rfl, hb, lf_no _ _ (by decide +kernel) (by decide +kernel), b, tb, s, L, rfl, hB, fun H1 m nm hS1 hm => ?_⟩
  exact ⟨a, tl, s, M, m, L, rfl, hA.same hS1, hs1, hs2, hm, hlen, hok, fun H5 c tm nc ntm hS5 hL5 => q H5 c tm (hS1.free nc) (hS1.free ntm) (hS1.trans hS5) hL5⟩
def spLot_times_of (_ : PySem.W.Frag) (C : Addr) : Sp := fun vs H Q _ => ∃ a tl s M x, vs = [.ref a, .str x] ∧ LotAt C a tl s M H ∧ OkT x ∧ (M.map Prod.fst).Nodup ∧ ∀ H', Same H H' → Q (.int (getT M x)) H'
theorem okLot_times_of (D : DefM K C "times_of" "Lot.times_of" sLot_times_of ["self", "text"]) (B : Bs mg) (Glb : Glo mg) (WK : WebK K mg C)
    (hneed_text : Good P w K mg base "need_text" sneed_text ["text"] 3 (spneed_text K C)) :
    GoodM P w K mg base C "times_of" "Lot.times_of" sLot_times_of ["self", "text"] 4 (spLot_times_of K C) := by
  refine D.good fun f fd F => ?_
  obtain ⟨fneed_text, dneed_text, Oneed_text, mneed_text, kneed_text, bneed_text, Fneed_text⟩ := hneed_text
  refine F.ok scLot_times_of (fun vs H Q E h => ?_) (fun cdv A outer s H vs Q E hr h => ?_)
  · obtain ⟨a, tl, s, M, x, rfl, ⟨dx, h1, ts, ht, hP⟩, hx, hn, q⟩ := h
    first | rfl | (rcases h with ⟨_, _, rfl, _⟩ | ⟨_, rfl, _⟩ <;> rfl)
  obtain ⟨a, tl, s, M, x, rfl, ⟨dx, h1, ts, ht, hP⟩, hx, hn, q⟩ := h
  refine ⟨_, (pss_cons (ps_expr (pe_call Oneed_text hr rfl mneed_text kneed_text bneed_text .nil pass0 (pa_cons (pv 1) pa_nil)))
  (pss_one (ps_ret (pe_dget2 (hu_of hr) (pe_callTy (call_dictP rfl) (by rfl) B.dict (by decide +kernel) (pa_cons (pe_fld (pv 0) rfl) pa_nil)) (pv 1) pe_int ⟨rfl, rfl, rfl, rfl⟩)))), ?_⟩
  refine ⟨_, rfl, x, rfl, hx, _, rfl, a, C, dx, _, _, rfl, h1, WK.cl, WK.nT, lf_T _ _, tl, ts, dT M, rfl, SqL.of ht, ent_paired hP, fun p np => ?_⟩
  have em : mergeK [] (dT M) = dT M := merge_new M [] hn
  rw [em]
  have hp : upd H p (.dK (dT M)) p = some (.dK (dT M)) := upd_same
  refine ⟨p, rfl, .inl ⟨_, .inl hp⟩, _, rfl, _, DGet.k (k := Sum.inr x) hp, ?_⟩
  rw [dT_getD]
  exact q _ (same_new np _)
end
end My
namespace My
open PySem L2 PyProof.Rows
def PotOk (x y : Int) : Prop := 0 ≤ x ∧ 0 ≤ y ∧ y < 2147483590
def PotAt (H : Hp) (a : Addr) : Prop := ∃ x y : Int, H a = some (.lst [.int x, .int y]) ∧ PotOk x y
theorem PotAt.new {H : Hp} {a p : Addr} {o : HO} (h : PotAt H a) (np : H p = none) : PotAt (upd H p o) a := by
  obtain ⟨x, y, e, h⟩ := h
  exact ⟨x, y, by rw [upd_ne (ne_of_none e np)]; exact e, h⟩
theorem PotAt.put {H : Hp} {a p : Addr} {o : HO} (h : PotAt H a) (np : p ≠ a) : PotAt (upd H p o) a := by
  obtain ⟨x, y, e, h⟩ := h
  exact ⟨x, y, by rw [upd_ne np.symm]; exact e, h⟩
theorem PotAt.same {H H' : Hp} {a : Addr} (h : PotAt H a) (s : Same H H') : PotAt H' a := by
  obtain ⟨x, y, e, h⟩ := h
  exact ⟨x, y, s _ _ e, h⟩
theorem PotAt.ne {H : Hp} {a p : Addr} (h : PotAt H a) (np : H p = none) : p ≠ a := by
  obtain ⟨x, y, e, h⟩ := h
  exact (ne_of_none e np).symm
theorem PotAt.ntup {H : Hp} {a p : Addr} {xs : List V} (h : PotAt H a) (hp : H p = some (.tup xs)) : p ≠ a := by
  obtain ⟨x, y, e, h⟩ := h
  exact ne_of hp e (by intro q; cases q)
theorem Kept.new {H H' : Hp} {a p : Addr} {o : HO} (h : Kept a H H') (np : H' p = none) : Kept a H (upd H' p o) := h.trans (Same.kept (same_new np o))
theorem Kept.put {H H' : Hp} {a p : Addr} {o : HO} (h : Kept a H H') (np : H p = none) : Kept a H (upd H' p o) := fun b u e n => by
  rw [upd_ne (ne_of_none e np)]
  exact h b u e n
theorem RdAt.new {H : Hp} {l p : Addr} {L : List (Str × Int)} {o : HO} (h : RdAt H l L) (np : H p = none) : RdAt (upd H p o) l L := h.same (same_new np o)
theorem RdAt.kept {H H' : Hp} {a l : Addr} {L : List (Str × Int)} (h : RdAt H l L) (k : Kept a H H') (hp : PotAt H a) (hn : l ≠ a) : RdAt H' l L := by
  obtain ⟨ts, h1, h2⟩ := h
  exact ⟨ts, k _ _ h1 hn, paired_mono (fun p e hq => k _ _ hq (hp.ntup hq)) h2⟩
theorem RdAt.nil {H : Hp} {p : Addr} : RdAt (upd H p (.lst [])) p [] := ⟨[], upd_same, .nil⟩
theorem paired_end {α β : Type} {F : α → β → Prop} {a : α} {b : β} : ∀ {l1 : List α} {l2 : List β}, Paired F l1 l2 → F a b → Paired F (l1 ++ [a]) (l2 ++ [b])
  | _, _, .nil, h => .cons h .nil
  | _, _, .cons r t, h => .cons r (paired_end t h)
theorem RdAt.push {H : Hp} {p tp : Addr} {L : List (Str × Int)} {x : Str} {n : Int} (h : RdAt H p L) (nt : H tp = none) :
    ∃ xs, (upd H tp (.tup [.str x, .int n])) p = some (.lst xs) ∧ xs.length = L.length ∧ RdAt (upd (upd H tp (.tup [.str x, .int n])) p (.lst (xs ++ [.ref tp]))) p (L ++ [(x, n)]) := by
  obtain ⟨ts, h1, h2⟩ := h
  have npt : p ≠ tp := ne_of_none h1 nt
  refine ⟨ts.map V.ref, by rw [upd_ne npt]; exact h1, by rw [List.length_map]; exact paired_len h2, ts ++ [tp], by rw [upd_same, List.map_append]; rfl, paired_end (paired_mono (fun q e hq => ?_) h2) ?_⟩
  · have nqp : q ≠ p := ne_of hq h1 (by intro z; cases z)
    show upd _ _ _ q = _
    rw [upd_ne nqp, upd_ne (ne_of_none hq nt)]
    exact hq
  · show upd _ _ _ tp = _
    rw [upd_ne npt.symm, upd_same]
/-- a text of the law's own -/
structure OkL (x : Str) : Prop where
  ok : OkT x
  few : ∀ c ∈ x.cps.toList, c ≤ 99
theorem okT_nil : OkL (Str.ofString "") := ⟨⟨by decide +kernel, by decide +kernel⟩, by decide +kernel⟩
theorem str_app_len (x y : Str) : (x ++ y : Str).length = x.length + y.length := Array.size_append
theorem okT_app {x y : Str} (h : OkL x) (k : OkL y) (hl : x.length + y.length ≤ 400) : OkL (x ++ y) := by
  have mem : ∀ c ∈ (x ++ y : Str).cps.toList, c ∈ x.cps.toList ∨ c ∈ y.cps.toList := fun c hc => by
    have : c ∈ x.cps.toList ++ y.cps.toList := by
      rw [← Array.toList_append]
      exact hc
    exact List.mem_append.mp this
  refine ⟨⟨by rw [str_app_len]; exact hl, fun c hc => ?_⟩, fun c hc => ?_⟩
  · exact (mem c hc).elim (h.ok.let_ c) (k.ok.let_ c)
  · exact (mem c hc).elim (h.few c) (k.few c)
theorem okT_one {v : V} (h : v ∈ [V.str (Str.ofString "a"), V.str (Str.ofString "b"), V.str (Str.ofString "a"), V.str (Str.ofString "c")]) : ∃ x, v = .str x ∧ OkL x ∧ x.length = 1 := by
  simp only [List.mem_cons, List.not_mem_nil, or_false] at h
  rcases h with rfl | rfl | rfl | rfl
  · exact ⟨_, rfl, ⟨⟨by decide +kernel, by decide +kernel⟩, by decide +kernel⟩, by decide +kernel⟩
  · exact ⟨_, rfl, ⟨⟨by decide +kernel, by decide +kernel⟩, by decide +kernel⟩, by decide +kernel⟩
  · exact ⟨_, rfl, ⟨⟨by decide +kernel, by decide +kernel⟩, by decide +kernel⟩, by decide +kernel⟩
  · exact ⟨_, rfl, ⟨⟨by decide +kernel, by decide +kernel⟩, by decide +kernel⟩, by decide +kernel⟩
section
variable {P : Program} {w : World} {K : PySem.W.Frag} {mg : Str → Option Value} {base : Heap} {C : Addr}
def sp_law_pot (K : PySem.W.Frag) (_ : Addr) : Sp := fun vs H Q _ => ∃ a, ∃ ns : List Int, vs = [.ref a, .int 0] ∧ SqL K H a (ns.map V.int) ∧ ∀ p H', PotAt H' p → Same H H' → H p = none → Q (.ref p) H'
theorem ok_law_pot (D : Def K mg "_law_pot" s_law_pot ["_law_script", "_law_k"]) (B : Bs mg) (Glb : Glo mg) (WK : WebK K mg C) :
    Good P w K mg base "_law_pot" s_law_pot ["_law_script", "_law_k"] 1 (sp_law_pot K C) := by
  refine D.good fun f fd F => ?_
  refine F.ok sc_law_pot (fun vs H Q E h => ?_) (fun cdv A outer s H vs Q E hr h => ?_)
  · obtain ⟨a, ns, rfl, hS, q⟩ := h
    first | rfl | (rcases h with ⟨_, _, rfl, _⟩ | ⟨_, rfl, _⟩ <;> rfl)
  obtain ⟨a, ns, rfl, hS, q⟩ := h
  refine ⟨_, (pss_cons (ps_set (i := 2) sc_law_pot.nd rfl (by first | exact Or.inl rfl | exact Or.inr rfl) (pe_ifExp (pt_cmpR op_lt (pv 1) (pe_callB call_len_seq (by rfl) B.len (by decide +kernel) (pa_cons (pv 0) pa_nil)) (nomark _)) (pe_callB call_abs (by rfl) B.abs (by decide +kernel) (pa_cons (pe_ix ix_list (pv 0) (pv 1) (fun _ _ => rfl)) pa_nil)) (pe_op op_add (pe_op op_mul pe_int (pv 1)) pe_int)))
  (pss_one (ps_ret (pe_lst (pa_cons (pe_callB (call_max2 rfl) (by rfl) B.max (by decide +kernel) (pa_cons pe_int (pa_cons (pe_op op_sub (pv 2) (pe_op op_pow pe_int pe_int)) pa_nil))) (pa_cons (pe_op op_add (pe_op op_mod (pe_callTy call_int1 (by rfl) B.int (by decide +kernel) (pa_cons (pe_op op_add (pe_op op_add (pe_op op_mul (pe_op op_mod (pe_callTy call_int1 (by rfl) B.int (by decide +kernel) (pa_cons (pv 2) pa_nil)) pe_int) pe_int) (pe_op op_mul pe_int (pv 1))) pe_int) pa_nil)) pe_int) pe_int) pa_nil)))))), ?_⟩
  refine ⟨_, rfl, _, rfl, _, _, rfl, .inl hS, _, _, rfl, rfl, _, rfl, ?_⟩
  refine ite2 (fun c1 => ?pos) (fun c1 => ?neg)
  case' pos =>
    obtain ⟨n, rest, rfl⟩ : ∃ n rest, ns = n :: rest := by
      cases ns with
      | nil => exact absurd (of_decide_eq_true c1) (by decide)
      | cons n rest => exact ⟨n, rest, rfl⟩
    refine ⟨_, rfl, _, rfl, _, _, _, .int n, rfl, rfl, hS, atI_nat (j := 0) rfl, _, rfl, ?_⟩
    have hz0 : (0 : Int) ≤ (if n < 0 then -n else n) := by split <;> omega
  case' neg =>
    refine ⟨_, rfl, _, _, rfl, rfl, .inl ⟨by decide, by decide⟩, _, _, rfl, rfl, ?_⟩
    have hz0 : (0 : Int) ≤ (1051 * 0 + 821) := by decide
  all_goals
    refine ⟨_, rfl, _, _, rfl, rfl, ⟨by decide, by decide, by decide⟩, _, _, rfl, rfl, _, _, rfl, _, rfl, .inl ⟨_, rfl, _, _, rfl, rfl, (by show (0 : Int) < 2147483529; decide), _, _, rfl, rfl, .inl ⟨?_, ?_⟩, _, rfl, _, _, rfl, rfl, .inl ⟨by decide, by decide⟩, _, _, rfl, rfl, _, _, rfl, rfl, .inl ⟨_, rfl, _, _, rfl, rfl, (by show (0 : Int) < 2147483587; decide), _, _, rfl, rfl, (by show 2 ≤ sizeLine; decide), fun p np => q p _ ⟨_, _, upd_same, ?_, ?_, ?_⟩ (same_new np _) np⟩⟩⟩
    · omega
    · omega
    · split <;> omega
    · omega
    · omega
def sp_law_draw (_ : PySem.W.Frag) (_ : Addr) : Sp := fun vs H Q _ => ∃ a n, vs = [.ref a, .int ((n : Nat) : Int)] ∧ PotAt H a ∧ 0 < n ∧ n ≤ 1000 ∧ ∀ (d : Nat) H', d < n → Kept a H H' → PotAt H' a → Q (.int (d : Int)) H'
theorem ok_law_draw (D : Def K mg "_law_draw" s_law_draw ["_law_pot_here", "_law_size"]) (B : Bs mg) (Glb : Glo mg) (WK : WebK K mg C) :
    Good P w K mg base "_law_draw" s_law_draw ["_law_pot_here", "_law_size"] 1 (sp_law_draw K C) := by
  refine D.good fun f fd F => ?_
  refine F.ok sc_law_draw (fun vs H Q E h => ?_) (fun cdv A outer s H vs Q E hr h => ?_)
  · obtain ⟨a, n, rfl, ⟨x, y, ha, hx, hy, hy2⟩, hn, hn2, q⟩ := h
    first | rfl | (rcases h with ⟨_, _, rfl, _⟩ | ⟨_, rfl, _⟩ <;> rfl)
  obtain ⟨a, n, rfl, ⟨x, y, ha, hx, hy, hy2⟩, hn, hn2, q⟩ := h
  refine ⟨_, (pss_cons (ps_if (pt_cmpR op_gt (pe_ix ix_list (pv 0) pe_int (fun _ _ => rfl)) pe_int (nomark _))
    (pss_cons (ps_asg (pe_callB call_divmod (by rfl) B.divmod (by decide +kernel) (pa_cons (pe_ix ix_list (pv 0) pe_int (fun _ _ => rfl)) (pa_cons (pv 1) pa_nil))) (pg_tup rfl (pgs_cons (pg_sub (pv 0) pe_int set_list) (pgs_cons (pg_name (i := 2) sc_law_draw.nd rfl (by first | exact Or.inl rfl | exact Or.inr rfl)) pgs_nil))))
  (pss_one (ps_ret (pv 2)))) pss_nil)
  (pss_cons (ps_asg (pe_op op_mod (pe_callTy call_int1 (by rfl) B.int (by decide +kernel) (pa_cons (pe_op op_add (pe_op op_mul (pe_ix ix_list (pv 0) pe_int (fun _ _ => rfl)) pe_int) pe_int) pa_nil)) pe_int) (pg_sub (pv 0) pe_int set_list))
  (pss_one (ps_ret (pe_op op_mod (pe_callTy call_int1 (by rfl) B.int (by decide +kernel) (pa_cons (pe_op op_fdiv (pe_op op_mod (pe_callTy call_int1 (by rfl) B.int (by decide +kernel) (pa_cons (pe_op op_mul (pe_ix ix_list (pv 0) pe_int (fun _ _ => rfl)) (pe_ix ix_list (pv 0) pe_int (fun _ _ => rfl))) pa_nil)) pe_int) pe_int) pa_nil)) (pv 1)))))), ?_⟩
  refine ⟨_, rfl, _, _, _, .int x, rfl, rfl, SqL.of ha, rfl, _, _, rfl, rfl, _, rfl, ?_⟩
  refine ite2 (fun c1 => ?_) (fun c1 => ?_)
  · have hpos : (0 : Int) < x := of_decide_eq_true c1
    refine ⟨_, rfl, _, _, _, .int x, rfl, rfl, SqL.of ha, rfl, _, rfl, _, _, rfl, ⟨by omega, by omega⟩, fun p np => ?_⟩
    have hpa : a ≠ p := ne_of_none ha np
    have ha' : (upd H p (.tup [.int (x / (n : Int)), .int (x % (n : Int))])) a = some (.lst [.int x, .int y]) := by
      rw [upd_ne hpa]
      exact ha
    have ed : (((x % (n : Int)).toNat : Nat) : Int) = x % (n : Int) := Int.toNat_of_nonneg (Int.emod_nonneg _ (by omega))
    have el := Int.emod_lt_of_pos x (show (0 : Int) < (n : Int) by omega)
    refine ⟨_, _, rfl, SqT.of upd_same, rfl, _, _, rfl, _, rfl, _, _, _, 0, rfl, rfl, ha', rfl, _, _, rfl, rfl, ?_⟩
    refine ⟨_, rfl, ?_⟩
    have := q (x % (n : Int)).toNat (upd (upd H p (.tup [.int (x / (n : Int)), .int (x % (n : Int))])) a (.lst [.int (x / (n : Int)), .int y])) (by omega) (fun b o e nb => by rw [upd_ne nb, upd_ne (ne_of_none e np)]; exact e)
      ⟨_, _, upd_same, Int.ediv_nonneg hx (by omega), hy, hy2⟩
    rw [ed] at this
    exact this
  · refine ⟨_, rfl, _, _, _, .int y, rfl, rfl, SqL.of ha, rfl, _, _, rfl, rfl, .inl ⟨by omega, by omega⟩, _, _, rfl, rfl, .inl ⟨_, rfl, _, _, rfl, rfl, (by show (0 : Int) < 2147483587; decide), _, rfl, _, _, _, 1, rfl, rfl, ha, rfl, ?_⟩⟩
    have hz0 : (0 : Int) ≤ (y * 40847 + 31307) % 2147483587 := by omega
    have hz1 : (y * 40847 + 31307) % 2147483587 < (2147483587 : Int) := by omega
    refine ⟨_, rfl, _, _, _, .int ((y * 40847 + 31307) % 2147483587), rfl, rfl, SqL.of upd_same, rfl, _, rfl, _, _, _, .int ((y * 40847 + 31307) % 2147483587), rfl, rfl, SqL.of upd_same, rfl, _, _, rfl, rfl, .inl ⟨by omega, by omega⟩, .inl ⟨_, rfl, _, _, rfl, rfl, (by show (0 : Int) < 2147483529; decide), _, _, rfl, rfl, ⟨by decide, by decide⟩, .inl ⟨_, rfl, _, rfl, _, _, rfl, rfl, (by show (0 : Int) < (n : Int); omega), ?_⟩⟩⟩
    have fin : ∀ z : Int, 0 ≤ z → z < 2147483587 → Q (V.int (z * z % 2147483529 / 23 % (n : Int))) (upd H a (.lst [.int x, .int z])) := fun z hz0 hz1 => by
      have ed : (((z * z % 2147483529 / 23 % (n : Int)).toNat : Nat) : Int) = z * z % 2147483529 / 23 % (n : Int) := Int.toNat_of_nonneg (Int.emod_nonneg _ (by omega))
      have el := Int.emod_lt_of_pos (z * z % 2147483529 / 23) (show (0 : Int) < (n : Int) by omega)
      have := q (z * z % 2147483529 / 23 % (n : Int)).toNat (upd H a (.lst [.int x, .int z])) (by omega) (fun b o e nb => by rw [upd_ne nb]; exact e) ⟨_, _, upd_same, hx, hz0, by omega⟩
      rw [ed] at this
      exact this
    exact fin _ hz0 hz1
def sp_law_pick (K : PySem.W.Frag) (_ : Addr) : Sp := fun vs H Q _ => ∃ a l, ∃ xs : List V, vs = [.ref a, .ref l] ∧ H l = some (.lst xs) ∧ l ≠ a ∧ 0 < xs.length ∧ xs.length ≤ 1000 ∧ PotAt H a ∧ ∀ v H', v ∈ xs → Kept a H H' → PotAt H' a → Q v H'
theorem ok_law_pick (D : Def K mg "_law_pick" s_law_pick ["_law_pot_here", "_law_some"]) (B : Bs mg) (Glb : Glo mg) (WK : WebK K mg C)
    (h_law_draw : Good P w K mg base "_law_draw" s_law_draw ["_law_pot_here", "_law_size"] 1 (sp_law_draw K C)) :
    Good P w K mg base "_law_pick" s_law_pick ["_law_pot_here", "_law_some"] 2 (sp_law_pick K C) := by
  refine D.good fun f fd F => ?_
  obtain ⟨f_law_draw, d_law_draw, O_law_draw, m_law_draw, k_law_draw, b_law_draw, F_law_draw⟩ := h_law_draw
  refine F.ok sc_law_pick (fun vs H Q E h => ?_) (fun cdv A outer s H vs Q E hr h => ?_)
  · obtain ⟨a, l, xs, rfl, hl, hla, h0, hlen, hp, q⟩ := h
    first | rfl | (rcases h with ⟨_, _, rfl, _⟩ | ⟨_, rfl, _⟩ <;> rfl)
  obtain ⟨a, l, xs, rfl, hl, hla, h0, hlen, hp, q⟩ := h
  refine ⟨_, (pss_one (ps_ret (pe_ix ix_list (pv 1) (pe_call O_law_draw hr rfl m_law_draw k_law_draw b_law_draw .nil pass0 (pa_cons (pv 0) (pa_cons (pe_callB call_len_seq (by rfl) B.len (by decide +kernel) (pa_cons (pv 1) pa_nil)) pa_nil))) (fun _ _ => rfl)))), ?_⟩
  refine ⟨_, rfl, _, rfl, _, rfl, _, _, rfl, .inl (SqL.of hl), a, xs.length, rfl, hp, h0, hlen, fun d H' hd hk hp' => ?_⟩
  exact ⟨_, _, _, _, rfl, rfl, SqL.of (hk l _ hl hla), atI_nat (List.getElem?_eq_getElem hd), q _ H' (List.getElem_mem hd) hk hp'⟩
def sp_law_text (_ : PySem.W.Frag) (_ : Addr) : Sp := fun vs H Q _ => ∃ a m, vs = [.ref a, .int ((m : Nat) : Int)] ∧ PotAt H a ∧ m ≤ 10 ∧ ∀ x H', OkL x → x.length ≤ m → Kept a H H' → PotAt H' a → Q (.str x) H'
theorem ok_law_text (D : Def K mg "_law_text" s_law_text ["_law_pot_here", "_law_most"]) (B : Bs mg) (Glb : Glo mg) (WK : WebK K mg C)
    (h_law_draw : Good P w K mg base "_law_draw" s_law_draw ["_law_pot_here", "_law_size"] 1 (sp_law_draw K C))
    (h_law_pick : Good P w K mg base "_law_pick" s_law_pick ["_law_pot_here", "_law_some"] 2 (sp_law_pick K C)) :
    Good P w K mg base "_law_text" s_law_text ["_law_pot_here", "_law_most"] 3 (sp_law_text K C) := by
  refine D.good fun f fd F => ?_
  obtain ⟨f_law_draw, d_law_draw, O_law_draw, m_law_draw, k_law_draw, b_law_draw, F_law_draw⟩ := h_law_draw
  obtain ⟨f_law_pick, d_law_pick, O_law_pick, m_law_pick, k_law_pick, b_law_pick, F_law_pick⟩ := h_law_pick
  refine F.ok sc_law_text (fun vs H Q E h => ?_) (fun cdv A outer s H vs Q E hr h => ?_)
  · obtain ⟨a, m, rfl, hp, hm, q⟩ := h
    first | rfl | (rcases h with ⟨_, _, rfl, _⟩ | ⟨_, rfl, _⟩ <;> rfl)
  obtain ⟨a, m, rfl, hp, hm, q⟩ := h
  refine ⟨_, (pss_cons (ps_set (i := 2) sc_law_text.nd rfl (by first | exact Or.inl rfl | exact Or.inr rfl) pe_str)
  (pss_cons (ps_for PassesOwn.never rfl (pi_range1 (by rfl) B.range (pa_cons (pe_call O_law_draw (hr.mono (by decide)) rfl m_law_draw k_law_draw b_law_draw .nil pass0 (pa_cons (pv 0) (pa_cons (pe_op op_add (pv 1) pe_int) pa_nil))) pa_nil)) (pg_name (i := 3) sc_law_text.nd rfl (by first | exact Or.inl rfl | exact Or.inr rfl))
    (pss_one (ps_set (i := 2) sc_law_text.nd rfl (by first | exact Or.inl rfl | exact Or.inr rfl) (pe_op op_add_str (pv 2) (pe_call O_law_pick hr rfl m_law_pick k_law_pick b_law_pick .nil pass0 (pa_cons (pv 0) (pa_cons (pe_lst (pa_cons pe_str (pa_cons pe_str (pa_cons pe_str (pa_cons pe_str pa_nil))))) pa_nil)))))))
  (pss_one (ps_ret (pv 2))))), ?_⟩
  refine ⟨_, rfl, _, rfl, _, _, rfl, rfl, a, m + 1, rfl, hp, by omega, by omega, fun d H1 hd hk1 hp1 => ⟨_, rfl, by omega, by omega, ?_⟩⟩
  refine for_range (lo := 0) (n := d) (fun i σ H' => ∃ (v : Option V) (x : Str), σ = [some (.ref a), some (.int (m : Int)), some (.str x), v] ∧ x.length = i ∧ OkL x ∧ Kept a H H' ∧ PotAt H' a) ?_ ?_ ?_
  · exact ⟨none, _, rfl, by decide +kernel, okT_nil, hk1, hp1⟩
  · rintro i σ H2 hi ⟨v, x, rfl, hlen, hx, hk, hpp⟩
    refine ⟨_, rfl, _, rfl, (by show 4 ≤ sizeLine; decide), fun p np => ?_⟩
    have hpl : upd H2 p (.lst [V.str (Str.ofString "a"), V.str (Str.ofString "b"), V.str (Str.ofString "a"), V.str (Str.ofString "c")]) p = some (.lst [V.str (Str.ofString "a"), V.str (Str.ofString "b"), V.str (Str.ofString "a"), V.str (Str.ofString "c")]) := upd_same
    refine ⟨a, p, _, rfl, hpl, hpp.ne np, by simp, by simp, hpp.new np, fun y H3 hy hk3 hp3 => ?_⟩
    obtain ⟨z, rfl, hz, hz1⟩ := okT_one hy
    refine ⟨_, _, rfl, rfl, ?_, ?_⟩
    · rw [hlen, hz1]
      exact Nat.le_trans (by omega : i + 1 ≤ 400) (by decide)
    · exact ⟨_, x ++ z, rfl, by rw [str_app_len, hlen, hz1], okT_app hx hz (by omega), (hk.new np).trans hk3, hp3⟩
  · rintro σ H2 ⟨v, x, rfl, hlen, hx, hk, hpp⟩
    exact ⟨_, rfl, q x H2 hx (by omega) hk hpp⟩
def sp_law_readings (_ : PySem.W.Frag) (_ : Addr) : Sp := fun vs H Q _ => ∃ a m, vs = [.ref a, .int ((m : Nat) : Int)] ∧ PotAt H a ∧ m ≤ 10 ∧ ∀ l L H', L.length = m → (∀ e ∈ L, OkL e.1 ∧ e.1.length ≤ 5 ∧ 1 ≤ e.2 ∧ e.2 ≤ 20) → Kept a H H' → PotAt H' a → H l = none → RdAt H' l L → Q (.ref l) H'
theorem ok_law_readings (D : Def K mg "_law_readings" s_law_readings ["_law_pot_here", "_law_many"]) (B : Bs mg) (Glb : Glo mg) (WK : WebK K mg C)
    (h_law_text : Good P w K mg base "_law_text" s_law_text ["_law_pot_here", "_law_most"] 3 (sp_law_text K C))
    (h_law_draw : Good P w K mg base "_law_draw" s_law_draw ["_law_pot_here", "_law_size"] 1 (sp_law_draw K C)) :
    Good P w K mg base "_law_readings" s_law_readings ["_law_pot_here", "_law_many"] 4 (sp_law_readings K C) := by
  refine D.good fun f fd F => ?_
  obtain ⟨f_law_text, d_law_text, O_law_text, m_law_text, k_law_text, b_law_text, F_law_text⟩ := h_law_text
  obtain ⟨f_law_draw, d_law_draw, O_law_draw, m_law_draw, k_law_draw, b_law_draw, F_law_draw⟩ := h_law_draw
  refine F.ok sc_law_readings (fun vs H Q E h => ?_) (fun cdv A outer s H vs Q E hr h => ?_)
  · obtain ⟨a, m, rfl, hp, hm, q⟩ := h
    first | rfl | (rcases h with ⟨_, _, rfl, _⟩ | ⟨_, rfl, _⟩ <;> rfl)
  obtain ⟨a, m, rfl, hp, hm, q⟩ := h
  refine ⟨_, (pss_cons (ps_set (i := 2) sc_law_readings.nd rfl (by first | exact Or.inl rfl | exact Or.inr rfl) (pe_lst pa_nil))
  (pss_cons (ps_for PassesOwn.never rfl (pi_range1 (by rfl) B.range (pa_cons (pv 1) pa_nil)) (pg_name (i := 3) sc_law_readings.nd rfl (by first | exact Or.inl rfl | exact Or.inr rfl))
    (pss_one (ps_expr (pe_bm PySem.F.plainAttrs_list PySem.F.slot_list_append PySem.F.type_list_append mt_append (pv 2) (pa_cons (pe_tup (pa_cons (pe_call O_law_text hr rfl m_law_text k_law_text b_law_text .nil pass0 (pa_cons (pv 0) (pa_cons pe_int pa_nil))) (pa_cons (pe_op op_add pe_int (pe_call O_law_draw (hr.mono (by decide)) rfl m_law_draw k_law_draw b_law_draw .nil pass0 (pa_cons (pv 0) (pa_cons pe_int pa_nil)))) pa_nil))) pa_nil)))))
  (pss_one (ps_ret (pv 2))))), ?_⟩
  refine ⟨Nat.zero_le _, fun l nl => ?_⟩
  have hla : l ≠ a := hp.ne nl
  refine ⟨_, rfl, _, rfl, by omega, by omega, ?_⟩
  refine for_range (lo := 0) (n := m) (fun i σ H' => ∃ (v : Option V) (L : List (Str × Int)), σ = [some (.ref a), some (.int (m : Int)), some (.ref l), v] ∧ L.length = i ∧ (∀ e ∈ L, OkL e.1 ∧ e.1.length ≤ 5 ∧ 1 ≤ e.2 ∧ e.2 ≤ 20) ∧ Kept a H H' ∧ PotAt H' a ∧ RdAt H' l L) ?_ ?_ ?_
  · exact ⟨none, [], rfl, rfl, by simp, Same.kept (same_new nl _), hp.new nl, RdAt.nil⟩
  · rintro i σ H2 hi ⟨v, L, rfl, hlen, hL, hk, hpp, hT⟩
    obtain ⟨xs0, hxs0, _⟩ := hT.len
    refine ⟨_, rfl, .inl ⟨rfl, _, SqL.of hxs0⟩, _, rfl, a, 5, rfl, hpp, by decide, fun x H3 hx hx5 hk3 hp3 => ⟨_, rfl, a, 20, rfl, hp3, by decide, by decide, fun d H4 hd hk4 hp4 => ⟨_, _, rfl, rfl, (by show 2 ≤ sizeLine; decide), fun tp ntp => ?_⟩⟩⟩
    have hT4 := (hT.kept hk3 hpp hla).kept hk4 hp3 hla
    obtain ⟨xs, g1, g2, g3⟩ := hT4.push (x := x) (n := 1 + (d : Int)) ntp
    refine ⟨l, _, _, rfl, rfl, g1, by rw [g2, hlen]; exact Nat.lt_of_le_of_lt (by omega : i ≤ 100) (by decide), ?_⟩
    refine ⟨_, L ++ [(x, 1 + (d : Int))], rfl, by rw [List.length_append, hlen]; rfl, fun e he => ?_, (((hk.trans hk3).trans hk4).new ntp).put nl, (hp4.new ntp).put hla, g3⟩
    rcases List.mem_append.mp he with h | h
    · exact hL e h
    · rw [List.mem_singleton.mp h]
      exact ⟨hx, hx5, by show 1 ≤ 1 + (d : Int); omega, by show 1 + (d : Int) ≤ 20; omega⟩
  · rintro σ H2 ⟨v, L, rfl, hlen, hL, hk, hpp, hT⟩
    exact ⟨_, rfl, q l L H2 hlen hL hk hpp nl hT⟩
def sp_law_times (_ : PySem.W.Frag) (_ : Addr) : Sp := fun vs H Q _ => ∃ l L, vs = [.ref l] ∧ RdAt H l L ∧ L.length ≤ 1000 ∧ ∀ H' d, Same H H' → H d = none → H' d = some (.dK (dT (sumT [] L))) → Q (.ref d) H'
theorem ok_law_times (D : Def K mg "_law_times" s_law_times ["_law_readings_here"]) (B : Bs mg) (Glb : Glo mg) (WK : WebK K mg C) :
    Good P w K mg base "_law_times" s_law_times ["_law_readings_here"] 1 (sp_law_times K C) := by
  refine D.good fun f fd F => ?_
  refine F.ok sc_law_times (fun vs H Q E h => ?_) (fun cdv A outer s H vs Q E hr h => ?_)
  · obtain ⟨l, L, rfl, ⟨ts, hl, hP⟩, hlen, q⟩ := h
    first | rfl | (rcases h with ⟨_, _, rfl, _⟩ | ⟨_, rfl, _⟩ <;> rfl)
  obtain ⟨l, L, rfl, ⟨ts, hl, hP⟩, hlen, q⟩ := h
  refine ⟨_, (pss_cons (ps_set (i := 1) sc_law_times.nd rfl (by first | exact Or.inl rfl | exact Or.inr rfl) pe_dnewK)
  (pss_cons (ps_for PassesOwn.never rfl (pi_list (pv 0)) (pg_tup rfl (pgs_cons (pg_name (i := 2) sc_law_times.nd rfl (by first | exact Or.inl rfl | exact Or.inr rfl)) (pgs_cons (pg_name (i := 3) sc_law_times.nd rfl (by first | exact Or.inl rfl | exact Or.inr rfl)) pgs_nil)))
    (pss_one (ps_dput (hu_of hr) (pv 1) (pv 2) (pe_op op_add (pe_dget2 (hu_of hr) (pv 1) (pv 2) pe_int ⟨rfl, rfl, rfl, rfl⟩) (pv 3)) rfl)))
  (pss_one (ps_ret (pv 1))))), ?_⟩
  intro d nd
  refine ⟨_, rfl, l, rfl, ⟨_, SqL.of (same_new nd _ _ _ hl)⟩, ?_⟩
  refine for_list (K := K) (a := l) (xs := ts.map V.ref) (fun i σ H' => ∃ v2 v3 : Option V, σ = [some (.ref l), some (.ref d), v2, v3] ∧ Same H H' ∧ H' d = some (.dK (dT (sumT [] (L.take i))))) ⟨none, none, rfl, same_new nd _, upd_same⟩ (fun i σ H' _ ⟨_, _, _, hS', _⟩ => SqL.of (hS' _ _ hl)) ?_ ?_
  · rintro i x σ H1 hx ⟨v2, v3, rfl, hS, hd⟩
    obtain ⟨p, e, rfl, he, hpe⟩ := si_at hP hx
    have hp1 : H1 p = some (.tup [.str e.1, .int e.2]) := hS _ _ hpe
    refine ⟨p, _, rfl, SqT.of hp1, rfl, _, _, rfl, _, _, rfl, rfl, ?_⟩
    have hget : DGet H1 d (.str e.1) (valV (dT (sumT [] (L.take i))) (Sum.inr e.1 : Key)) := DGet.k (k := Sum.inr e.1) hd
    have hlt : (dT (sumT [] (L.take i))).length < sizeLine := by
      have h1 := sumT_len (L.take i) []
      rw [List.length_take] at h1
      rw [List.length_map]
      exact Nat.lt_of_le_of_lt (by simp at h1; omega : (sumT [] (L.take i)).length ≤ 1000) (by decide)
    refine ⟨_, rfl, d, rfl, .inl ⟨_, .inl hd⟩, _, rfl, _, hget, _, rfl, ?_⟩
    rw [dT_getD]
    refine ⟨_, _, rfl, rfl, _, rfl, _, rfl, d, _, rfl, DPut.k (k := Sum.inr e.1) hd hlt, ?_⟩
    rw [dT_put (sumT_nodup _ (by simp))]
    refine ⟨_, _, rfl, same_upd hS nd, ?_⟩
    rw [upd_same, take_snoc he, sumT_snoc]
  · rintro σ H1 ⟨v2, v3, rfl, hS, hd⟩
    rw [List.length_map, paired_len hP, List.take_length] at hd
    exact ⟨_, rfl, q H1 d hS nd hd⟩
end
end My
namespace My
open PySem L2 PyProof.Rows
/-- the dict's texts in sequence, each with its number -/
def inSeq (D : List (Str × Int)) : List (Str × Int) := ((D.map Prod.fst).mergeSort leS).map fun x => (x, getT D x)
theorem getT_mem {D : List (Str × Int)} (hn : (D.map Prod.fst).Nodup) {e : Str × Int} (h : e ∈ D) : getT D e.1 = e.2 := by
  induction D with
  | nil => cases h
  | cons f r ih =>
    have hn' := List.nodup_cons.mp (by simpa using hn : (f.1 :: r.map Prod.fst).Nodup)
    rcases List.mem_cons.mp h with z | z
    · subst z
      simp [getT]
    · have hne : ¬ f.1 = e.1 := fun q => hn'.1 (by rw [q]; exact List.mem_map.mpr ⟨e, z, rfl⟩)
      have s2 : getT (f :: r) e.1 = getT r e.1 := by simp [getT, List.find?_cons, hne]
      rw [s2]
      exact ih hn'.2 z
theorem inSeq_told {D : List (Str × Int)} (hn : (D.map Prod.fst).Nodup) : Told (inSeq D) := by
  unfold Told inSeq
  rw [List.pairwise_map]
  exact texts_of hn
theorem mem_inSeq {D : List (Str × Int)} (hn : (D.map Prod.fst).Nodup) (e : Str × Int) : e ∈ inSeq D ↔ e ∈ D := by
  unfold inSeq
  rw [List.mem_map]
  constructor
  · rintro ⟨x, hx, rfl⟩
    obtain ⟨f, hf, rfl⟩ := List.mem_map.mp ((List.mergeSort_perm _ leS).mem_iff.mp hx)
    rw [getT_mem hn hf]
    exact hf
  · intro h
    exact ⟨e.1, (List.mergeSort_perm _ leS).mem_iff.mpr (List.mem_map.mpr ⟨e, h, rfl⟩), by rw [getT_mem hn h]⟩
theorem told_inSeq {D : List (Str × Int)} (hn : (D.map Prod.fst).Nodup) : told D = inSeq D :=
  (told_of hn).unique (inSeq_told hn) fun e => told_mem.trans (mem_inSeq hn e).symm
/-- lots of the same numbers are told alike -/
theorem told_same {D E : List (Str × Int)} (hn : (D.map Prod.fst).Nodup) (kn : (E.map Prod.fst).Nodup) (h : ∀ e, e ∈ D ↔ e ∈ E) : told D = told E :=
  (told_of hn).unique (told_of kn) fun e => told_mem.trans ((h e).trans told_mem.symm)
theorem mem_get {D : List (Str × Int)} (hn : (D.map Prod.fst).Nodup) (e : Str × Int) : e ∈ D ↔ e.1 ∈ D.map Prod.fst ∧ getT D e.1 = e.2 := by
  constructor
  · intro h
    exact ⟨List.mem_map.mpr ⟨e, h, rfl⟩, getT_mem hn h⟩
  · rintro ⟨h1, h2⟩
    obtain ⟨f, hf, e1⟩ := List.mem_map.mp h1
    have e2 := getT_mem hn hf
    rw [e1, h2] at e2
    have : f = e := Prod.ext e1 e2.symm
    rw [← this]
    exact hf
theorem told_get {D E : List (Str × Int)} (hn : (D.map Prod.fst).Nodup) (kn : (E.map Prod.fst).Nodup) (h : ∀ x, x ∈ D.map Prod.fst ↔ x ∈ E.map Prod.fst) (k : ∀ x, getT D x = getT E x) : told D = told E :=
  told_same hn kn fun e => by rw [mem_get hn, mem_get kn, h, k]
/-- lists of pairs compared -/
theorem okT_str {x : Str} (h : OkT x) : PyData.strOk x = true := by
  unfold PyData.strOk
  rw [Array.all_eq_true']
  intro c hc
  have := h.let_ c (by simpa using hc)
  simp
  omega
theorem layAll_si : ∀ {L : List (Str × Int)}, (∀ e ∈ L, OkT e.1) → PyData.canLayAll0 (L.map encSI) = true
  | [], _ => rfl
  | e :: r, h => by
    show (PyData.canLay0 (encSI e) && PyData.canLayAll0 (r.map encSI)) = true
    rw [layAll_si fun f hf => h f (List.mem_cons_of_mem _ hf)]
    have hx := okT_str (h e List.mem_cons_self)
    simp only [encSI, PyData.canLay0, PyData.canLayAll0, Bool.and_true]
    exact hx
theorem depthAll_si (e : Str × Int) : ∀ r : List (Str × Int), PyData.depthAll ((e :: r).map encSI) = 1
  | [] => rfl
  | f :: r => by
    show max (PyData.depth (encSI e)) (PyData.depthAll ((f :: r).map encSI)) = 1
    rw [depthAll_si f r]
    rfl
theorem shaped_si : ∀ {L : List (Str × Int)}, (∀ e ∈ L, OkT e.1) → SeqAt.shaped (.list (L.map encSI)) = true
  | [], _ => shaped_iz []
  | e :: r, h => by
    unfold SeqAt.shaped
    have h1 : PyData.canLay0 (.list ((e :: r).map encSI)) = true := by
      unfold PyData.canLay0
      exact layAll_si h
    have h2 : PyData.depth (.list ((e :: r).map encSI)) = 2 := by
      unfold PyData.depth
      rw [depthAll_si]
    rw [h1, h2]
    rfl
theorem dp_rd {K : PySem.W.Frag} {H : Hp} {l : Addr} {L : List (Str × Int)} (h : RdAt H l L) : Dp K H (.ref l) (.list (L.map encSI)) := by
  obtain ⟨ts, h1, h2⟩ := h
  exact .lst (SqL.of h1) (dp_si h2)
section
variable {P : Program} {w : World} {K : PySem.W.Frag} {mg : Str → Option Value} {base : Heap} {C : Addr}
def spLot_solid (_ : PySem.W.Frag) (C : Addr) : Sp := fun vs H Q _ => ∃ a tl s M, ∃ n : Nat, vs = [.ref a, .int (n : Int)] ∧ 1 ≤ n ∧ LotAt C a tl s M H ∧ M.length ≤ 200 ∧ (∀ e ∈ M, e.1.length ≤ 400) ∧ s ≤ 8 ∧ ∀ H' l, H l = none → Same H H' → H' l = some (.lst ((((told (sumT [] (pcsT s M))).filter fun e => decide (e.2 ≥ (n : Int))).map Prod.fst).map V.str)) → Q (.ref l) H'
theorem okLot_solid (D : DefM K C "solid" "Lot.solid" sLot_solid ["self", "least"]) (B : Bs mg) (Glb : Glo mg) (WK : WebK K mg C)
    (his_count : Good P w K mg base "is_count" sis_count ["value"] 2 (spis_count K C))
    (hLot_pieces : GoodM P w K mg base C "pieces" "Lot.pieces" sLot_pieces ["self"] 3 (spLot_pieces K C)) :
    GoodM P w K mg base C "solid" "Lot.solid" sLot_solid ["self", "least"] 5 (spLot_solid K C) := by
  refine D.good fun f fd F => ?_
  obtain ⟨fis_count, dis_count, Ois_count, mis_count, kis_count, bis_count, Fis_count⟩ := his_count
  obtain ⟨fLot_pieces, dLot_pieces, OLot_pieces, tLot_pieces, bLot_pieces, FLot_pieces⟩ := hLot_pieces
  refine F.ok scLot_solid (fun vs H Q E h => ?_) (fun cdv A outer s H vs Q E hr h => ?_)
  · obtain ⟨a, tl, s, M, n, rfl, hn, hLot, hlen, hok, hs, q⟩ := h
    first | rfl | (rcases h with ⟨_, _, rfl, _⟩ | ⟨_, rfl, _⟩ <;> rfl)
  obtain ⟨a, tl, s, M, n, rfl, hn, hLot, hlen, hok, hs, q⟩ := h
  refine ⟨_, (pss_cons (ps_if (PW.pt (pw_or (pt_not (pt_val (pe_call Ois_count (hr.mono (by decide)) rfl mis_count kis_count bis_count .nil pass0 (pa_cons (pv 1) pa_nil)))) (pw_or1 (pt_cmpR op_lt (pv 1) pe_int (nomark _)))))
    (pss_one ps_never) pss_nil)
  (pss_one (ps_ret (pe_lc (own := [("piece", 2), ("times", 3)]) (g := gTup K 2 (gCons (gName 2) (gCons (gName 3) gNil))) (by rfl) scLot_solid.nd (pi_list (pe_meth0 (pv 0) WK.cl tLot_pieces OLot_pieces (hr.mono (by decide)) bLot_pieces .nil pass0)) (blkOk_by (own := [("piece", 2), ("times", 3)]) (N := ["self", "least", "piece", "times"]) (sc := defScope sLot_solid) (by decide +kernel)) (fun _ _ _ _ _ => (pg_tup rfl (pgs_cons (pg_name (i := 2) scLot_solid.nd rfl (by first | exact Or.inl rfl | exact Or.inr rfl)) (pgs_cons (pg_name (i := 3) scLot_solid.nd rfl (by first | exact Or.inl rfl | exact Or.inr rfl)) pgs_nil)))) (fun _ _ _ _ _ => (pts_one (pt_cmpR op_ge (pv 3) (pv 1) (nomark _)))) (fun _ _ _ _ _ => (pv 2)))))), ?_⟩
  refine ⟨_, rfl, n, rfl, _, rfl, iteF ⟨_, rfl, _, _, rfl, rfl, _, rfl, iteNo (by omega) ?_⟩⟩
  obtain ⟨dx, h1, _⟩ := id hLot
  have hbig : (told (sumT [] (pcsT s M))).length ≤ 90000 := by
    have h1 := pcsT_len s hok
    have h2 := sumT_len (pcsT s M) []
    have h3 : M.length * 401 ≤ 200 * 401 := Nat.mul_le_mul hlen (Nat.le_refl _)
    rw [told_len]
    simp at h2
    omega
  refine ⟨_, rfl, a, dx, _, rfl, h1, lf_no _ _ (by decide +kernel) (by decide +kernel), a, tl, s, M, rfl, hLot, hlen, hok, hs, fun H1 l nl hS1 hR => ?_⟩
  generalize told (sumT [] (pcsT s M)) = N at hbig hR q
  obtain ⟨ts, hl, hP⟩ := hR
  refine ⟨l, rfl, ⟨_, SqL.of hl⟩, fun D nD => ?_⟩
  refine lc_list (K := K) (a := l) (xs := ts.map V.ref) (fun i H' => Same H1 H' ∧ H' D = some (.lst ((((N.take i).filter fun e => decide (e.2 ≥ (n : Int))).map Prod.fst).map V.str))) ⟨same_new nD _, upd_same⟩ (fun i H' _ ⟨hS', _⟩ => SqL.of (hS' _ _ hl)) ?_ ?_
  · rintro i x H2 hx ⟨hS2, hD⟩
    obtain ⟨p, e, rfl, he, hpe⟩ := si_at hP hx
    have hp2 : H2 p = some (.tup [.str e.1, .int e.2]) := hS2 _ _ hpe
    refine ⟨p, _, rfl, SqT.of hp2, rfl, _, _, rfl, _, _, rfl, rfl, rfl, ?_⟩
    refine ⟨_, rfl, _, rfl, _, _, rfl, rfl, _, rfl, ?_⟩
    by_cases c : e.2 ≥ (n : Int)
    · refine iteYes c ⟨_, rfl, _, hD, ?_, same_upd hS2 nD, ?_⟩
      · rw [List.length_map, List.length_map]
        refine Nat.lt_of_le_of_lt (Nat.le_trans (List.length_filter_le _ _) ?_) (show 90000 < sizeLine by decide)
        rw [List.length_take]
        omega
      · rw [upd_same, take_snoc he, List.filter_append, List.map_append, List.map_append, List.filter_cons_of_pos (by simpa using c)]
        rfl
    · refine iteNo c ⟨hS2, ?_⟩
      rw [hD, take_snoc he, List.filter_append, List.filter_cons_of_neg (by simpa using c), List.filter_nil, List.append_nil]
  · rintro H2 ⟨hS2, hD⟩
    rw [List.length_map, paired_len hP, List.take_length] at hD
    exact q H2 D (hS1.free nD) (hS1.trans hS2) hD
end
end My
namespace My
open PySem L2 PyProof.Rows
theorem eqv_e (e f : Str × Int) : PyData.eqv (encSI e) (encSI f) = decide (e = f) := by
  obtain ⟨x, n⟩ := e
  obtain ⟨y, m⟩ := f
  by_cases h : x = y
  · subst h
    by_cases k : n = m
    · subst k
      simp [encSI, PyData.eqv, PyData.eqvAll]
    · simp [encSI, PyData.eqv, PyData.eqvAll, k]
  · simp [encSI, PyData.eqv, PyData.eqvAll, h]
theorem eqvAll_si : ∀ M N : List (Str × Int), PyData.eqvAll (M.map encSI) (N.map encSI) = decide (M = N)
  | [], [] => rfl
  | [], _ :: _ => rfl
  | _ :: _, [] => rfl
  | e :: M, f :: N => by
    have ih := eqvAll_si M N
    show PyData.eqvAll (encSI e :: M.map encSI) (encSI f :: N.map encSI) = _
    rw [PyData.eqvAll, eqv_e, ih]
    by_cases h : e = f
    · subst h
      by_cases k : M = N
      · subst k; simp
      · simp [k]
    · simp [h]
theorem eqv_si (M N : List (Str × Int)) : PyData.eqv (.list (M.map encSI)) (.list (N.map encSI)) = decide (M = N) := by
  rw [PyData.eqv]
  exact eqvAll_si M N
section
variable {P : Program} {w : World} {K : PySem.W.Frag} {mg : Str → Option Value} {base : Heap} {C : Addr}
def spLot___eq__ (_ : PySem.W.Frag) (C : Addr) : Sp := fun vs H Q _ => ∃ a tl s M b, vs = [.ref a, .ref b] ∧ LotAt C a tl s M H ∧
  ((∃ tb r N, LotAt C b tb r N H ∧ (∀ e ∈ M, OkT e.1) ∧ (∀ e ∈ N, OkT e.1) ∧ Q (.bl (decide (s = r ∧ M = N))) H) ∨ (∃ kvs, H b = some (.dK kvs) ∧ Q (.bl false) H))
theorem okLot___eq__ (D : DefM K C "__eq__" "Lot.__eq__" sLot___eq__ ["self", "other"]) (B : Bs mg) (Glb : Glo mg) (WK : WebK K mg C) :
    GoodM P w K mg base C "__eq__" "Lot.__eq__" sLot___eq__ ["self", "other"] 1 (spLot___eq__ K C) := by
  refine D.good fun f fd F => ?_
  refine F.ok scLot___eq__ (fun vs H Q E h => ?_) (fun cdv A outer s H vs Q E hr h => ?_)
  · obtain ⟨a, tl, s, M, b, rfl, hA, hB⟩ := h
    first | rfl | (rcases h with ⟨_, _, rfl, _⟩ | ⟨_, rfl, _⟩ <;> rfl)
  obtain ⟨a, tl, s, M, b, rfl, hA, hB⟩ := h
  refine ⟨_, (pss_one (ps_ret (pe_and (pe_callB call_isi (by rfl) B.isinstance (by decide +kernel) (pa_cons (pv 1) (pa_cons (pe_glob (v := .ref C) (by rfl) WK.mgC rfl) pa_nil))) (pe_and (pe_cmpR op_eq (pe_fld (pv 0) rfl) (pe_fld (pv 1) rfl) (nomark _)) (pe_one (pe_cmpR (op_eqD hr.units) (pe_fld (pv 0) rfl) (pe_fld (pv 1) rfl) (nomark _))))))), ?_⟩
  obtain ⟨dx, h1, h2⟩ := id hA
  rcases hB with ⟨tb, r, N, hB, hM, hN, q⟩ | ⟨kvs, hd, q⟩
  · obtain ⟨dy, k1, k2⟩ := id hB
    refine ⟨_, rfl, _, _, _, _, true, rfl, .own C, .base (.ins k1 WK.cl WK.i1 WK.i2 WK.i3 WK.i4), WK.i5, _, rfl, iteT ?_⟩
    refine ⟨_, rfl, a, C, dx, _, _, rfl, h1, WK.cl, WK.nS, lf_S _ _, _, rfl, b, C, dy, _, _, rfl, k1, WK.cl, WK.nS, lf_S _ _, rfl, _, rfl, ?_⟩
    by_cases c : s = r
    · refine iteYes (int_eq.mpr (by rw [c])) ?_
      refine ⟨_, rfl, a, C, dx, _, _, rfl, h1, WK.cl, WK.nT, lf_T _ _, _, rfl, b, C, dy, _, _, rfl, k1, WK.cl, WK.nT, lf_T _ _, _, _, dp_rd h2, dp_rd k2, shaped_si hM, shaped_si hN, ?_⟩
      rw [eqv_si]
      have e : decide (s = r ∧ M = N) = decide (M = N) := by simp [c]
      rw [e] at q
      exact q
    · refine iteNo (fun z => c (by have := int_eq.mp z; omega)) ?_
      have e : decide (s = r ∧ M = N) = false := by simp [c]
      rw [e] at q
      exact q
  · exact ⟨_, rfl, _, _, _, _, false, rfl, .own C, .base (.dK hd), WK.kd, _, rfl, iteF q⟩
/-- a text's number made less -/
def lessT (M : List (Str × Int)) (x : Str) (n : Int) : List (Str × Int) := (M.filter fun e => decide (e.1 ≠ x)) ++ (if getT M x > n then [(x, getT M x - n)] else [])
def spwithout_reading (_ : PySem.W.Frag) (C : Addr) : Sp := fun vs H Q _ => ∃ a tl s M x n, vs = [.ref a, .str x, .int n] ∧ LotAt C a tl s M H ∧ 2 ≤ s ∧ s ≤ 8 ∧ OkT x ∧ 1 ≤ n ∧ n ≤ 20 ∧ (M.map Prod.fst).Nodup ∧ M.length ≤ 59 ∧ n ≤ getT M x ∧ (∀ e ∈ lessT M x n, e.2 ≤ 1200) ∧ ∀ H' b tm, H b = none → H tm = none → Same H H' → LotAt C b tm s (told (lessT M x n)) H' → Q (.ref b) H'
theorem okwithout_reading (D : Def K mg "without_reading" swithout_reading ["lot", "text", "times"]) (B : Bs mg) (Glb : Glo mg) (WK : WebK K mg C)
    (hneed_lot : Good P w K mg base "need_lot" sneed_lot ["lot"] 3 (spneed_lot K C))
    (hneed_text : Good P w K mg base "need_text" sneed_text ["text"] 3 (spneed_text K C))
    (hneed_times : Good P w K mg base "need_times" sneed_times ["times"] 4 (spneed_times K C))
    (hlot_told : Good P w K mg base "lot_told" slot_told ["size", "told"] 7 (splot_told K C))
    (hLot_times_of : GoodM P w K mg base C "times_of" "Lot.times_of" sLot_times_of ["self", "text"] 4 (spLot_times_of K C))
    (hLot_size : GoodP P w K mg base C "size" "Lot.size" sLot_size ["self"] 1 (spLot_size K C))
    (hLot_readings : GoodM P w K mg base C "readings" "Lot.readings" sLot_readings ["self"] 1 (spLot_readings K C)) :
    Good P w K mg base "without_reading" swithout_reading ["lot", "text", "times"] 8 (spwithout_reading K C) := by
  refine D.good fun f fd F => ?_
  obtain ⟨fneed_lot, dneed_lot, Oneed_lot, mneed_lot, kneed_lot, bneed_lot, Fneed_lot⟩ := hneed_lot
  obtain ⟨fneed_text, dneed_text, Oneed_text, mneed_text, kneed_text, bneed_text, Fneed_text⟩ := hneed_text
  obtain ⟨fneed_times, dneed_times, Oneed_times, mneed_times, kneed_times, bneed_times, Fneed_times⟩ := hneed_times
  obtain ⟨flot_told, dlot_told, Olot_told, mlot_told, klot_told, blot_told, Flot_told⟩ := hlot_told
  obtain ⟨fLot_times_of, dLot_times_of, OLot_times_of, tLot_times_of, bLot_times_of, FLot_times_of⟩ := hLot_times_of
  obtain ⟨qLot_size, fLot_size, dLot_size, OLot_size, pLot_size, bLot_size⟩ := hLot_size
  obtain ⟨fLot_readings, dLot_readings, OLot_readings, tLot_readings, bLot_readings, FLot_readings⟩ := hLot_readings
  refine F.ok scwithout_reading (fun vs H Q E h => ?_) (fun cdv A outer s H vs Q E hr h => ?_)
  · obtain ⟨a, tl, s, M, x, n, rfl, hLot, hs1, hs2, hx, hn1, hn2, hnd, hlen, hle, hok, q⟩ := h
    first | rfl | (rcases h with ⟨_, _, rfl, _⟩ | ⟨_, rfl, _⟩ <;> rfl)
  obtain ⟨a, tl, s, M, x, n, rfl, hLot, hs1, hs2, hx, hn1, hn2, hnd, hlen, hle, hok, q⟩ := h
  refine ⟨_, (pss_cons (ps_expr (pe_call Oneed_lot (hr.mono (by decide)) rfl mneed_lot kneed_lot bneed_lot .nil pass0 (pa_cons (pv 0) pa_nil)))
  (pss_cons (ps_expr (pe_call Oneed_text (hr.mono (by decide)) rfl mneed_text kneed_text bneed_text .nil pass0 (pa_cons (pv 1) pa_nil)))
  (pss_cons (ps_expr (pe_call Oneed_times (hr.mono (by decide)) rfl mneed_times kneed_times bneed_times .nil pass0 (pa_cons (pv 2) pa_nil)))
  (pss_cons (ps_set (i := 3) scwithout_reading.nd rfl (by first | exact Or.inl rfl | exact Or.inr rfl) (pe_meth (pv 0) WK.cl tLot_times_of OLot_times_of (hr.mono (by decide)) bLot_times_of .nil pass0 (pa_cons (pv 1) pa_nil)))
  (pss_cons (ps_if (pt_cmpR op_eq (pv 3) pe_int (nomark _))
    (pss_one ps_never) pss_nil)
  (pss_cons (ps_if (pt_cmpR op_lt (pv 3) (pv 2) (nomark _))
    (pss_one ps_never) pss_nil)
  (pss_cons (ps_setLc (i := 4) (own := [("reading", 5)]) (g := gName 5) (by rfl) scwithout_reading.nd rfl rfl (sw_true rfl rfl rfl (by decide +kernel)) (pi_list (pe_meth0 (pv 0) WK.cl tLot_readings OLot_readings (hr.mono (by decide)) bLot_readings .nil pass0)) (blkOk_by (own := [("reading", 5)]) (N := ["lot", "text", "times", "read", "left", "reading"]) (sc := defScope swithout_reading) (by decide +kernel)) (fun _ _ _ _ _ => (pg_name (i := 5) scwithout_reading.nd rfl (by first | exact Or.inl rfl | exact Or.inr rfl))) (fun _ _ _ _ _ => (pts_one (pt_cmpR op_ne (pe_ix (ix_tupK (K := K) rfl) (pv 5) pe_int (fun _ _ => rfl)) (pv 1) (nomark _)))) (fun _ _ _ _ _ => (pv 5)))
  (pss_cons (ps_if (pt_cmpR op_gt (pv 3) (pv 2) (nomark _))
    (pss_one (ps_expr (pe_bm PySem.F.plainAttrs_list PySem.F.slot_list_append PySem.F.type_list_append mt_append (pv 4) (pa_cons (pe_tup (pa_cons (pv 1) (pa_cons (pe_op op_sub (pv 3) (pv 2)) pa_nil))) pa_nil)))) pss_nil)
  (pss_one (ps_ret (pe_call Olot_told hr rfl mlot_told klot_told blot_told .nil pass0 (pa_cons (pe_prop (pv 0) WK.cl pLot_size OLot_size (hr.mono (by decide)) bLot_size .nil pass0 (by rfl)) (pa_cons (pv 4) pa_nil))))))))))))), ?_⟩
  obtain ⟨dx, h1, _⟩ := id hLot
  refine ⟨_, rfl, a, tl, s, M, rfl, hLot, _, rfl, x, rfl, hx, _, rfl, n, rfl, hn1, hn2, ?_⟩
  refine ⟨_, rfl, a, dx, _, rfl, h1, lf_no _ _ (by decide +kernel) (by decide +kernel), _, rfl, a, tl, s, M, x, rfl, hLot, hx, hnd, fun H1 hS1 => ?_⟩
  refine ⟨_, rfl, rfl, _, rfl, iteNo (fun z => by have := int_eq.mp z; omega) ?_⟩
  refine ⟨_, rfl, _, rfl, _, _, rfl, rfl, _, rfl, iteNo (by omega) ?_⟩
  obtain ⟨dx1, g1, _⟩ := id (hLot.same hS1)
  refine ⟨_, rfl, a, dx1, _, rfl, g1, lf_no _ _ (by decide +kernel) (by decide +kernel), a, tl, s, M, rfl, hLot.same hS1, fun H2 l nl hS2 ⟨ts, hl, hP⟩ => ?_⟩
  have hS02 := hS1.trans hS2
  refine ⟨l, rfl, ⟨_, SqL.of hl⟩, fun D nD => ?_⟩
  refine lc_list (K := K) (a := l) (xs := ts.map V.ref) (fun i H' => Same H2 H' ∧ RdAt H' D ((M.take i).filter fun e => decide (e.1 ≠ x))) ⟨same_new nD _, RdAt.nil⟩ (fun i H' _ ⟨hS', _⟩ => SqL.of (hS' _ _ hl)) ?_ ?_
  · rintro i v H3 hv ⟨hS3, us, hD, hU⟩
    obtain ⟨p, e, rfl, he, hpe⟩ := si_at hP hv
    have hp3 : H3 p = some (.tup [.str e.1, .int e.2]) := hS3 _ _ hpe
    refine ⟨rfl, _, rfl, _, _, _, .str e.1, rfl, rfl, SqT.of hp3, rfl, _, rfl, rfl, _, rfl, ?_⟩
    by_cases c : e.1 = x
    · refine iteNot' (by rw [c]) ⟨hS3, us, ?_, ?_⟩
      · exact hD
      · rw [take_snoc he, List.filter_append, List.filter_cons_of_neg (by simpa using c), List.filter_nil, List.append_nil]
        exact hU
    · refine iteNot (fun z => c (V.str.inj z)) ⟨_, rfl, _, hD, ?_, same_upd hS3 nD, us ++ [p], ?_, ?_⟩
      · rw [List.length_map, paired_len hU]
        refine Nat.lt_of_le_of_lt (Nat.le_trans (List.length_filter_le _ _) ?_) (show 100 < sizeLine by decide)
        rw [List.length_take]
        omega
      · rw [upd_same, List.map_append]
        rfl
      · rw [take_snoc he, List.filter_append, List.filter_cons_of_pos (by simpa using c), List.filter_nil]
        refine paired_end (paired_mono (fun q e hq => ?_) hU) ?_
        · have nq : q ≠ D := ne_of hq hD (by intro z; cases z)
          show upd _ _ _ q = _
          rw [upd_ne nq]
          exact hq
        · have np : p ≠ D := ne_of hp3 hD (by intro z; cases z)
          show upd _ _ _ p = _
          rw [upd_ne np]
          exact hp3
  rintro H3 ⟨hS3, hR⟩
  rw [List.length_map, paired_len hP, List.take_length] at hR
  have hS03 := hS02.trans hS3
  have nD0 : H D = none := hS02.free nD
  have hll : (lessT M x n).length ≤ 60 := by
    unfold lessT
    rw [List.length_append]
    have := List.length_filter_le (fun e : Str × Int => decide (e.1 ≠ x)) M
    split
    · show (M.filter fun e => decide (e.1 ≠ x)).length + 1 ≤ 60
      omega
    · show (M.filter fun e => decide (e.1 ≠ x)).length + 0 ≤ 60
      omega
  refine ⟨_, rfl, _, rfl, _, _, rfl, rfl, _, rfl, ?_⟩
  by_cases c : getT M x > n
  · refine iteYes c ?_
    obtain ⟨xs0, hxs0, _⟩ := hR.len
    refine ⟨_, rfl, .inl ⟨rfl, _, SqL.of hxs0⟩, _, rfl, _, rfl, _, rfl, _, _, rfl, rfl, (by show 2 ≤ sizeLine; decide), fun tp ntp => ?_⟩
    obtain ⟨xs, e1, e2, e3⟩ := hR.push (x := x) (n := getT M x - n) ntp
    have hfl := List.length_filter_le (fun e : Str × Int => decide (e.1 ≠ x)) M
    refine ⟨D, _, _, rfl, rfl, e1, by rw [e2]; exact Nat.lt_of_le_of_lt (by omega : _ ≤ 100) (by decide), ?_⟩
    have hS4 : Same H (upd (upd H3 tp (.tup [.str x, .int (getT M x - n)])) D (.lst (xs ++ [.ref tp]))) := same_upd (fun b o e => same_new ntp _ _ _ (hS03 _ _ e)) nD0
    generalize upd (upd H3 tp (.tup [.str x, .int (getT M x - n)])) D (.lst (xs ++ [.ref tp])) = H4 at e3 hS4
    have el : lessT M x n = (M.filter fun e => decide (e.1 ≠ x)) ++ [(x, getT M x - n)] := by unfold lessT; rw [if_pos c]
    obtain ⟨dx4, g4, _⟩ := id (hLot.same hS4)
    refine ⟨_, rfl, a, dx4, _, rfl, g4, a, tl, s, M, rfl, hLot.same hS4, _, rfl, s, D, lessT M x n, rfl, hs1, hs2, by rw [el]; exact e3, hll, hok, fun H5 b tm nb ntm hS5 hL5 => q H5 b tm (hS4.free nb) (hS4.free ntm) (hS4.trans hS5) hL5⟩
  · refine iteNo c ?_
    have el : lessT M x n = M.filter fun e => decide (e.1 ≠ x) := by unfold lessT; rw [if_neg c, List.append_nil]
    obtain ⟨dx4, g4, _⟩ := id (hLot.same hS03)
    refine ⟨_, rfl, a, dx4, _, rfl, g4, a, tl, s, M, rfl, hLot.same hS03, _, rfl, s, D, lessT M x n, rfl, hs1, hs2, by rw [el]; exact hR, hll, hok, fun H5 b tm nb ntm hS5 hL5 => q H5 b tm (hS03.free nb) (hS03.free ntm) (hS03.trans hS5) hL5⟩
end
end My
namespace My
open PySem L2 PyProof.Rows
theorem dT_some {x : Str} {D : List (Str × Int)} (h : x ∈ D.map Prod.fst) : valV (dT D) (Sum.inr x : Key) = some (.int (getT D x)) := by
  rw [dT_val]
  unfold getT
  cases e : D.find? fun e => decide (e.1 = x) with
  | none =>
    obtain ⟨f, hf, rfl⟩ := List.mem_map.mp h
    have := List.find?_eq_none.mp e f hf
    simp at this
  | some f => rfl
theorem keys_V (D : List (Str × Int)) : (dT D).map (fun kv => kV kv.1) = (D.map Prod.fst).map V.str := by
  unfold dT
  rw [List.map_map, List.map_map]
  rfl
theorem dp_strs {K : PySem.W.Frag} {H : Hp} : ∀ L : List Str, DpAll K H (L.map V.str) (L.map PyData.str)
  | [] => .nil
  | x :: r => .cons (.str x) (dp_strs r)
theorem strs_alike (L : List Str) : PySem.W.AllAlike (L.map PyData.str) := by
  intro d hd d' hd'
  obtain ⟨e, _, rfl⟩ := List.mem_map.mp hd
  obtain ⟨e', _, rfl⟩ := List.mem_map.mp hd'
  rfl
theorem strs_sortable (L : List Str) : PySem.W.Sortable (L.map PyData.str) := .others (enc := PyData.str) fun b => ⟨fun z => (by cases z), fun xs z => (by cases z)⟩
theorem strs_map (L : List Str) : (L.map PyData.str).mergeSort (PySem.W.dataLe false id) = (L.mergeSort leS).map PyData.str :=
  (List.map_mergeSort (f := PyData.str) (r := leS) (s := PySem.W.dataLe false id) (l := L) (fun a _ b _ => by rw [← dataLe_s]; rfl)).symm
theorem sorted_strs {L : List Str} : ∀ {zs : List V} {M : List Str}, Paired (fun (z : V) (d : PyData) => ∃ j : Nat, (L.map V.str)[j]? = some z ∧ (L.map PyData.str)[j]? = some d) zs (M.map PyData.str) → zs = M.map V.str
  | _, [], .nil => rfl
  | _, m :: M, .cons h t => by
    have := sorted_strs t
    obtain ⟨j, h1, h2⟩ := h
    obtain ⟨x, hx, rfl⟩ := str_at h1
    rw [List.getElem?_map, hx] at h2
    injection Option.some.inj h2 with h3
    rw [this, h3]
    rfl
section
variable {P : Program} {w : World} {K : PySem.W.Frag} {mg : Str → Option Value} {base : Heap} {C : Addr}
def sp_law_sorted (_ : PySem.W.Frag) (_ : Addr) : Sp := fun vs H Q _ => ∃ d D, vs = [.ref d] ∧ H d = some (.dK (dT D)) ∧ (D.map Prod.fst).Nodup ∧ D.length ≤ 90000 ∧ ∀ H' l, H l = none → Same H H' → RdAt H' l (told D) → Q (.ref l) H'
theorem ok_law_sorted (D : Def K mg "_law_sorted" s_law_sorted ["_law_told"]) (B : Bs mg) (Glb : Glo mg) (WK : WebK K mg C) :
    Good P w K mg base "_law_sorted" s_law_sorted ["_law_told"] 1 (sp_law_sorted K C) := by
  refine D.good fun f fd F => ?_
  refine F.ok sc_law_sorted (fun vs H Q E h => ?_) (fun cdv A outer s H vs Q E hr h => ?_)
  · obtain ⟨d, D, rfl, hd, hn, hlen, q⟩ := h
    first | rfl | (rcases h with ⟨_, _, rfl, _⟩ | ⟨_, rfl, _⟩ <;> rfl)
  obtain ⟨d, D, rfl, hd, hn, hlen, q⟩ := h
  refine ⟨_, (pss_one (ps_ret (pe_lc (own := [("_law_one", 1)]) (g := gName 1) (by rfl) sc_law_sorted.nd (pi_list (pe_callB (cr_sortD hr.units) (by rfl) B.sorted (by decide +kernel) (pa_cons (pe_callTy (call_listD rfl) (by rfl) B.list (by decide +kernel) (pa_cons (pv 0) pa_nil)) pa_nil))) (blkOk_by (own := [("_law_one", 1)]) (N := ["_law_told", "_law_one"]) (sc := defScope s_law_sorted) (by decide +kernel)) (fun _ _ _ _ _ => (pg_name (i := 1) sc_law_sorted.nd rfl (by first | exact Or.inl rfl | exact Or.inr rfl))) (fun _ _ _ _ _ => pts_nil) (fun _ _ _ _ _ => (pe_tup (pa_cons (pv 1) (pa_cons (pe_dget (hu_of hr) (pv 0) (pv 1) (fun _ _ => rfl)) pa_nil))))))), ?_⟩
  refine ⟨_, rfl, d, dT D, rfl, .inl hd, fun kp nkp => ?_⟩
  rw [keys_V]
  refine ⟨kp, _, (D.map Prod.fst).map PyData.str, rfl, SqL.of upd_same, dp_strs _, strs_alike _, strs_sortable _, fun e he => ?_, by rw [List.length_map, List.length_map]; omega, fun zs p hz np => ?_⟩
  · obtain ⟨x, _, rfl⟩ := List.mem_map.mp he
    show (0 : Nat) ≤ 8
    decide
  rw [strs_map] at hz
  have ez := sorted_strs hz
  subst ez
  have hS1 : Same H (upd (upd H kp (.lst ((D.map Prod.fst).map V.str))) p (.lst (((D.map Prod.fst).mergeSort leS).map V.str))) := fun b o e => same_new np _ _ _ (same_new nkp _ _ _ e)
  have hp1 : (upd (upd H kp (.lst ((D.map Prod.fst).map V.str))) p (.lst (((D.map Prod.fst).mergeSort leS).map V.str))) p = some (.lst (((D.map Prod.fst).mergeSort leS).map V.str)) := upd_same
  generalize upd (upd H kp (.lst ((D.map Prod.fst).map V.str))) p (.lst (((D.map Prod.fst).mergeSort leS).map V.str)) = H1 at hS1 hp1
  have hml : ((D.map Prod.fst).mergeSort leS).length = D.length := by rw [(List.mergeSort_perm _ _).length_eq, List.length_map]
  refine ⟨p, rfl, ⟨_, SqL.of hp1⟩, fun R nR => ?_⟩
  refine lc_list (K := K) (a := p) (xs := ((D.map Prod.fst).mergeSort leS).map V.str) (fun i H' => Same H1 H' ∧ RdAt H' R ((inSeq D).take i)) ⟨same_new nR _, RdAt.nil⟩ (fun i H' _ ⟨hS', _⟩ => SqL.of (hS' _ _ hp1)) ?_ ?_
  · rintro i v H2 hv ⟨hS2, us, hR, hU⟩
    obtain ⟨x, hx, rfl⟩ := str_at hv
    have hxm : x ∈ D.map Prod.fst := (List.mergeSort_perm _ _).mem_iff.mp (List.mem_of_getElem? hx)
    have hil : i < D.length := by rw [← hml]; exact (List.getElem?_eq_some_iff.mp hx).1
    have hd2 := hS2 _ _ (hS1 _ _ hd)
    have hg : DGet H2 d (.str x) (some (.int (getT D x))) := by
      rw [← dT_some hxm]
      exact DGet.k (k := Sum.inr x) hd2
    refine ⟨rfl, _, rfl, _, rfl, _, rfl, d, _, rfl, hg, (by show 2 ≤ sizeLine; decide), fun tp ntp => ?_⟩
    have hRd : RdAt H2 R ((inSeq D).take i) := ⟨us, hR, hU⟩
    obtain ⟨xs, g1, g2, g3⟩ := hRd.push (x := x) (n := getT D x) ntp
    refine ⟨_, g1, ?_, same_upd (fun b o e => same_new ntp _ _ _ (hS2 _ _ e)) nR, ?_⟩
    · rw [g2, List.length_take]
      exact Nat.lt_of_le_of_lt (by omega : _ ≤ 90000) (by decide)
    · rw [show (inSeq D).take (i + 1) = (inSeq D).take i ++ [(x, getT D x)] from take_map hx]
      exact g3
  · rintro H2 ⟨hS2, hR⟩
    rw [List.length_map] at hR
    rw [show (inSeq D).take ((D.map Prod.fst).mergeSort leS).length = inSeq D from List.take_of_length_le (by unfold inSeq; rw [List.length_map]; exact Nat.le_refl _), ← told_inSeq hn] at hR
    exact q H2 R (hS1.free nR) (hS1.trans hS2) hR
end
end My
namespace My
open PySem L2 PyProof.Rows
theorem pc_len (x : Str) (s p : Nat) : (pc x s p).length = min (p + s) x.length - min p x.length := by
  have e : (p : Int) + (s : Int) = ((p + s : Nat) : Int) := by omega
  show (cutS x (some (p : Int)) (some ((p : Int) + (s : Int)))).length = _
  rw [e]
  show (((x.cps.toList.drop (HT.sIx x.length 0 (some (p : Int)))).take (HT.sIx x.length x.length (some ((p + s : Nat) : Int)) - HT.sIx x.length 0 (some (p : Int)))).toArray).size = _
  rw [HT.sIx_nat, HT.sIx_nat, List.size_toArray, List.length_take, List.length_drop, Array.length_toList]
  show min _ (x.length - _) = _
  omega
theorem pc_is (x : Str) (s p : Nat) (hp : p < x.length) : (pc x s p).length = s ↔ p + s ≤ x.length ∨ (s = x.length - p) := by
  rw [pc_len]
  omega
section
variable {P : Program} {w : World} {K : PySem.W.Frag} {mg : Str → Option Value} {base : Heap} {C : Addr}
def sp_law_often (_ : PySem.W.Frag) (_ : Addr) : Sp := fun vs H Q _ => ∃ s d D, vs = [.int ((s : Nat) : Int), .ref d] ∧ H d = some (.dK (dT D)) ∧ (D.map Prod.fst).Nodup ∧ D.length ≤ 200 ∧ (∀ e ∈ D, e.1.length ≤ 400) ∧ 1 ≤ s ∧ s ≤ 8 ∧ ∀ H' f, H f = none → Same H H' → H' f = some (.dK (dT (sumT [] (pcsT s (told D))))) → Q (.ref f) H'
theorem ok_law_often (D : Def K mg "_law_often" s_law_often ["_law_size", "_law_told"]) (B : Bs mg) (Glb : Glo mg) (WK : WebK K mg C) :
    Good P w K mg base "_law_often" s_law_often ["_law_size", "_law_told"] 1 (sp_law_often K C) := by
  refine D.good fun f fd F => ?_
  refine F.ok sc_law_often (fun vs H Q E h => ?_) (fun cdv A outer s H vs Q E hr h => ?_)
  · obtain ⟨s, d, D, rfl, hd, hn, hlen, hok, hs1, hs2, q⟩ := h
    first | rfl | (rcases h with ⟨_, _, rfl, _⟩ | ⟨_, rfl, _⟩ <;> rfl)
  obtain ⟨s, d, D, rfl, hd, hn, hlen, hok, hs1, hs2, q⟩ := h
  refine ⟨_, (pss_cons (ps_set (i := 2) sc_law_often.nd rfl (by first | exact Or.inl rfl | exact Or.inr rfl) pe_dnewK)
  (pss_cons (ps_for PassesOwn.never rfl (pi_list (pe_callB (cr_sortD hr.units) (by rfl) B.sorted (by decide +kernel) (pa_cons (pe_callTy (call_listD rfl) (by rfl) B.list (by decide +kernel) (pa_cons (pv 1) pa_nil)) pa_nil))) (pg_name (i := 3) sc_law_often.nd rfl (by first | exact Or.inl rfl | exact Or.inr rfl))
    (pss_one (ps_for PassesOwn.never rfl (pi_range1 (by rfl) B.range (pa_cons (pe_callB call_len_str (by rfl) B.len (by decide +kernel) (pa_cons (pv 3) pa_nil)) pa_nil)) (pg_name (i := 4) sc_law_often.nd rfl (by first | exact Or.inl rfl | exact Or.inr rfl))
    (pss_cons (ps_set (i := 5) sc_law_often.nd rfl (by first | exact Or.inl rfl | exact Or.inr rfl) (pe_slice sl_str (pv 3) (po_some (pv 4)) (po_some (pe_op op_add (pv 4) (pv 0)))))
  (pss_one (ps_if (pt_cmpR op_eq (pe_callB call_len_str (by rfl) B.len (by decide +kernel) (pa_cons (pv 5) pa_nil)) (pv 0) (nomark _))
    (pss_one (ps_dput (hu_of hr) (pv 2) (pv 5) (pe_op op_add (pe_dget2 (hu_of hr) (pv 2) (pv 5) pe_int ⟨rfl, rfl, rfl, rfl⟩) (pe_dget (hu_of hr) (pv 1) (pv 3) (fun _ _ => rfl))) rfl)) pss_nil))))))
  (pss_one (ps_ret (pv 2))))), ?_⟩
  intro f nf
  have ndf : d ≠ f := ne_of_none hd nf
  refine ⟨_, rfl, d, dT D, rfl, .inl (same_new nf _ _ _ hd), fun kp nkp => ?_⟩
  rw [keys_V]
  refine ⟨kp, _, (D.map Prod.fst).map PyData.str, rfl, SqL.of upd_same, dp_strs _, strs_alike _, strs_sortable _, fun e he => ?_, by rw [List.length_map, List.length_map]; omega, fun zs p hz np => ?_⟩
  · obtain ⟨x, _, rfl⟩ := List.mem_map.mp he
    show (0 : Nat) ≤ 8
    decide
  rw [strs_map] at hz
  have ez := sorted_strs hz
  subst ez
  have nkf : kp ≠ f := fun z => by rw [z, upd_same] at nkp; cases nkp
  have hS0 : Same (upd H f (.dK [])) (upd (upd (upd H f (.dK [])) kp (.lst ((D.map Prod.fst).map V.str))) p (.lst (((D.map Prod.fst).mergeSort leS).map V.str))) := fun b o e => same_new np _ _ _ (same_new nkp _ _ _ e)
  have hp1 : (upd (upd (upd H f (.dK [])) kp (.lst ((D.map Prod.fst).map V.str))) p (.lst (((D.map Prod.fst).mergeSort leS).map V.str))) p = some (.lst (((D.map Prod.fst).mergeSort leS).map V.str)) := upd_same
  generalize upd (upd (upd H f (.dK [])) kp (.lst ((D.map Prod.fst).map V.str))) p (.lst (((D.map Prod.fst).mergeSort leS).map V.str)) = H1 at hS0 hp1
  have hf1 : H1 f = some (.dK (dT [])) := hS0 _ _ upd_same
  have hS1 : Same H H1 := fun b o e => hS0 _ _ (same_new nf _ _ _ e)
  have npf : p ≠ f := fun z => by rw [z, hf1] at hp1; cases hp1
  have hml : ((D.map Prod.fst).mergeSort leS).length = D.length := by rw [(List.mergeSort_perm _ _).length_eq, List.length_map]
  have keep : ∀ {H' : Hp}, Same H H' → ∀ D', Same H (upd H' f (.dK D')) := fun h D' b o e => by
    rw [upd_ne (ne_of_none e nf)]
    exact h _ _ e
  have cnt : ∀ i, (sumT [] (pcsT s ((inSeq D).take i))).length ≤ 80200 := fun i => by
    have h1 := pcsT_len s (L := (inSeq D).take i) fun e he => by
      have := (mem_inSeq hn e).mp (List.mem_of_mem_take he)
      exact hok e this
    have h2 := sumT_len (pcsT s ((inSeq D).take i)) []
    have h3 : ((inSeq D).take i).length ≤ 200 := by
      rw [List.length_take]
      unfold inSeq
      rw [List.length_map, hml]
      omega
    have h4 : ((inSeq D).take i).length * 401 ≤ 200 * 401 := Nat.mul_le_mul h3 (Nat.le_refl _)
    simp only [List.length_nil] at h2
    omega
  refine ⟨p, rfl, ⟨_, SqL.of hp1⟩, ?_⟩
  refine for_list (K := K) (a := p) (xs := ((D.map Prod.fst).mergeSort leS).map V.str) (fun i σ H' => ∃ v3 v4 v5 : Option V, σ = [some (.int (s : Int)), some (.ref d), some (.ref f), v3, v4, v5] ∧ Same H H' ∧ H' p = some (.lst (((D.map Prod.fst).mergeSort leS).map V.str)) ∧ H' f = some (.dK (dT (sumT [] (pcsT s ((inSeq D).take i)))))) ⟨none, none, none, rfl, hS1, hp1, hf1⟩ (fun i σ H' _ ⟨_, _, _, _, _, hp', _⟩ => SqL.of hp') ?_ ?_
  · rintro i v σ H2 hv ⟨v3, v4, v5, rfl, hS2, hp2, hf2⟩
    obtain ⟨x, hx, rfl⟩ := str_at hv
    have hxm : x ∈ D.map Prod.fst := (List.mergeSort_perm _ _).mem_iff.mp (List.mem_of_getElem? hx)
    have hxl : x.length ≤ 400 := by
      obtain ⟨e, he, rfl⟩ := List.mem_map.mp hxm
      exact hok e he
    refine ⟨_, rfl, _, rfl, line400 hxl, _, rfl, by omega, by omega, ?_⟩
    refine for_range (lo := 0) (n := x.length) (fun j σ H' => ∃ v4 v5 : Option V, σ = [some (.int (s : Int)), some (.ref d), some (.ref f), some (.str x), v4, v5] ∧ Same H H' ∧ H' p = some (.lst (((D.map Prod.fst).mergeSort leS).map V.str)) ∧ H' f = some (.dK (dT (sumT (sumT [] (pcsT s ((inSeq D).take i))) ((pcsN x s (min j (x.length + 1 - s))).map fun z => (z, getT D x)))))) ?_ ?_ ?_
    · exact ⟨v4, v5, rfl, hS2, hp2, by rw [Nat.zero_min]; exact hf2⟩
    · rintro j σ H3 hj ⟨w4, w5, rfl, hS3, hp3, hf3⟩
      rw [Int.zero_add]
      refine ⟨_, rfl, _, rfl, _, rfl, _, rfl, _, rfl, _, _, rfl, rfl, _, rfl, _, rfl, line400 hxl, ?_⟩
      have hpl : (pc x s j).length ≤ 400 := Nat.le_trans (cutS_length _ _ _) hxl
      refine ⟨_, rfl, _, rfl, line400 hpl, _, rfl, rfl, _, rfl, ?_⟩
      have hpc := pc_len x s j
      by_cases c : j < x.length + 1 - s
      · have h2 : (pc x s j).length = s := by rw [pc_len]; omega
        refine iteYes (int_eq.mpr (congrArg (fun n : Nat => (n : Int)) h2)) ?_
        have hd3 : H3 d = some (.dK (dT D)) := hS3 _ _ hd
        have hg : DGet H3 d (.str x) (some (.int (getT D x))) := by
          rw [← dT_some hxm]
          exact DGet.k (k := Sum.inr x) hd3
        have hlt : (dT (sumT (sumT [] (pcsT s ((inSeq D).take i))) ((pcsN x s (min j (x.length + 1 - s))).map fun z => (z, getT D x)))).length < sizeLine := by
          have h1 := sumT_len ((pcsN x s (min j (x.length + 1 - s))).map fun z => (z, getT D x)) (sumT [] (pcsT s ((inSeq D).take i)))
          have h2 := cnt i
          rw [List.length_map, pcsN_len] at h1
          rw [List.length_map]
          exact Nat.lt_of_le_of_lt (by omega : _ ≤ 90000) (by decide)
        refine ⟨_, rfl, f, rfl, .inl ⟨_, .inl hf3⟩, _, rfl, _, DGet.k (k := Sum.inr (pc x s j)) hf3, _, rfl, _, rfl, d, _, rfl, hg, ?_⟩
        rw [dT_getD]
        refine ⟨_, _, rfl, rfl, _, rfl, _, rfl, f, _, rfl, DPut.k (k := Sum.inr (pc x s j)) hf3 hlt, ?_⟩
        rw [dT_put (sumT_nodup _ (sumT_nodup _ (by simp)))]
        refine ⟨_, _, rfl, keep hS3 _, by rw [upd_ne npf]; exact hp3, ?_⟩
        rw [upd_same, Nat.min_eq_left (Nat.le_of_lt c), Nat.min_eq_left (Nat.succ_le_of_lt c), show pcsN x s (j + 1) = pcsN x s j ++ [pc x s j] from rfl, List.map_append]
        show _ = some (HO.dK (dT (sumT (sumT [] (pcsT s ((inSeq D).take i))) (((pcsN x s j).map fun z => (z, getT D x)) ++ [(pc x s j, getT D x)]))))
        rw [sumT_snoc]
      · have h2 : ¬ (pc x s j).length = s := by rw [pc_len]; omega
        refine iteNo (fun z => h2 (Int.ofNat.inj (int_eq.mp z))) ⟨_, _, rfl, hS3, hp3, ?_⟩
        rw [Nat.min_eq_right (by omega)]
        rw [Nat.min_eq_right (by omega)] at hf3
        exact hf3
    · rintro σ H3 ⟨w4, w5, rfl, hS3, hp3, hf3⟩
      refine ⟨_, _, _, rfl, hS3, hp3, ?_⟩
      rw [Nat.min_eq_right (by omega)] at hf3
      rw [hf3, show (inSeq D).take (i + 1) = (inSeq D).take i ++ [(x, getT D x)] from take_map hx, pcsT_snoc, sumT_app]
  · rintro σ H2 ⟨v3, v4, v5, rfl, hS2, hp2, hf2⟩
    rw [List.length_map, show (inSeq D).take ((D.map Prod.fst).mergeSort leS).length = inSeq D from List.take_of_length_le (by unfold inSeq; rw [List.length_map]; exact Nat.le_refl _), ← told_inSeq hn] at hf2
    exact ⟨_, rfl, q H2 f nf hS2 hf2⟩
end
end My
namespace My
open PySem L2 PyProof.Rows
/-! ### the law's dicts -/
structure OkD (D : List (Str × Int)) (n v : Nat) : Prop where
  nd : (D.map Prod.fst).Nodup
  len : D.length ≤ n
  ok : ∀ e ∈ D, OkL e.1 ∧ 1 ≤ e.2 ∧ e.2 ≤ (v : Int)
theorem OkD.mono {D : List (Str × Int)} {n v m u : Nat} (h : OkD D n v) (h1 : n ≤ m) (h2 : v ≤ u) : OkD D m u :=
  ⟨h.nd, Nat.le_trans h.len h1, fun e he => ⟨(h.ok e he).1, (h.ok e he).2.1, by have := (h.ok e he).2.2; omega⟩⟩
theorem told_nd {D : List (Str × Int)} (h : (D.map Prod.fst).Nodup) : ((told D).map Prod.fst).Nodup := ((List.mergeSort_perm D _).map Prod.fst).nodup_iff.mpr h
theorem OkD.told {D : List (Str × Int)} {n v : Nat} (h : OkD D n v) : OkD (told D) n v :=
  ⟨told_nd h.nd, by rw [told_len]; exact h.len, fun e he => h.ok e (told_mem.mp he)⟩
theorem told_keys {D : List (Str × Int)} {x : Str} : x ∈ (told D).map Prod.fst ↔ x ∈ D.map Prod.fst := ((List.mergeSort_perm D _).map Prod.fst).mem_iff
theorem getT_none {D : List (Str × Int)} {x : Str} (h : x ∉ D.map Prod.fst) : getT D x = 0 := by
  unfold getT
  have : D.find? (fun e => decide (e.1 = x)) = none := List.find?_eq_none.mpr fun f hf => by
    simp only [decide_eq_true_eq]
    intro z
    exact h (List.mem_map.mpr ⟨f, hf, z⟩)
  rw [this]
  rfl
theorem getT_same {D E : List (Str × Int)} (hn : (D.map Prod.fst).Nodup) (kn : (E.map Prod.fst).Nodup) (h : ∀ e, e ∈ D ↔ e ∈ E) (x : Str) : getT D x = getT E x := by
  by_cases c : x ∈ D.map Prod.fst
  · obtain ⟨e, he, rfl⟩ := List.mem_map.mp c
    rw [getT_mem hn he, getT_mem kn ((h e).mp he)]
  · have c2 : x ∉ E.map Prod.fst := fun z => by
      obtain ⟨e, he, rfl⟩ := List.mem_map.mp z
      exact c (List.mem_map.mpr ⟨e, (h e).mpr he, rfl⟩)
    rw [getT_none c, getT_none c2]
theorem getT_told {D : List (Str × Int)} (hn : (D.map Prod.fst).Nodup) (x : Str) : getT (told D) x = getT D x := getT_same (told_nd hn) hn (fun _ => told_mem) x
theorem sumT_new : ∀ (L acc : List (Str × Int)), ((acc ++ L).map Prod.fst).Nodup → sumT acc L = acc ++ L
  | [], acc, _ => by rw [List.append_nil]; rfl
  | e :: r, acc, hn => by
    have hx : e.1 ∉ acc.map Prod.fst := fun z => by
      rw [List.map_append, List.nodup_append] at hn
      exact hn.2.2 e.1 z e.1 (by simp) rfl
    have ha : ∀ A : List (Str × Int), e.1 ∉ A.map Prod.fst → addT A e.1 e.2 = A ++ [e] := fun A => by
      induction A with
      | nil => intro _; rfl
      | cons f t ih =>
        intro h
        have h1 : ¬ f.1 = e.1 := fun z => h (by simp [z])
        unfold addT
        rw [if_neg h1, ih fun z => h (by simp at z ⊢; exact .inr z)]
        rfl
    show sumT (addT acc e.1 e.2) r = _
    rw [ha acc hx, sumT_new r (acc ++ [e]) (by rw [List.append_assoc]; exact hn), List.append_assoc]
    rfl
theorem sumT_own {D : List (Str × Int)} (h : (D.map Prod.fst).Nodup) : sumT [] D = D := by
  rw [sumT_new D [] h]
  rfl
theorem told_told {D : List (Str × Int)} (h : (D.map Prod.fst).Nodup) : told (told D) = told D := told_same (told_nd h) h fun _ => told_mem
theorem told_add {D : List (Str × Int)} (h : (D.map Prod.fst).Nodup) (x : Str) (n : Int) : told (sumT [] (told D ++ [(x, n)])) = told (addT D x n) := by
  rw [sumT_snoc, sumT_own (told_nd h)]
  refine told_get (addT_nodup (told_nd h)) (addT_nodup h) (fun y => ?_) fun y => ?_
  · rw [addT_mem, addT_mem, told_keys]
  · rw [addT_get, addT_get, getT_told h, getT_told h]
theorem addT_okv {x : Str} {n : Int} : ∀ {D : List (Str × Int)} {P : Str × Int → Prop}, (∀ e ∈ D, P e) → (∀ m, (x, m) ∈ D → P (x, m + n)) → P (x, n) → ∀ e ∈ addT D x n, P e
  | [], P, _, _, h => fun e he => by
    unfold addT at he
    rw [List.mem_singleton.mp he]
    exact h
  | f :: r, P, h0, h1, h2 => fun e he => by
    unfold addT at he
    split at he
    · rename_i c
      rcases List.mem_cons.mp he with z | z
      · rw [z, c]
        exact h1 f.2 (by rw [← c]; exact List.mem_cons_self)
      · exact h0 e (List.mem_cons_of_mem _ z)
    · rcases List.mem_cons.mp he with z | z
      · rw [z]
        exact h0 f List.mem_cons_self
      · exact addT_okv (fun e he => h0 e (List.mem_cons_of_mem _ he)) (fun m hm => h1 m (List.mem_cons_of_mem _ hm)) h2 e z
theorem OkD.add {D : List (Str × Int)} {n v m : Nat} {x : Str} {k : Int} (h : OkD D n v) (hx : OkL x) (h1 : 1 ≤ k) (h2 : k ≤ (m : Int)) : OkD (addT D x k) (n + 1) (v + m) := by
  refine ⟨addT_nodup h.nd, Nat.le_trans (addT_len _ _ _) (Nat.succ_le_succ h.len), addT_okv (fun e he => ?_) (fun j hj => ?_) ⟨hx, h1, by show k ≤ ((v + m : Nat) : Int); omega⟩⟩
  · obtain ⟨a, b, c⟩ := h.ok e he
    exact ⟨a, b, by omega⟩
  · obtain ⟨a, b, c⟩ := h.ok _ hj
    exact ⟨a, by show 1 ≤ j + k; have : 1 ≤ j := b; omega, by show j + k ≤ ((v + m : Nat) : Int); have : j ≤ (v : Int) := c; omega⟩
/-- no letter z is drawn -/
theorem no_zzzz {D : List (Str × Int)} {n v : Nat} (h : OkD D n v) : Str.ofString "zzzz" ∉ D.map Prod.fst := fun z => by
  obtain ⟨e, he, hx⟩ := List.mem_map.mp z
  have := (h.ok e he).1.few 122 (by rw [hx]; decide +kernel)
  omega
theorem zzzz_ok : OkT (Str.ofString "zzzz") := ⟨by decide +kernel, by decide +kernel⟩
/-! ### pieces are texts -/
theorem okT_pc {x : Str} (h : OkT x) (s p : Nat) : OkT (pc x s p) := by
  refine ⟨Nat.le_trans (cutS_length _ _ _) h.len, fun c hc => h.let_ c ?_⟩
  have : c ∈ ((x.cps.toList.drop (HT.sIx x.length 0 (some (p : Int)))).take (HT.sIx x.length x.length (some ((p : Int) + (s : Int))) - HT.sIx x.length 0 (some (p : Int)))) := by
    have e : (pc x s p).cps.toList = ((x.cps.toList.drop (HT.sIx x.length 0 (some (p : Int)))).take (HT.sIx x.length x.length (some ((p : Int) + (s : Int))) - HT.sIx x.length 0 (some (p : Int)))) := by
      show (List.toArray _).toList = _
      rw [List.toList_toArray]
    rw [← e]
    exact hc
  exact List.mem_of_mem_drop (List.mem_of_mem_take this)
theorem okT_pcsN {x : Str} (h : OkT x) (s : Nat) : ∀ n, ∀ y ∈ pcsN x s n, OkT y
  | 0 => fun y hy => by cases hy
  | n + 1 => fun y hy => by
    unfold pcsN at hy
    rcases List.mem_append.mp hy with z | z
    · exact okT_pcsN h s n y z
    · rw [List.mem_singleton.mp z]
      exact okT_pc h s n
theorem okT_pcsT {L : List (Str × Int)} (h : ∀ e ∈ L, OkT e.1) (s : Nat) : ∀ e ∈ pcsT s L, OkT e.1 := fun e he => by
  unfold pcsT at he
  obtain ⟨f, hf, hm⟩ := List.mem_flatMap.mp he
  obtain ⟨y, hy, rfl⟩ := List.mem_map.mp hm
  exact okT_pcsN (h f hf) s _ y hy
theorem sumT_keys : ∀ (L D : List (Str × Int)) (x : Str), x ∈ (sumT D L).map Prod.fst ↔ x ∈ D.map Prod.fst ∨ x ∈ L.map Prod.fst
  | [], D, x => by simp [sumT]
  | e :: r, D, x => by
    show x ∈ (sumT (addT D e.1 e.2) r).map Prod.fst ↔ _
    rw [sumT_keys r, addT_mem, List.map_cons, List.mem_cons, or_assoc]
theorem okT_sumT {L : List (Str × Int)} (h : ∀ e ∈ L, OkT e.1) : ∀ e ∈ sumT [] L, OkT e.1 := fun e he => by
  rcases (sumT_keys L [] e.1).mp (List.mem_map.mpr ⟨e, he, rfl⟩) with z | z
  · cases z
  · obtain ⟨f, hf, q⟩ := List.mem_map.mp z
    rw [← q]
    exact h f hf
/-! ### lists of texts compared -/
theorem layAll_st : ∀ {L : List Str}, (∀ e ∈ L, OkT e) → PyData.canLayAll0 (L.map PyData.str) = true
  | [], _ => rfl
  | e :: r, h => by
    show (PyData.canLay0 (.str e) && PyData.canLayAll0 (r.map PyData.str)) = true
    rw [layAll_st fun f hf => h f (List.mem_cons_of_mem _ hf)]
    have hx := okT_str (h e List.mem_cons_self)
    simp only [PyData.canLay0, Bool.and_true]
    exact hx
theorem depthAll_st : ∀ L : List Str, PyData.depthAll (L.map PyData.str) = 0
  | [] => rfl
  | e :: r => by
    show max (PyData.depth (.str e)) (PyData.depthAll (r.map PyData.str)) = 0
    rw [depthAll_st r]
    rfl
theorem lay_st {L : List Str} (h : ∀ e ∈ L, OkT e) : PyData.canLay0 (.list (L.map PyData.str)) = true := by
  unfold PyData.canLay0
  exact layAll_st h
theorem shaped_st {L : List Str} (h : ∀ e ∈ L, OkT e) : SeqAt.shaped (.list (L.map PyData.str)) = true := by
  unfold SeqAt.shaped
  have h2 : PyData.depth (.list (L.map PyData.str)) = 1 := by
    unfold PyData.depth
    rw [depthAll_st]
  rw [lay_st h, h2]
  rfl
theorem dp_st {K : PySem.W.Frag} {H : Hp} {p : Addr} {L : List Str} (h : H p = some (.lst (L.map V.str))) : Dp K H (.ref p) (.list (L.map PyData.str)) := .lst (SqL.of h) (dp_strs L)
theorem eqv_st {L : List Str} (h : ∀ e ∈ L, OkT e) : PyData.eqv (.list (L.map PyData.str)) (.list (L.map PyData.str)) = true := SeqAt.eqv_refl _ (lay_st h)
/-! ### dicts compared -/
def hitsT (E : List (Str × Int)) : List (Str × Int) → Bool
  | [] => true
  | e :: r => if e.1 ∈ E.map Prod.fst then (e.2 == getT E e.1) && hitsT E r else false
def eqT (D E : List (Str × Int)) : Bool := D.length == E.length && hitsT E D
theorem hitsT_iff {E : List (Str × Int)} (hn : (E.map Prod.fst).Nodup) : ∀ D : List (Str × Int), hitsT E D = true ↔ ∀ e ∈ D, e ∈ E
  | [] => by simp [hitsT]
  | e :: r => by
    unfold hitsT
    by_cases c : e.1 ∈ E.map Prod.fst
    · rw [if_pos c, Bool.and_eq_true, hitsT_iff hn r, List.forall_mem_cons, mem_get hn e]
      constructor
      · rintro ⟨a, b⟩
        exact ⟨⟨c, (beq_iff_eq.mp a).symm⟩, b⟩
      · rintro ⟨⟨_, a⟩, b⟩
        exact ⟨beq_iff_eq.mpr a.symm, b⟩
    · rw [if_neg c, List.forall_mem_cons]
      constructor
      · intro z; cases z
      · rintro ⟨a, _⟩
        exact absurd (List.mem_map.mpr ⟨e, a, rfl⟩) c
theorem nodup_of {D : List (Str × Int)} (h : (D.map Prod.fst).Nodup) : D.Nodup := List.Pairwise.of_map Prod.fst (fun a b hab z => hab (by rw [z])) h
theorem len_sub {α : Type} [DecidableEq α] : ∀ (D E : List α), D.Nodup → (∀ e ∈ D, e ∈ E) → D.length ≤ E.length
  | [], _, _, _ => Nat.zero_le _
  | d :: D, E, hn, h => by
    have hn' := List.nodup_cons.mp hn
    have hd := h d List.mem_cons_self
    have ih := len_sub D (E.erase d) hn'.2 fun e he => (List.mem_erase_of_ne (fun z => hn'.1 (by rw [← z]; exact he))).mpr (h e (List.mem_cons_of_mem _ he))
    have hl := List.length_erase_of_mem hd
    have h0 : 0 < E.length := List.length_pos_of_mem hd
    rw [List.length_cons]
    omega
theorem sub_all {α : Type} [DecidableEq α] {D E : List α} (hn : D.Nodup) (h : ∀ e ∈ D, e ∈ E) (hl : E.length ≤ D.length) : ∀ e ∈ E, e ∈ D := fun e he => by
  by_cases c : e ∈ D
  · exact c
  · have := len_sub (e :: D) E (List.nodup_cons.mpr ⟨c, hn⟩) fun f hf => by
      rcases List.mem_cons.mp hf with z | z
      · rw [z]; exact he
      · exact h f z
    rw [List.length_cons] at this
    omega
/-- the dicts are equal exactly if they are told alike -/
theorem eqT_told {D E : List (Str × Int)} (hn : (D.map Prod.fst).Nodup) (kn : (E.map Prod.fst).Nodup) : eqT D E = decide (told D = told E) := by
  have key : eqT D E = true ↔ told D = told E := by
    unfold eqT
    rw [Bool.and_eq_true, hitsT_iff kn]
    constructor
    · rintro ⟨a, b⟩
      refine told_same hn kn fun e => ⟨b e, fun he => ?_⟩
      exact sub_all (nodup_of hn) b (by rw [beq_iff_eq.mp a]; exact Nat.le_refl _) e he
    · intro h
      have hm : ∀ e, e ∈ D ↔ e ∈ E := fun e => by rw [← told_mem, h, told_mem]
      refine ⟨beq_iff_eq.mpr ?_, fun e he => (hm e).mp he⟩
      rw [← told_len D, h, told_len]
  by_cases c : told D = told E
  · rw [key.mpr c, decide_eq_true c]
  · rw [decide_eq_false c]
    cases z : eqT D E with
    | false => rfl
    | true => exact absurd (key.mp z) c
end My
namespace My
open PySem L2 PyProof.Rows
theorem dT_none {x : Str} {D : List (Str × Int)} (h : x ∉ D.map Prod.fst) : valV (dT D) (Sum.inr x : Key) = none := by
  rw [dT_val]
  have : D.find? (fun e => decide (e.1 = x)) = none := List.find?_eq_none.mpr fun f hf => by
    simp only [decide_eq_true_eq]
    intro z
    exact h (List.mem_map.mpr ⟨f, hf, z⟩)
  rw [this]
  rfl
theorem hits_T {A : Around} {s : Shared} {E : List (Str × Int)} {vb : List (Key × Value)} (rb : KV (dT E) vb) : ∀ {D : List (Str × Int)} {va : List (Key × Value)}, KV (dT D) va → PySem.W.KeqHits A s vb va (hitsT E D)
  | [], _, .nil => .nil
  | e :: r, _, @Paired.cons _ _ _ _ q _ qs h t => by
    obtain ⟨k, v⟩ := q
    have h1 : (Sum.inr e.1 : Key) = k := h.1
    obtain ⟨tk, hv⟩ : ∃ tk, v = Value.int e.2 tk := h.2
    subst h1
    subst hv
    have ih := hits_T (A := A) (s := s) rb (D := r) t
    have rr := rb.val (Sum.inr e.1 : Key)
    unfold hitsT
    by_cases c : e.1 ∈ E.map Prod.fst
    · rw [if_pos c]
      rw [dT_some c] at rr
      obtain ⟨y, hy, ry⟩ := rr.some_of
      obtain ⟨t2, rfl⟩ : ∃ t2, y = Value.int (getT E e.1) t2 := ry
      exact .hit hy (SeqAt.EqAt.int_int e.2 tk (getT E e.1) t2) ih
    · rw [if_neg c]
      rw [dT_none c] at rr
      have hn : PySem.valueAt vb (Sum.inr e.1 : Key) = none := by
        cases z : PySem.valueAt vb (Sum.inr e.1 : Key) with
        | none => rfl
        | some u => rw [z] at rr; exact rr.elim
      exact .miss hn
section
variable {X : Cx}
theorem op_eqT (hu : X.A.units < cLine) : OpR X (compareOp .Eq) (fun x y H Q => ∃ a b D E, x = .ref a ∧ y = .ref b ∧ H a = some (.dK (dT D)) ∧ H b = some (.dK (dT E)) ∧ Q (.bl (eqT D E)) H) := by
  intro pins s σ H x y v u Q I rx ry h
  obtain ⟨a, b, D, E, rfl, rfl, ea, eb, q⟩ := h
  obtain rfl : v = Value.ref a := rx
  obtain rfl : u = Value.ref b := ry
  obtain ⟨_, ya, va, ra, da⟩ := (show ObjOk X.prog X.w H s.heap a (.dK (dT D)) from I.hok a _ ea)
  obtain ⟨_, yb, vb, rb, db⟩ := (show ObjOk X.prog X.w H s.heap b (.dK (dT E)) from I.hok b _ eb)
  have hla : va.length = D.length := by rw [← ra.length, List.length_map]
  have hlb : vb.length = E.length := by rw [← rb.length, List.length_map]
  refine PySem.W.keq_eq (knd := mixKind X.prog X.w) (r := hitsT E D) ya yb da db hu (fun _ => hits_T rb ra) ?_
  rw [hla, hlb]
  exact fin_bl I q rfl
theorem op_neT (hu : X.A.units < cLine) : OpR X (compareOp .NotEq) (fun x y H Q => ∃ a b D E, x = .ref a ∧ y = .ref b ∧ H a = some (.dK (dT D)) ∧ H b = some (.dK (dT E)) ∧ Q (.bl (!(eqT D E))) H) := by
  intro pins s σ H x y v u Q I rx ry h
  obtain ⟨a, b, D, E, rfl, rfl, ea, eb, q⟩ := h
  obtain rfl : v = Value.ref a := rx
  obtain rfl : u = Value.ref b := ry
  obtain ⟨_, ya, va, ra, da⟩ := (show ObjOk X.prog X.w H s.heap a (.dK (dT D)) from I.hok a _ ea)
  obtain ⟨_, yb, vb, rb, db⟩ := (show ObjOk X.prog X.w H s.heap b (.dK (dT E)) from I.hok b _ eb)
  have hla : va.length = D.length := by rw [← ra.length, List.length_map]
  have hlb : vb.length = E.length := by rw [← rb.length, List.length_map]
  refine PySem.W.keq_ne (knd := mixKind X.prog X.w) (r := hitsT E D) ya yb da db hu (fun _ => hits_T rb ra) ?_
  rw [hla, hlb]
  exact fin_bl I q rfl
end
/-- over 20 -/
def over (D : List (Str × Int)) : List Int := (D.filter fun e => decide (e.2 > 20)).map fun _ => (1 : Int)
theorem over_snoc {D : List (Str × Int)} {i : Nat} {e : Str × Int} (h : D[i]? = some e) : over (D.take (i + 1)) = if e.2 > 20 then over (D.take i) ++ [1] else over (D.take i) := by
  unfold over
  rw [take_snoc h, List.filter_append]
  by_cases c : e.2 > 20
  · rw [if_pos c, List.filter_cons_of_pos (by simpa using c), List.map_append]
    rfl
  · rw [if_neg c, List.filter_cons_of_neg (by simpa using c), List.filter_nil, List.append_nil]
theorem over_len (D : List (Str × Int)) : (over D).length ≤ D.length := by
  unfold over
  rw [List.length_map]
  exact List.length_filter_le _ _
theorem over_nil {D : List (Str × Int)} : over D = [] ↔ ∀ e ∈ D, e.2 ≤ 20 := by
  unfold over
  rw [List.map_eq_nil_iff, List.filter_eq_nil_iff]
  constructor
  · intro h e he
    have := h e he
    simp at this
    exact this
  · intro h e he
    have := h e he
    simp
    exact this
section
variable {P : Program} {w : World} {K : PySem.W.Frag} {mg : Str → Option Value} {base : Heap} {C : Addr}
def sp_law_is_plain (_ : PySem.W.Frag) (_ : Addr) : Sp := fun vs H Q _ => ∃ d D, vs = [.ref d] ∧ H d = some (.dK (dT D)) ∧ (D.map Prod.fst).Nodup ∧ D.length ≤ 200 ∧ ∀ H', Same H H' → Q (.bl (decide (∀ e ∈ D, e.2 ≤ 20))) H'
theorem ok_law_is_plain (D : Def K mg "_law_is_plain" s_law_is_plain ["_law_told"]) (B : Bs mg) (Glb : Glo mg) (WK : WebK K mg C) :
    Good P w K mg base "_law_is_plain" s_law_is_plain ["_law_told"] 1 (sp_law_is_plain K C) := by
  refine D.good fun f fd F => ?_
  refine F.ok sc_law_is_plain (fun vs H Q E h => ?_) (fun cdv A outer s H vs Q E hr h => ?_)
  · obtain ⟨d, D, rfl, hd, hn, hlen, q⟩ := h
    first | rfl | (rcases h with ⟨_, _, rfl, _⟩ | ⟨_, rfl, _⟩ <;> rfl)
  obtain ⟨d, D, rfl, hd, hn, hlen, q⟩ := h
  refine ⟨_, (pss_one (ps_ret (pe_cmpR (op_eqD hr.units) (pe_lock (pe_lc (own := [("_law_text_here", 1)]) (g := gName 1) (by rfl) sc_law_is_plain.nd (pi_keys (pv 0)) (blkOk_by (own := [("_law_text_here", 1)]) (N := ["_law_told", "_law_text_here"]) (sc := defScope s_law_is_plain) (by decide +kernel)) (fun _ _ _ _ _ => (pg_name (i := 1) sc_law_is_plain.nd rfl (by first | exact Or.inl rfl | exact Or.inr rfl))) (fun _ _ _ _ _ => (pts_one (pt_cmpR op_gt (pe_dget (hu_of hr) (pv 0) (pv 1) (fun _ _ => rfl)) pe_int (nomark _)))) (fun _ _ _ _ _ => pe_int))) (pe_lst pa_nil) (nomark _)))), ?_⟩
  refine ⟨d, _, hd, True.intro, fun od => ?_⟩
  have hd0 : upd H d (.frz od (.dK (dT D))) d = some (.frz od (.dK (dT D))) := upd_same
  have keep0 : ∀ b o, H b = some o → b ≠ d → upd H d (.frz od (.dK (dT D))) b = some o := fun b o e n => by rw [upd_ne n]; exact e
  generalize upd H d (.frz od (.dK (dT D))) = H0 at hd0 keep0
  refine ⟨_, rfl, d, od, rfl, .inl ⟨_, hd0, fun R nR => ?_⟩⟩
  have ndR : d ≠ R := ne_of_none hd0 nR
  refine lc_it walk_keys (fun i H' => (∀ b o, H0 b = some o → H' b = some o) ∧ H' R = some (.lst (iz (over (D.take i))))) ⟨same_new nR _, upd_same⟩ (fun i H' _ ⟨h, _⟩ => h _ _ hd0) ?_ ?_
  · rintro i x H1 H2 hi ⟨hS, hR⟩ ⟨rfl, k, v, hk, rfl⟩
    rw [List.length_map] at hi
    have he : D[i]? = some D[i] := List.getElem?_eq_getElem hi
    rw [List.getElem?_map, he] at hk
    have hk := Option.some.inj hk
    obtain ⟨rfl, rfl⟩ : (Sum.inr D[i].1 : Key) = k ∧ V.int D[i].2 = v := ⟨congrArg Prod.fst hk, congrArg Prod.snd hk⟩
    have hg : DGet H2 d (.str D[i].1) (some (.int D[i].2)) := by
      refine .inl ⟨dT D, Sum.inr D[i].1, .inr ⟨od, hS _ _ hd0⟩, rfl, ?_⟩
      rw [dT_some (List.mem_map.mpr ⟨D[i], List.getElem_mem hi, rfl⟩), getT_mem hn (List.getElem_mem hi)]
    refine ⟨rfl, _, rfl, _, rfl, d, _, rfl, hg, _, _, rfl, rfl, _, rfl, ?_⟩
    rw [over_snoc he]
    by_cases c : D[i].2 > 20
    · refine iteYes c ⟨_, hR, ?_, same_upd hS nR, ?_⟩
      · rw [List.length_map]
        exact Nat.lt_of_le_of_lt (Nat.le_trans (over_len _) (Nat.le_trans (List.length_take_le _ _) (by omega : i ≤ 200))) (by decide)
      · rw [upd_same, if_pos c]
        show some (HO.lst (iz (over (List.take i D)) ++ [V.int 1])) = some (HO.lst ((over (List.take i D) ++ [1]).map V.int))
        rw [List.map_append]
        rfl
    · exact iteNo c ⟨hS, by rw [if_neg c]; exact hR⟩
  · rintro H1 ⟨hS, hR⟩
    rw [List.length_map, List.take_length] at hR
    refine ⟨hS _ _ hd0, Nat.zero_le _, fun el nel => ?_⟩
    have ndR' : R ≠ d := ndR.symm
    have nRe : R ≠ el := ne_of_none (show upd H1 d (.dK (dT D)) R = some _ by rw [upd_ne ndR']; exact hR) nel
    have hR2 : upd (upd H1 d (.dK (dT D))) el (.lst []) R = some (.lst (iz (over D))) := by rw [upd_ne nRe, upd_ne ndR']; exact hR
    have hE2 : upd (upd H1 d (.dK (dT D))) el (.lst []) el = some (.lst (iz [])) := upd_same
    refine ⟨_, _, dp_iz hR2, dp_iz hE2, shaped_iz _, shaped_iz _, ?_⟩
    rw [eqv_empty]
    have e1 : decide (over D = []) = decide (∀ e ∈ D, e.2 ≤ 20) := by
      by_cases c : over D = []
      · rw [decide_eq_true c, decide_eq_true (over_nil.mp c)]
      · rw [decide_eq_false c, decide_eq_false (fun z => c (over_nil.mpr z))]
    rw [e1]
    refine q _ fun b o e => ?_
    have nbe : b ≠ el := by
      refine ne_of_none (show upd H1 d (.dK (dT D)) b = some o from ?_) nel
      by_cases c : b = d
      · rw [c, upd_same]
        rw [c, hd] at e
        exact e
      · rw [upd_ne c]
        exact hS _ _ (keep0 _ _ e c)
    rw [upd_ne nbe]
    by_cases c : b = d
    · rw [c, upd_same]
      rw [c, hd] at e
      exact e
    · rw [upd_ne c]
      exact hS _ _ (keep0 _ _ e c)
end
end My
namespace My
open PySem L2 PyProof.Rows
theorem strs_depth {L : List Str} {e : PyData} (he : e ∈ L.map PyData.str) : e.depth ≤ 8 := by
  obtain ⟨x, _, rfl⟩ := List.mem_map.mp he
  show (0 : Nat) ≤ 8
  decide
theorem keys_len (D : List (Str × Int)) : ((D.map Prod.fst).mergeSort leS).length = D.length := by rw [(List.mergeSort_perm _ _).length_eq, List.length_map]
theorem inSeq_len (D : List (Str × Int)) : (inSeq D).length = D.length := by unfold inSeq; rw [List.length_map, keys_len]
theorem inSeq_at {D : List (Str × Int)} {i : Nat} {x : Str} (h : ((D.map Prod.fst).mergeSort leS)[i]? = some x) : (inSeq D)[i]? = some (x, getT D x) := by
  unfold inSeq
  rw [List.getElem?_map, h]
  rfl
theorem key_of {D : List (Str × Int)} {i : Nat} {x : Str} (h : ((D.map Prod.fst).mergeSort leS)[i]? = some x) : x ∈ D.map Prod.fst := (List.mergeSort_perm _ _).mem_iff.mp (List.mem_of_getElem? h)
/-- the solid ones of what is told -/
abbrev solidT (N : List (Str × Int)) (n : Nat) : List Str := (N.filter fun e => decide (e.2 ≥ (n : Int))).map Prod.fst
theorem least_at {i : Nat} {x : V} (h : ([V.int 1, V.int 2, V.int 5, V.int 21, V.int 60] : List V)[i]? = some x) : ∃ n : Nat, x = .int (n : Int) ∧ 1 ≤ n := by
  have : x ∈ [V.int 1, V.int 2, V.int 5, V.int 21, V.int 60] := List.mem_of_getElem? h
  simp only [List.mem_cons, List.not_mem_nil, or_false] at this
  rcases this with rfl | rfl | rfl | rfl | rfl
  · exact ⟨1, rfl, by decide⟩
  · exact ⟨2, rfl, by decide⟩
  · exact ⟨5, rfl, by decide⟩
  · exact ⟨21, rfl, by decide⟩
  · exact ⟨60, rfl, by decide⟩
section
variable {P : Program} {w : World} {K : PySem.W.Frag} {mg : Str → Option Value} {base : Heap} {C : Addr}
def sp_law_shows (_ : PySem.W.Frag) (C : Addr) : Sp := fun vs H Q _ => ∃ a tl s d D, vs = [.ref a, .int ((s : Nat) : Int), .ref d] ∧ LotAt C a tl s (told D) H ∧ H d = some (.dK (dT D)) ∧ OkD D 60 1200 ∧ 2 ≤ s ∧ s ≤ 8 ∧ ∀ H', Same H H' → Q (.bl true) H'
theorem ok_law_shows (D : Def K mg "_law_shows" s_law_shows ["_law_lot", "_law_size", "_law_told"]) (B : Bs mg) (Glb : Glo mg) (WK : WebK K mg C)
    (h_law_often : Good P w K mg base "_law_often" s_law_often ["_law_size", "_law_told"] 1 (sp_law_often K C))
    (h_law_is_plain : Good P w K mg base "_law_is_plain" s_law_is_plain ["_law_told"] 1 (sp_law_is_plain K C))
    (h_law_sorted : Good P w K mg base "_law_sorted" s_law_sorted ["_law_told"] 1 (sp_law_sorted K C))
    (hLot___eq__ : GoodM P w K mg base C "__eq__" "Lot.__eq__" sLot___eq__ ["self", "other"] 1 (spLot___eq__ K C))
    (hLot_size : GoodP P w K mg base C "size" "Lot.size" sLot_size ["self"] 1 (spLot_size K C))
    (hLot___init__ : GoodI P w K mg base C "__init__" "Lot.__init__" sLot___init__ ["self", "size", "readings"] 5 (spLot___init__ K C))
    (hLot_readings : GoodM P w K mg base C "readings" "Lot.readings" sLot_readings ["self"] 1 (spLot_readings K C))
    (hLot_pieces : GoodM P w K mg base C "pieces" "Lot.pieces" sLot_pieces ["self"] 3 (spLot_pieces K C))
    (hLot_solid : GoodM P w K mg base C "solid" "Lot.solid" sLot_solid ["self", "least"] 5 (spLot_solid K C))
    (hLot_times_of : GoodM P w K mg base C "times_of" "Lot.times_of" sLot_times_of ["self", "text"] 4 (spLot_times_of K C)) :
    Good P w K mg base "_law_shows" s_law_shows ["_law_lot", "_law_size", "_law_told"] 7 (sp_law_shows K C) := by
  refine D.good fun f fd F => ?_
  obtain ⟨f_law_often, d_law_often, O_law_often, m_law_often, k_law_often, b_law_often, F_law_often⟩ := h_law_often
  obtain ⟨f_law_is_plain, d_law_is_plain, O_law_is_plain, m_law_is_plain, k_law_is_plain, b_law_is_plain, F_law_is_plain⟩ := h_law_is_plain
  obtain ⟨f_law_sorted, d_law_sorted, O_law_sorted, m_law_sorted, k_law_sorted, b_law_sorted, F_law_sorted⟩ := h_law_sorted
  obtain ⟨fLot___eq__, dLot___eq__, OLot___eq__, tLot___eq__, bLot___eq__, FLot___eq__⟩ := hLot___eq__
  obtain ⟨qLot_size, fLot_size, dLot_size, OLot_size, pLot_size, bLot_size⟩ := hLot_size
  obtain ⟨fLot___init__, dLot___init__, OLot___init__, MK, bLot___init__⟩ := hLot___init__
  obtain ⟨fLot_readings, dLot_readings, OLot_readings, tLot_readings, bLot_readings, FLot_readings⟩ := hLot_readings
  obtain ⟨fLot_pieces, dLot_pieces, OLot_pieces, tLot_pieces, bLot_pieces, FLot_pieces⟩ := hLot_pieces
  obtain ⟨fLot_solid, dLot_solid, OLot_solid, tLot_solid, bLot_solid, FLot_solid⟩ := hLot_solid
  obtain ⟨fLot_times_of, dLot_times_of, OLot_times_of, tLot_times_of, bLot_times_of, FLot_times_of⟩ := hLot_times_of
  have kb_Lot_solid_least : KBinds K dLot_solid ["self", "least"] ["least"] gm1 gm1 := fun_kbinds FLot_solid gm1 gm1 relm1 (fun _ _ _ _ _ _ us ws hl => by
    obtain ⟨a0, a1, rfl, rfl⟩ := gm1_inv hl
    rfl)
  have kb_Lot_times_of_text : KBinds K dLot_times_of ["self", "text"] ["text"] gm1 gm1 := fun_kbinds FLot_times_of gm1 gm1 relm1 (fun _ _ _ _ _ _ us ws hl => by
    obtain ⟨a0, a1, rfl, rfl⟩ := gm1_inv hl
    rfl)
  refine F.ok sc_law_shows (fun vs H Q E h => ?_) (fun cdv A outer s H vs Q E hr h => ?_)
  · obtain ⟨a, tl, s, d, D, rfl, hLot, hd, hD, hs1, hs2, q⟩ := h
    first | rfl | (rcases h with ⟨_, _, rfl, _⟩ | ⟨_, rfl, _⟩ <;> rfl)
  obtain ⟨a, tl, s, d, D, rfl, hLot, hd, hD, hs1, hs2, q⟩ := h
  refine ⟨_, (pss_cons (ps_set (i := 3) sc_law_shows.nd rfl (by first | exact Or.inl rfl | exact Or.inr rfl) (pe_call O_law_often (hr.mono (by decide)) rfl m_law_often k_law_often b_law_often .nil pass0 (pa_cons (pv 1) (pa_cons (pv 2) pa_nil))))
  (pss_cons (ps_if (PW.pt (pw_or (pt_cmpR op_ne (pe_prop (pv 0) WK.cl pLot_size OLot_size (hr.mono (by decide)) bLot_size .nil pass0 (by rfl)) (pv 1) (nomark _)) (pw_or (pt_cmpR (op_neD hr.units) (pe_meth0 (pv 0) WK.cl tLot_readings OLot_readings (hr.mono (by decide)) bLot_readings .nil pass0) (pe_call O_law_sorted (hr.mono (by decide)) rfl m_law_sorted k_law_sorted b_law_sorted .nil pass0 (pa_cons (pv 2) pa_nil)) (nomark _)) (pw_or1 (pt_cmpR (op_neD hr.units) (pe_meth0 (pv 0) WK.cl tLot_pieces OLot_pieces (hr.mono (by decide)) bLot_pieces .nil pass0) (pe_call O_law_sorted (hr.mono (by decide)) rfl m_law_sorted k_law_sorted b_law_sorted .nil pass0 (pa_cons (pv 3) pa_nil)) (nomark _))))))
    (pss_one (ps_ret pe_bl)) pss_nil)
  (pss_cons (ps_for PassesOwn.never rfl (pi_list (pe_lst (pa_cons pe_int (pa_cons pe_int (pa_cons pe_int (pa_cons pe_int (pa_cons pe_int pa_nil))))))) (pg_name (i := 4) sc_law_shows.nd rfl (by first | exact Or.inl rfl | exact Or.inr rfl))
    (pss_one (ps_if (pt_cmpR (op_neD hr.units) (pe_meth (pv 0) WK.cl tLot_solid OLot_solid (hr.mono (by decide)) bLot_solid .nil pass0 (pa_cons (pv 4) pa_nil)) (pe_lc (own := [("_law_piece", 5)]) (g := gName 5) (by rfl) sc_law_shows.nd (pi_list (pe_callB (cr_sortD hr.units) (by rfl) B.sorted (by decide +kernel) (pa_cons (pe_callTy (call_listD rfl) (by rfl) B.list (by decide +kernel) (pa_cons (pv 3) pa_nil)) pa_nil))) (blkOk_by (own := [("_law_piece", 5)]) (N := ["_law_lot", "_law_size", "_law_told", "_law_often_here", "_law_least", "_law_piece", "_law_text_here"]) (sc := defScope s_law_shows) (by decide +kernel)) (fun _ _ _ _ _ => (pg_name (i := 5) sc_law_shows.nd rfl (by first | exact Or.inl rfl | exact Or.inr rfl))) (fun _ _ _ _ _ => (pts_one (pt_cmpR op_ge (pe_dget (hu_of hr) (pv 3) (pv 5) (fun _ _ => rfl)) (pv 4) (nomark _)))) (fun _ _ _ _ _ => (pv 5))) (nomark _))
    (pss_one (ps_ret pe_bl)) pss_nil)))
  (pss_cons (ps_expr (pe_bm PySem.F.plainAttrs_list PySem.F.slot_list_append PySem.F.type_list_append mt_append (pe_meth0 (pv 0) WK.cl tLot_readings OLot_readings (hr.mono (by decide)) bLot_readings .nil pass0) (pa_cons pe_non pa_nil)))
  (pss_cons (ps_expr (pe_bm PySem.F.plainAttrs_list PySem.F.slot_list_append PySem.F.type_list_append mt_append (pe_meth0 (pv 0) WK.cl tLot_pieces OLot_pieces (hr.mono (by decide)) bLot_pieces .nil pass0) (pa_cons pe_non pa_nil)))
  (pss_cons (ps_expr (pe_bm PySem.F.plainAttrs_list PySem.F.slot_list_append PySem.F.type_list_append mt_append (pe_methKK (pv 0) WK.cl tLot_solid OLot_solid (hr.mono (by decide)) kb_Lot_solid_least pass0 (pk_cons pe_int pk_nil)) (pa_cons pe_non pa_nil)))
  (pss_cons (ps_if (pt_cmpR (op_neD hr.units) (pe_lc (own := [("_law_text_here", 6)]) (g := gName 6) (by rfl) sc_law_shows.nd (pi_list (pe_callB (cr_sortD hr.units) (by rfl) B.sorted (by decide +kernel) (pa_cons (pe_callTy (call_listD rfl) (by rfl) B.list (by decide +kernel) (pa_cons (pv 2) pa_nil)) pa_nil))) (blkOk_by (own := [("_law_text_here", 6)]) (N := ["_law_lot", "_law_size", "_law_told", "_law_often_here", "_law_least", "_law_piece", "_law_text_here"]) (sc := defScope s_law_shows) (by decide +kernel)) (fun _ _ _ _ _ => (pg_name (i := 6) sc_law_shows.nd rfl (by first | exact Or.inl rfl | exact Or.inr rfl))) (fun _ _ _ _ _ => pts_nil) (fun _ _ _ _ _ => (pe_methKK (pv 0) WK.cl tLot_times_of OLot_times_of (hr.mono (by decide)) kb_Lot_times_of_text pass0 (pk_cons (pv 6) pk_nil)))) (pe_lc (own := [("_law_text_here", 6)]) (g := gName 6) (by rfl) sc_law_shows.nd (pi_list (pe_callB (cr_sortD hr.units) (by rfl) B.sorted (by decide +kernel) (pa_cons (pe_callTy (call_listD rfl) (by rfl) B.list (by decide +kernel) (pa_cons (pv 2) pa_nil)) pa_nil))) (blkOk_by (own := [("_law_text_here", 6)]) (N := ["_law_lot", "_law_size", "_law_told", "_law_often_here", "_law_least", "_law_piece", "_law_text_here"]) (sc := defScope s_law_shows) (by decide +kernel)) (fun _ _ _ _ _ => (pg_name (i := 6) sc_law_shows.nd rfl (by first | exact Or.inl rfl | exact Or.inr rfl))) (fun _ _ _ _ _ => pts_nil) (fun _ _ _ _ _ => (pe_dget (hu_of hr) (pv 2) (pv 6) (fun _ _ => rfl)))) (nomark _))
    (pss_one (ps_ret pe_bl)) pss_nil)
  (pss_one (ps_ret (pe_ifExp (pt_val (pe_call O_law_is_plain (hr.mono (by decide)) rfl m_law_is_plain k_law_is_plain b_law_is_plain .nil pass0 (pa_cons (pv 2) pa_nil))) (pe_cmpR (op_eqOwn OLot___eq__ (hr.mono (by decide)) tLot___eq__.at_ tLot___eq__.fn bLot___eq__ pass0) (pv 0) (pe_make MK OLot___init__ (hr.mono (by decide)) rfl WK.mgC bLot___init__ .nil pass0 (pa_cons (pv 1) (pa_cons (pe_meth0 (pv 0) WK.cl tLot_readings OLot_readings (hr.mono (by decide)) bLot_readings .nil pass0) pa_nil))) (nomark _)) (pe_cmpR op_eq (pe_meth (pv 0) WK.cl tLot_times_of OLot_times_of (hr.mono (by decide)) bLot_times_of .nil pass0 (pa_cons pe_str pa_nil)) pe_int (nomark _)))))))))))), ?_⟩
  have hM := hD.told
  have hMlen : (told D).length ≤ 60 := hM.len
  have hMx : ∀ e ∈ told D, e.1.length ≤ 400 := fun e he => (hM.ok e he).1.ok.len
  have hMt : ∀ e ∈ told D, OkT e.1 := fun e he => (hM.ok e he).1.ok
  refine ⟨_, rfl, _, rfl, s, d, D, rfl, hd, hD.nd, by have := hD.len; omega, fun e he => (hD.ok e he).1.ok.len, by omega, hs2, fun H1 f nf hS1 hf => ?_⟩
  have hE : ((sumT [] (pcsT s (told D))).map Prod.fst).Nodup := sumT_nodup _ (by simp)
  have hEt : ∀ e ∈ sumT [] (pcsT s (told D)), OkT e.1 := okT_sumT (okT_pcsT hMt s)
  have hElen : (sumT [] (pcsT s (told D))).length ≤ 90000 := by
    have h1 := pcsT_len s hMx
    have h2 := sumT_len (pcsT s (told D)) []
    have h3 : (told D).length * 401 ≤ 60 * 401 := Nat.mul_le_mul hMlen (Nat.le_refl _)
    simp at h2
    omega
  obtain ⟨dx, h1, _⟩ := hLot.same hS1
  refine ⟨_, rfl, a, dx, _, rfl, h1, a, tl, s, told D, rfl, hLot.same hS1, _, rfl, rfl, _, rfl, iteNot' rfl ?_⟩
  refine ⟨_, rfl, a, dx, _, rfl, h1, lf_no _ _ (by decide +kernel) (by decide +kernel), a, tl, s, told D, rfl, hLot.same hS1, fun H2 m nm hS2 hm => ?_⟩
  refine ⟨_, rfl, d, D, rfl, hS2 _ _ (hS1 _ _ hd), hD.nd, by have := hD.len; omega, fun H3 l nl hS3 hl => ?_⟩
  refine ⟨_, _, dp_rd (hm.same hS3), dp_rd hl, shaped_si hMt, shaped_si hMt, _, rfl, iteNb (by rw [eqv_si]; exact decide_eq_true rfl) ?_⟩
  have hS03 : Same H H3 := hS1.trans (hS2.trans hS3)
  obtain ⟨dx3, h3, _⟩ := hLot.same hS03
  have hf3 : H3 f = some (.dK (dT (sumT [] (pcsT s (told D))))) := hS3 _ _ (hS2 _ _ hf)
  refine ⟨_, rfl, a, dx3, _, rfl, h3, lf_no _ _ (by decide +kernel) (by decide +kernel), a, tl, s, told D, rfl, hLot.same hS03, by omega, hMx, hs2, fun H4 m2 nm2 hS4 hm2 => ?_⟩
  refine ⟨_, rfl, f, _, rfl, hS4 _ _ hf3, hE, hElen, fun H5 l2 nl2 hS5 hl2 => ?_⟩
  have hTt : ∀ e ∈ told (sumT [] (pcsT s (told D))), OkT e.1 := fun e he => hEt e (told_mem.mp he)
  refine ⟨_, _, dp_rd (hm2.same hS5), dp_rd hl2, shaped_si hTt, shaped_si hTt, _, rfl, iteNb (by rw [eqv_si]; exact decide_eq_true rfl) ?_⟩
  have hS05 : Same H H5 := hS03.trans (hS4.trans hS5)
  have hf5 : H5 f = some (.dK (dT (sumT [] (pcsT s (told D))))) := hS5 _ _ (hS4 _ _ hf3)
  generalize eEE : sumT [] (pcsT s (told D)) = EE at *
  -- the least numbers
  refine ⟨(by show 5 ≤ sizeLine; decide), fun lp nlp => ?_⟩
  have hlp : upd H5 lp (.lst [V.int 1, V.int 2, V.int 5, V.int 21, V.int 60]) lp = some (.lst [V.int 1, V.int 2, V.int 5, V.int 21, V.int 60]) := upd_same
  have hS6 : Same H5 (upd H5 lp (.lst [V.int 1, V.int 2, V.int 5, V.int 21, V.int 60])) := same_new nlp _
  generalize upd H5 lp (.lst [V.int 1, V.int 2, V.int 5, V.int 21, V.int 60]) = H6 at hlp hS6
  have hS06 := hS05.trans hS6
  refine ⟨lp, rfl, ⟨_, SqL.of hlp⟩, ?_⟩
  refine for_list (K := K) (a := lp) (xs := [V.int 1, V.int 2, V.int 5, V.int 21, V.int 60]) (fun i σ H' => ∃ v4 v5 v6 : Option V, σ = [some (.ref a), some (.int (s : Int)), some (.ref d), some (.ref f), v4, v5, v6] ∧ Same H6 H') ⟨none, none, none, rfl, fun b o e => e⟩ (fun i σ H' _ ⟨_, _, _, _, hS⟩ => SqL.of (hS _ _ hlp)) ?_ ?_
  · rintro i x σ H7 hx ⟨v4, v5, v6, rfl, hS7⟩
    obtain ⟨n, rfl, hn1⟩ := least_at hx
    have hS07 := hS06.trans hS7
    obtain ⟨dx7, h7, _⟩ := hLot.same hS07
    have hf7 : H7 f = some (.dK (dT EE)) := hS7 _ _ (hS6 _ _ hf5)
    refine ⟨_, rfl, a, dx7, _, rfl, h7, lf_no _ _ (by decide +kernel) (by decide +kernel), _, rfl, a, tl, s, told D, n, rfl, hn1, hLot.same hS07, by omega, hMx, hs2, fun H8 so nso hS8 hso => ?_⟩
    rw [eEE] at hso
    have hf8 : H8 f = some (.dK (dT EE)) := hS8 _ _ hf7
    refine ⟨_, rfl, f, dT EE, rfl, .inl (hf8), fun ka nka => ?_⟩
    rw [keys_V]
    refine ⟨ka, _, (EE.map Prod.fst).map PyData.str, rfl, SqL.of upd_same, dp_strs _, strs_alike _, strs_sortable _, fun e he => strs_depth he, by rw [List.length_map, List.length_map]; have := hElen; omega, fun zs kp hz nkp => ?_⟩
    rw [strs_map] at hz
    have ez := sorted_strs hz
    subst ez
    have hS9 : Same H8 (upd (upd H8 ka (.lst ((EE.map Prod.fst).map V.str))) kp (.lst (((EE.map Prod.fst).mergeSort leS).map V.str))) := fun b o e => same_new nkp _ _ _ (same_new nka _ _ _ e)
    have hkp : upd (upd H8 ka (.lst ((EE.map Prod.fst).map V.str))) kp (.lst (((EE.map Prod.fst).mergeSort leS).map V.str)) kp = some (.lst (((EE.map Prod.fst).mergeSort leS).map V.str)) := upd_same
    generalize upd (upd H8 ka (.lst ((EE.map Prod.fst).map V.str))) kp (.lst (((EE.map Prod.fst).mergeSort leS).map V.str)) = H9 at hS9 hkp
    refine ⟨kp, rfl, ⟨_, SqL.of hkp⟩, fun R nR => ?_⟩
    refine lc_list (K := K) (a := kp) (xs := ((EE.map Prod.fst).mergeSort leS).map V.str) (fun i H' => Same H9 H' ∧ H' R = some (.lst ((solidT ((inSeq EE).take i) n).map V.str))) ⟨same_new nR _, upd_same⟩ (fun i H' _ ⟨hS', _⟩ => SqL.of (hS' _ _ hkp)) ?_ ?_
    · rintro j v H10 hv ⟨hS10, hR⟩
      obtain ⟨y, hy, rfl⟩ := str_at hv
      have hym := key_of hy
      have hjl : j < EE.length := by rw [← keys_len]; exact (List.getElem?_eq_some_iff.mp hy).1
      have hf10 : H10 f = some (.dK (dT EE)) := hS10 _ _ (hS9 _ _ hf8)
      have hg : DGet H10 f (.str y) (some (.int (getT EE y))) := by
        rw [← dT_some hym]
        exact DGet.k (k := Sum.inr y) hf10
      refine ⟨rfl, _, rfl, _, rfl, f, _, rfl, hg, _, rfl, _, _, rfl, rfl, _, rfl, ?_⟩
      have he := inSeq_at hy
      by_cases c : getT EE y ≥ (n : Int)
      · refine iteYes c ⟨_, rfl, _, hR, ?_, same_upd hS10 nR, ?_⟩
        · rw [List.length_map, List.length_map]
          refine Nat.lt_of_le_of_lt (Nat.le_trans (List.length_filter_le _ _) ?_) (show 90000 < sizeLine by decide)
          rw [List.length_take]
          omega
        · rw [upd_same, take_snoc he]
          show _ = some (HO.lst ((((((inSeq EE).take j) ++ [(y, getT EE y)]).filter fun e => decide (e.2 ≥ (n : Int))).map Prod.fst).map V.str))
          rw [List.filter_append, List.map_append, List.map_append, List.filter_cons_of_pos (by simpa using c)]
          rfl
      · refine iteNo c ⟨hS10, ?_⟩
        rw [hR, take_snoc he]
        show _ = some (HO.lst ((((((inSeq EE).take j) ++ [(y, getT EE y)]).filter fun e => decide (e.2 ≥ (n : Int))).map Prod.fst).map V.str))
        rw [List.filter_append, List.filter_cons_of_neg (by simpa using c), List.filter_nil, List.append_nil]
    · rintro H10 ⟨hS10, hR⟩
      rw [List.length_map, keys_len, show (inSeq EE).take EE.length = inSeq EE from List.take_of_length_le (by rw [inSeq_len]; exact Nat.le_refl _), ← told_inSeq hE] at hR
      have hsT : ∀ y ∈ solidT (told EE) n, OkT y := fun y hy => by
        obtain ⟨e, he, rfl⟩ := List.mem_map.mp hy
        exact hTt e (List.mem_filter.mp he).1
      refine ⟨_, _, dp_st (hS10 _ _ (hS9 _ _ hso)), dp_st hR, shaped_st hsT, shaped_st hsT, _, rfl, iteNb (eqv_st hsT) ⟨_, _, _, rfl, (hS7.trans hS8).trans (hS9.trans hS10)⟩⟩
  rintro σ H7 ⟨v4, v5, v6, rfl, hS7⟩
  have hS07 := hS06.trans hS7
  -- told lists are new ones
  obtain ⟨dx7, h7, _⟩ := hLot.same hS07
  refine ⟨_, rfl, a, dx7, _, rfl, h7, lf_no _ _ (by decide +kernel) (by decide +kernel), a, tl, s, told D, rfl, hLot.same hS07, fun H8 l8 nl8 hS8 hl8 => ?_⟩
  obtain ⟨xs8, hx8, e8⟩ := hl8.len
  refine ⟨.inl ⟨rfl, _, SqL.of hx8⟩, l8, _, _, rfl, rfl, hx8, by rw [e8]; exact Nat.lt_of_le_of_lt hMlen (by decide), ?_⟩
  have hS9 : Same H (upd H8 l8 (.lst (xs8 ++ [V.non]))) := same_upd (hS07.trans hS8) (hS07.free nl8)
  generalize upd H8 l8 (.lst (xs8 ++ [V.non])) = H9 at hS9
  obtain ⟨dx9, h9, _⟩ := hLot.same hS9
  refine ⟨_, rfl, a, dx9, _, rfl, h9, lf_no _ _ (by decide +kernel) (by decide +kernel), a, tl, s, told D, rfl, hLot.same hS9, by omega, hMx, hs2, fun HA lA nlA hSA hlA => ?_⟩
  rw [eEE] at hlA
  obtain ⟨xsA, hxA, eA⟩ := hlA.len
  refine ⟨.inl ⟨rfl, _, SqL.of hxA⟩, lA, _, _, rfl, rfl, hxA, by rw [eA, told_len]; exact Nat.lt_of_le_of_lt hElen (by decide), ?_⟩
  have hSB : Same H (upd HA lA (.lst (xsA ++ [V.non]))) := same_upd (hS9.trans hSA) (hS9.free nlA)
  generalize upd HA lA (.lst (xsA ++ [V.non])) = HB at hSB
  obtain ⟨dxB, hB, _⟩ := hLot.same hSB
  refine ⟨_, rfl, a, dxB, _, rfl, hB, lf_no _ _ (by decide +kernel) (by decide +kernel), a, tl, s, told D, 1, rfl, by decide, hLot.same hSB, by omega, hMx, hs2, fun HC lC nlC hSC hlC => ?_⟩
  rw [eEE] at hlC
  refine ⟨.inl ⟨rfl, _, SqL.of hlC⟩, lC, _, _, rfl, rfl, hlC, ?_, ?_⟩
  · rw [List.length_map, List.length_map]
    refine Nat.lt_of_le_of_lt (Nat.le_trans (List.length_filter_le _ _) ?_) (show 90000 < sizeLine by decide)
    rw [told_len]
    exact hElen
  have hSD : Same H (upd HC lC (.lst ((solidT (told EE) 1).map V.str ++ [V.non]))) := same_upd (hSB.trans hSC) (hSB.free nlC)
  generalize upd HC lC (.lst ((solidT (told EE) 1).map V.str ++ [V.non])) = HD at hSD
  -- times
  have hDlen : D.length ≤ 90000 := by have := hD.len; omega
  refine ⟨_, rfl, d, dT D, rfl, .inl (hSD _ _ hd), fun ka nka => ?_⟩
  rw [keys_V]
  refine ⟨ka, _, (D.map Prod.fst).map PyData.str, rfl, SqL.of upd_same, dp_strs _, strs_alike _, strs_sortable _, fun e he => strs_depth he, by rw [List.length_map, List.length_map]; have := hDlen; omega, fun zs kp hz nkp => ?_⟩
  rw [strs_map] at hz
  have ez := sorted_strs hz
  subst ez
  have hSE : Same HD (upd (upd HD ka (.lst ((D.map Prod.fst).map V.str))) kp (.lst (((D.map Prod.fst).mergeSort leS).map V.str))) := fun b o e => same_new nkp _ _ _ (same_new nka _ _ _ e)
  have hkp : upd (upd HD ka (.lst ((D.map Prod.fst).map V.str))) kp (.lst (((D.map Prod.fst).mergeSort leS).map V.str)) kp = some (.lst (((D.map Prod.fst).mergeSort leS).map V.str)) := upd_same
  generalize upd (upd HD ka (.lst ((D.map Prod.fst).map V.str))) kp (.lst (((D.map Prod.fst).mergeSort leS).map V.str)) = HE at hSE hkp
  have hS0E := hSD.trans hSE
  refine ⟨kp, rfl, ⟨_, SqL.of hkp⟩, fun R nR => ?_⟩
  refine lc_list (K := K) (a := kp) (xs := ((D.map Prod.fst).mergeSort leS).map V.str) (fun i H' => Same HE H' ∧ H' R = some (.lst (iz (((inSeq D).take i).map Prod.snd)))) ⟨same_new nR _, upd_same⟩ (fun i H' _ ⟨hS', _⟩ => SqL.of (hS' _ _ hkp)) ?_ ?_
  · rintro j v H10 hv ⟨hS10, hR⟩
    obtain ⟨y, hy, rfl⟩ := str_at hv
    have hym := key_of hy
    have hjl : j < D.length := by rw [← keys_len]; exact (List.getElem?_eq_some_iff.mp hy).1
    have hS010 := hS0E.trans hS10
    obtain ⟨dx10, h10, _⟩ := hLot.same hS010
    have hyT : OkT y := by
      obtain ⟨e, he, rfl⟩ := List.mem_map.mp hym
      exact (hD.ok e he).1.ok
    refine ⟨rfl, ?_⟩
    refine ⟨_, rfl, a, dx10, _, rfl, h10, lf_no _ _ (by decide +kernel) (by decide +kernel), _, rfl, a, tl, s, told D, y, rfl, hLot.same hS010, hyT, hM.nd, fun H11 hS11 => ?_⟩
    rw [getT_told hD.nd]
    refine ⟨_, hS11 _ _ hR, ?_, same_upd (hS10.trans hS11) nR, ?_⟩
    · rw [List.length_map, List.length_map, List.length_take]
      exact Nat.lt_of_le_of_lt (by omega : _ ≤ 90000) (by decide)
    · rw [upd_same, take_snoc (inSeq_at hy), List.map_append]
      show some (HO.lst (iz (((inSeq D).take j).map Prod.snd) ++ [V.int (getT D y)])) = some (HO.lst ((((inSeq D).take j).map Prod.snd ++ [getT D y]).map V.int))
      rw [List.map_append]
      rfl
  rintro HF ⟨hSF, hR⟩
  rw [List.length_map, keys_len, show (inSeq D).take D.length = inSeq D from List.take_of_length_le (by rw [inSeq_len]; exact Nat.le_refl _)] at hR
  have hS0F := hS0E.trans hSF
  refine ⟨_, rfl, d, dT D, rfl, .inl (hS0F _ _ hd), fun ka nka => ?_⟩
  rw [keys_V]
  refine ⟨ka, _, (D.map Prod.fst).map PyData.str, rfl, SqL.of upd_same, dp_strs _, strs_alike _, strs_sortable _, fun e he => strs_depth he, by rw [List.length_map, List.length_map]; have := hDlen; omega, fun zs kq hz nkp => ?_⟩
  rw [strs_map] at hz
  have ez := sorted_strs hz
  subst ez
  have hSG : Same HF (upd (upd HF ka (.lst ((D.map Prod.fst).map V.str))) kq (.lst (((D.map Prod.fst).mergeSort leS).map V.str))) := fun b o e => same_new nkp _ _ _ (same_new nka _ _ _ e)
  have hkq : upd (upd HF ka (.lst ((D.map Prod.fst).map V.str))) kq (.lst (((D.map Prod.fst).mergeSort leS).map V.str)) kq = some (.lst (((D.map Prod.fst).mergeSort leS).map V.str)) := upd_same
  generalize upd (upd HF ka (.lst ((D.map Prod.fst).map V.str))) kq (.lst (((D.map Prod.fst).mergeSort leS).map V.str)) = HG at hSG hkq
  have hS0G := hS0F.trans hSG
  refine ⟨kq, rfl, ⟨_, SqL.of hkq⟩, fun R2 nR2 => ?_⟩
  refine lc_list (K := K) (a := kq) (xs := ((D.map Prod.fst).mergeSort leS).map V.str) (fun i H' => Same HG H' ∧ H' R2 = some (.lst (iz (((inSeq D).take i).map Prod.snd)))) ⟨same_new nR2 _, upd_same⟩ (fun i H' _ ⟨hS', _⟩ => SqL.of (hS' _ _ hkq)) ?_ ?_
  · rintro j v H10 hv ⟨hS10, hR'⟩
    obtain ⟨y, hy, rfl⟩ := str_at hv
    have hym := key_of hy
    have hjl : j < D.length := by rw [← keys_len]; exact (List.getElem?_eq_some_iff.mp hy).1
    have hg : DGet H10 d (.str y) (some (.int (getT D y))) := by
      rw [← dT_some hym]
      exact DGet.k (k := Sum.inr y) (hS10 _ _ (hS0G _ _ hd))
    refine ⟨rfl, _, rfl, _, rfl, d, _, rfl, hg, _, hR', ?_, same_upd hS10 nR2, ?_⟩
    · rw [List.length_map, List.length_map, List.length_take]
      exact Nat.lt_of_le_of_lt (by omega : _ ≤ 90000) (by decide)
    · rw [upd_same, take_snoc (inSeq_at hy), List.map_append]
      show some (HO.lst (iz (((inSeq D).take j).map Prod.snd) ++ [V.int (getT D y)])) = some (HO.lst ((((inSeq D).take j).map Prod.snd ++ [getT D y]).map V.int))
      rw [List.map_append]
      rfl
  rintro HI ⟨hSI, hR2⟩
  rw [List.length_map, keys_len, show (inSeq D).take D.length = inSeq D from List.take_of_length_le (by rw [inSeq_len]; exact Nat.le_refl _)] at hR2
  have hS0I := hS0G.trans hSI
  refine ⟨_, _, dp_iz (hSI _ _ (hSG _ _ hR)), dp_iz hR2, shaped_iz _, shaped_iz _, _, rfl, iteNb (eqv_same _) ?_⟩
  -- the end
  refine ⟨_, rfl, d, D, rfl, hS0I _ _ hd, hD.nd, by have := hD.len; omega, fun HJ hSJ => ⟨_, rfl, ?_⟩⟩
  have hS0J := hS0I.trans hSJ
  obtain ⟨dxJ, hJ, _⟩ := hLot.same hS0J
  refine ite2 (fun c => ?_) (fun c => ?_)
  · have hpl : ∀ e ∈ D, e.2 ≤ 20 := of_decide_eq_true c
    refine ⟨_, rfl, _, rfl, _, rfl, a, dxJ, _, rfl, hJ, lf_no _ _ (by decide +kernel) (by decide +kernel), a, tl, s, told D, rfl, hLot.same hS0J, fun HK m nm hSK hm => ?_⟩
    have hS0K := hS0J.trans hSK
    intro x dy nx ndy ndyx
    have hSx : Same HK (upd (upd HK dy (.own x)) x (.ins C dy [])) := fun b o e => by
      rw [upd_ne (ne_of_none e nx), upd_ne (ne_of_none e ndy)]
      exact e
    refine ⟨x, dy, s, m, told D, rfl, hs1, hs2, hm.same hSx, hMlen, fun e he => ⟨hMt e he, (hM.ok e he).2.1, hpl e (told_mem.mp he)⟩, upd_same, fun HL tm ntm hkL hLx => ⟨rfl, ?_⟩⟩
    rw [sumT_own hM.nd, told_told hD.nd] at hLx
    have hS0L : Same H HL := fun b o e => hkL _ _ (hSx _ _ (hS0K _ _ e)) (ne_of_none (hS0K _ _ e) nx)
    obtain ⟨dxL, hL, _⟩ := hLot.same hS0L
    obtain ⟨dxX, hX, _⟩ := id hLx
    refine ⟨a, x, dxL, dxX, _, _, rfl, rfl, hL, hX, a, tl, s, told D, x, rfl, hLot.same hS0L, .inl ⟨tm, s, told D, hLx, hMt, hMt, true, by simp, ?_⟩⟩
    exact q _ hS0L
  · refine ⟨_, rfl, a, dxJ, _, rfl, hJ, lf_no _ _ (by decide +kernel) (by decide +kernel), a, tl, s, told D, _, rfl, hLot.same hS0J, zzzz_ok, hM.nd, fun HK hSK => ?_⟩
    have e0 : getT (told D) (Str.ofString "zzzz") = 0 := getT_none (no_zzzz hM)
    rw [e0]
    exact ⟨rfl, bl_true rfl (q _ (hS0J.trans hSK))⟩
end
end My
namespace My
open PySem L2 PyProof.Rows
abbrev dropT (D : List (Str × Int)) (x : Str) : List (Str × Int) := D.filter fun e => decide (e.1 ≠ x)
theorem drop_dT (D : List (Str × Int)) (x : Str) : dropK (dT D) (Sum.inr x : Key) = dT (dropT D x) := by
  unfold dropK dT
  rw [List.filter_map]
  refine congrArg (List.map entSI) (List.filter_congr fun e he => ?_)
  show decide (¬ (Sum.inr e.1 : Key) = Sum.inr x) = decide (e.1 ≠ x)
  by_cases c : e.1 = x
  · rw [c]; simp
  · have c2 : ¬ (Sum.inr e.1 : Key) = Sum.inr x := fun z => c (Sum.inr.inj z)
    rw [decide_eq_true c2, decide_eq_true c]
theorem dropT_keys {D : List (Str × Int)} {x y : Str} : y ∈ (dropT D x).map Prod.fst ↔ y ∈ D.map Prod.fst ∧ y ≠ x := by
  constructor
  · intro h
    obtain ⟨e, he, rfl⟩ := List.mem_map.mp h
    have := List.mem_filter.mp he
    exact ⟨List.mem_map.mpr ⟨e, this.1, rfl⟩, by simpa using this.2⟩
  · rintro ⟨h, n⟩
    obtain ⟨e, he, rfl⟩ := List.mem_map.mp h
    exact List.mem_map.mpr ⟨e, List.mem_filter.mpr ⟨he, by simpa using n⟩, rfl⟩
theorem dropT_nd {D : List (Str × Int)} {x : Str} (h : (D.map Prod.fst).Nodup) : ((dropT D x).map Prod.fst).Nodup := h.sublist (List.filter_sublist.map Prod.fst)
theorem dropT_get {D : List (Str × Int)} (h : (D.map Prod.fst).Nodup) {x y : Str} (n : y ≠ x) : getT (dropT D x) y = getT D y := by
  by_cases c : y ∈ D.map Prod.fst
  · obtain ⟨e, he, rfl⟩ := List.mem_map.mp c
    rw [getT_mem h he, getT_mem (dropT_nd h) (List.mem_filter.mpr ⟨he, by simpa using n⟩)]
  · rw [getT_none c, getT_none fun z => c (dropT_keys.mp z).1]
/-- what is left of a text's number -/
def leftT (D : List (Str × Int)) (x : Str) (n : Int) : List (Str × Int) := if getT D x - n = 0 then dropT D x else addT D x (-n)
theorem app_nd {D : List (Str × Int)} {x : Str} {n : Int} (h : (D.map Prod.fst).Nodup) (c : x ∉ D.map Prod.fst) : ((D ++ [(x, n)]).map Prod.fst).Nodup := by
  rw [List.map_append, List.nodup_append]
  refine ⟨h, by simp, fun a ha b hb => ?_⟩
  rw [List.map_cons, List.map_nil, List.mem_singleton] at hb
  rw [hb]
  rintro rfl
  exact c ha
theorem app_get {D : List (Str × Int)} {x y : Str} {n : Int} (c : x ∉ D.map Prod.fst) : getT (D ++ [(x, n)]) y = if y = x then n else getT D y := by
  unfold getT
  rw [List.find?_append]
  by_cases k : y = x
  · subst k
    have : D.find? (fun e => decide (e.1 = y)) = none := List.find?_eq_none.mpr fun f hf => by
      simp only [decide_eq_true_eq]
      intro z
      exact c (List.mem_map.mpr ⟨f, hf, z⟩)
    rw [if_pos rfl, this]
    simp
  · have k2 : ¬ x = y := fun z => k z.symm
    rw [if_neg k]
    cases D.find? (fun e => decide (e.1 = y)) with
    | some f => rfl
    | none => simp [k2]
theorem x_dropT {D : List (Str × Int)} {x : Str} : x ∉ (dropT D x).map Prod.fst := fun z => (dropT_keys.mp z).2 rfl
theorem lessT_nd {D : List (Str × Int)} {x : Str} {n : Int} (h : (D.map Prod.fst).Nodup) : ((lessT D x n).map Prod.fst).Nodup := by
  unfold lessT
  split
  · exact app_nd (dropT_nd h) x_dropT
  · rw [List.append_nil]
    exact dropT_nd h
theorem leftT_nd {D : List (Str × Int)} {x : Str} {n : Int} (h : (D.map Prod.fst).Nodup) : ((leftT D x n).map Prod.fst).Nodup := by
  unfold leftT
  split
  · exact dropT_nd h
  · exact addT_nodup h
theorem told_left {D : List (Str × Int)} (h : (D.map Prod.fst).Nodup) {x : Str} {n : Int} (hx : x ∈ D.map Prod.fst) (hn : n ≤ getT D x) : told (lessT (told D) x n) = told (leftT D x n) := by
  have hT := told_nd h
  refine told_get (lessT_nd hT) (leftT_nd h) (fun y => ?_) fun y => ?_
  · unfold lessT leftT
    rw [getT_told h]
    by_cases c : getT D x > n
    · rw [if_pos c, if_neg (by omega), List.map_append, List.mem_append, addT_mem, dropT_keys, told_keys]
      simp only [List.map_cons, List.map_nil, List.mem_singleton]
      constructor
      · rintro (⟨a, _⟩ | a)
        · exact .inl a
        · exact .inr a
      · rintro (a | a)
        · by_cases e : y = x
          · exact .inr e
          · exact .inl ⟨a, e⟩
        · exact .inr a
    · rw [if_neg c, if_pos (by omega), List.append_nil, dropT_keys, dropT_keys, told_keys]
  · unfold lessT leftT
    rw [getT_told h]
    by_cases c : getT D x > n
    · rw [if_pos c, if_neg (by omega), app_get x_dropT, addT_get]
      by_cases e : y = x
      · rw [if_pos e, if_pos e]
        omega
      · rw [if_neg e, if_neg e, dropT_get hT e, getT_told h]
    · rw [if_neg c, if_pos (by omega), List.append_nil]
      by_cases e : y = x
      · subst e
        rw [getT_none x_dropT, getT_none x_dropT]
      · rw [dropT_get hT e, dropT_get h e, getT_told h]
theorem getT_in {D : List (Str × Int)} {n v : Nat} (h : OkD D n v) {x : Str} (hx : x ∈ D.map Prod.fst) : OkL x ∧ 1 ≤ getT D x ∧ getT D x ≤ (v : Int) := by
  obtain ⟨e, he, rfl⟩ := List.mem_map.mp hx
  rw [getT_mem h.nd he]
  exact h.ok e he
theorem leftT_ok {D : List (Str × Int)} {n v : Nat} (h : OkD D n v) {x : Str} {k : Int} (hx : x ∈ D.map Prod.fst) (h1 : 1 ≤ k) (h2 : k ≤ getT D x) : OkD (leftT D x k) n v := by
  obtain ⟨a1, a2, a3⟩ := getT_in h hx
  refine ⟨leftT_nd h.nd, ?_, ?_⟩
  · unfold leftT
    split
    · exact Nat.le_trans (List.length_filter_le _ _) h.len
    · have := congrArg List.length (addT_keys x (-k) D)
      rw [List.length_map, if_pos hx, List.length_map] at this
      rw [this]
      exact h.len
  · unfold leftT
    split
    · exact fun e he => h.ok e (List.mem_filter.mp he).1
    · rename_i c
      refine fun e he => ?_
      by_cases q : e.1 = x
      · have := getT_mem (addT_nodup h.nd) he
        rw [q, addT_get, if_pos rfl] at this
        rw [q, ← this]
        exact ⟨a1, by omega, by omega⟩
      · have hk : e.1 ∈ D.map Prod.fst := by
          rcases addT_mem.mp (List.mem_map.mpr ⟨e, he, rfl⟩) with z | z
          · exact z
          · exact absurd z q
        have := getT_mem (addT_nodup h.nd) he
        rw [addT_get, if_neg q] at this
        rw [← this]
        exact getT_in h hk
theorem lessT_le {D : List (Str × Int)} {n v : Nat} (h : OkD D n v) {x : Str} {k : Int} (h1 : 1 ≤ k) : ∀ e ∈ lessT D x k, e.2 ≤ (v : Int) := fun e he => by
  unfold lessT at he
  rcases List.mem_append.mp he with z | z
  · exact (h.ok e (List.mem_filter.mp z).1).2.2
  · split at z
    · rename_i c
      rw [List.mem_singleton.mp z]
      show getT D x - k ≤ (v : Int)
      by_cases hx : x ∈ D.map Prod.fst
      · have := (getT_in h hx).2.2
        omega
      · rw [getT_none hx]
        omega
    · cases z
theorem LotAt.kept {C a tl p : Addr} {s : Nat} {M : List (Str × Int)} {H H' : Hp} (h : LotAt C a tl s M H) (k : Kept p H H') (hp : PotAt H p) (hn : tl ≠ p) : LotAt C a tl s M H' := by
  obtain ⟨dx, h1, h2⟩ := h
  obtain ⟨x, y, e, _⟩ := id hp
  exact ⟨dx, k _ _ h1 (ne_of h1 e (by intro q; cases q)), h2.kept k hp hn⟩
theorem PotAt.ndk {H : Hp} {a d : Addr} {kvs : List (Key × V)} (h : PotAt H a) (hd : H d = some (.dK kvs)) : d ≠ a := by
  obtain ⟨x, y, e, _⟩ := h
  exact ne_of hd e (by intro q; cases q)
end My
namespace My
open PySem L2 PyProof.Rows
theorem drop_add (x : Str) (n : Int) : ∀ D : List (Str × Int), dropT (addT D x n) x = dropT D x
  | [] => by
    unfold addT dropT
    simp
  | e :: r => by
    unfold addT
    by_cases c : e.1 = x
    · rw [if_pos c]
      unfold dropT
      rw [List.filter_cons_of_neg (by simpa using c), List.filter_cons_of_neg (by simpa using c)]
    · rw [if_neg c]
      have ih := drop_add x n r
      unfold dropT at ih ⊢
      rw [List.filter_cons_of_pos (by simpa using c), List.filter_cons_of_pos (by simpa using c), ih]
theorem min_is {t g : Int} (h1 : 1 ≤ t) (h2 : t ≤ 20) (g1 : 1 ≤ g) : 1 ≤ (if g < t then g else t) ∧ (if g < t then g else t) ≤ 20 ∧ (if g < t then g else t) ≤ g := by
  split <;> omega
section
variable {P : Program} {w : World} {K : PySem.W.Frag} {mg : Str → Option Value} {base : Heap} {C : Addr}
def sp_law_deed (_ : PySem.W.Frag) (C : Addr) : Sp := fun vs H Q _ => ∃ p a tl s d D n v, vs = [.ref p, .ref a, .ref d] ∧ PotAt H p ∧ LotAt C a tl s (told D) H ∧ tl ≠ p ∧ H d = some (.dK (dT D)) ∧ OkD D n v ∧ n ≤ 50 ∧ v ≤ 1100 ∧ 2 ≤ s ∧ s ≤ 8 ∧
  ∀ t b tm d' D' H', H' t = some (.tup [.ref b, .ref d']) → LotAt C b tm s (told D') H' → tm ≠ p → H' d' = some (.dK (dT D')) → OkD D' (n + 1) (v + 20) → Kept p H H' → PotAt H' p → Q (.ref t) H'
theorem ok_law_deed (D : Def K mg "_law_deed" s_law_deed ["_law_pot_here", "_law_lot", "_law_told"]) (B : Bs mg) (Glb : Glo mg) (WK : WebK K mg C)
    (h_law_draw : Good P w K mg base "_law_draw" s_law_draw ["_law_pot_here", "_law_size"] 1 (sp_law_draw K C))
    (h_law_text : Good P w K mg base "_law_text" s_law_text ["_law_pot_here", "_law_most"] 3 (sp_law_text K C))
    (h_law_pick : Good P w K mg base "_law_pick" s_law_pick ["_law_pot_here", "_law_some"] 2 (sp_law_pick K C))
    (hwith_reading : Good P w K mg base "with_reading" swith_reading ["lot", "text", "times"] 9 (spwith_reading K C))
    (hwithout_reading : Good P w K mg base "without_reading" swithout_reading ["lot", "text", "times"] 8 (spwithout_reading K C)) :
    Good P w K mg base "_law_deed" s_law_deed ["_law_pot_here", "_law_lot", "_law_told"] 10 (sp_law_deed K C) := by
  refine D.good fun f fd F => ?_
  obtain ⟨f_law_draw, d_law_draw, O_law_draw, m_law_draw, k_law_draw, b_law_draw, F_law_draw⟩ := h_law_draw
  obtain ⟨f_law_text, d_law_text, O_law_text, m_law_text, k_law_text, b_law_text, F_law_text⟩ := h_law_text
  obtain ⟨f_law_pick, d_law_pick, O_law_pick, m_law_pick, k_law_pick, b_law_pick, F_law_pick⟩ := h_law_pick
  obtain ⟨fwith_reading, dwith_reading, Owith_reading, mwith_reading, kwith_reading, bwith_reading, Fwith_reading⟩ := hwith_reading
  obtain ⟨fwithout_reading, dwithout_reading, Owithout_reading, mwithout_reading, kwithout_reading, bwithout_reading, Fwithout_reading⟩ := hwithout_reading
  have kb_without_reading_lot_text_times : KBinds K dwithout_reading ["lot", "text", "times"] ["lot", "text", "times"] g123 g123 := fun_kbinds Fwithout_reading g123 g123 rel123 (fun _ _ _ _ _ _ us ws hl => by
    obtain ⟨rfl, a0, a1, a2, rfl⟩ := g123_inv hl
    rfl)
  refine F.ok sc_law_deed (fun vs H Q E h => ?_) (fun cdv A outer s H vs Q E hr h => ?_)
  · obtain ⟨p, a, tl, s, d, D, n, v, rfl, hp, hLot, htl, hd, hD, hn, hv, hs1, hs2, q⟩ := h
    first | rfl | (rcases h with ⟨_, _, rfl, _⟩ | ⟨_, rfl, _⟩ <;> rfl)
  obtain ⟨p, a, tl, s, d, D, n, v, rfl, hp, hLot, htl, hd, hD, hn, hv, hs1, hs2, q⟩ := h
  refine ⟨_, (pss_cons (ps_par3 (i := 3) (j := 4) (l := 5) (by rfl) sc_law_deed.nd rfl rfl rfl (by decide) (by decide) (by decide) rfl rfl rfl (pa_cons (pe_call O_law_draw (hr.mono (by decide)) rfl m_law_draw k_law_draw b_law_draw .nil pass0 (pa_cons (pv 0) (pa_cons pe_int pa_nil))) (pa_cons (pe_call O_law_text (hr.mono (by decide)) rfl m_law_text k_law_text b_law_text .nil pass0 (pa_cons (pv 0) (pa_cons pe_int pa_nil))) (pa_cons (pe_op op_add pe_int (pe_call O_law_draw (hr.mono (by decide)) rfl m_law_draw k_law_draw b_law_draw .nil pass0 (pa_cons (pv 0) (pa_cons pe_int pa_nil)))) pa_nil))) (by rfl))
  (pss_cons (ps_set (i := 6) sc_law_deed.nd rfl (by first | exact Or.inl rfl | exact Or.inr rfl) (pe_callTy call_dictD (by rfl) B.dict (by decide +kernel) (pa_cons (pv 2) pa_nil)))
  (pss_cons (ps_if (PW.pt (pw_and (pt_cmpR op_eq (pv 3) pe_int (nomark _)) (pw_and1 (pt_cmpR (op_neT hr.units0) (pv 2) pe_dnewK (nomark _)))))
    (pss_cons (ps_set (i := 4) sc_law_deed.nd rfl (by first | exact Or.inl rfl | exact Or.inr rfl) (pe_call O_law_pick (hr.mono (by decide)) rfl m_law_pick k_law_pick b_law_pick .nil pass0 (pa_cons (pv 0) (pa_cons (pe_callB (cr_sortD hr.units) (by rfl) B.sorted (by decide +kernel) (pa_cons (pe_callTy (call_listD rfl) (by rfl) B.list (by decide +kernel) (pa_cons (pv 2) pa_nil)) pa_nil)) pa_nil))))
  (pss_cons (ps_set (i := 5) sc_law_deed.nd rfl (by first | exact Or.inl rfl | exact Or.inr rfl) (pe_callB (call_min2 rfl) (by rfl) B.min (by decide +kernel) (pa_cons (pv 5) (pa_cons (pe_dget (hu_of hr) (pv 2) (pv 4) (fun _ _ => rfl)) pa_nil))))
  (pss_cons (ps_dput (hu_of hr) (pv 6) (pv 4) (pe_op op_sub (pe_dget (hu_of hr) (pv 2) (pv 4) (fun _ _ => rfl)) (pv 5)) rfl)
  (pss_cons (ps_if (pt_cmpR op_eq (pe_dget (hu_of hr) (pv 6) (pv 4) (fun _ _ => rfl)) pe_int (nomark _))
    (pss_one (ps_expr (pe_dpop1 (pv 6) (pv 4) ⟨rfl, rfl, rfl, rfl⟩))) pss_nil)
  (pss_one (ps_ret (pe_tup (pa_cons (pe_callKK Owithout_reading (hr.mono (by decide)) (by rfl) mwithout_reading kwithout_reading kb_without_reading_lot_text_times pass0 (pk_cons (pv 1) (pk_cons (pv 4) (pk_cons (pv 5) pk_nil)))) (pa_cons (pv 6) pa_nil))))))))) pss_nil)
  (pss_cons (ps_dput (hu_of hr) (pv 6) (pv 4) (pe_op op_add (pe_dget2 (hu_of hr) (pv 2) (pv 4) pe_int ⟨rfl, rfl, rfl, rfl⟩) (pv 5)) rfl)
  (pss_one (ps_ret (pe_tup (pa_cons (pe_call Owith_reading hr rfl mwith_reading kwith_reading bwith_reading .nil pass0 (pa_cons (pv 1) (pa_cons (pv 4) (pa_cons (pv 5) pa_nil)))) (pa_cons (pv 6) pa_nil))))))))), ?_⟩
  refine ⟨_, rfl, p, 3, rfl, hp, by decide, by decide, fun way H1 hway hk1 hp1 => ?_⟩
  refine ⟨_, rfl, p, 5, rfl, hp1, by decide, fun x H2 hx hx5 hk2 hp2 => ?_⟩
  refine ⟨_, rfl, p, 20, rfl, hp2, by decide, by decide, fun tn H3 htn hk3 hp3 => ⟨_, _, rfl, rfl, _, _, _, rfl, ?_⟩⟩
  have hk03 := (hk1.trans hk2).trans hk3
  have hL3 := ((hLot.kept hk1 hp htl).kept hk2 hp1 htl).kept hk3 hp2 htl
  have ndp := hp.ndk hd
  have hd3 : H3 d = some (.dK (dT D)) := hk03 _ _ hd ndp
  refine ⟨_, rfl, d, dT D, rfl, .inl hd3, fun e ne => ?_⟩
  have hk4 : Kept p H (upd H3 e (.dK (dT D))) := hk03.new ne
  have hp4 : PotAt (upd H3 e (.dK (dT D))) p := hp3.new ne
  have nep : e ≠ p := hp3.ne ne
  have nde : d ≠ e := ne_of_none hd3 ne
  have hS4 : Same H3 (upd H3 e (.dK (dT D))) := same_new ne _
  have he4 : (upd H3 e (.dK (dT D))) e = some (.dK (dT D)) := upd_same
  have ne0 : ∀ b o, H3 b = some o → b ≠ e := fun b o q => ne_of_none q ne
  generalize upd H3 e (.dK (dT D)) = H4 at hk4 hp4 hS4 he4
  have hd4 := hS4 _ _ hd3
  have hL4 := hL3.same hS4
  have hMx := hD.told
  have small : ∀ {E : List (Str × Int)}, E.length ≤ 200 → (dT E).length < sizeLine := fun h => by
    rw [List.length_map]
    exact Nat.lt_of_le_of_lt h (by decide)
  have hDl : D.length ≤ 50 := Nat.le_trans hD.len hn
  have htn1 : (1 : Int) ≤ 1 + (tn : Int) := by omega
  have htn2 : (1 : Int) + (tn : Int) ≤ ((20 : Nat) : Int) := by omega
  have outFin : ∀ D', OkD D' (n + 1) (v + 20) → ∀ b tm H', LotAt C b tm s (told D') H' → tm ≠ p → H' e = some (.dK (dT D')) → Kept p H H' → PotAt H' p → ∀ t, H' t = none → Q (.ref t) (upd H' t (.tup [.ref b, .ref e])) := fun D' hD' b tm H' hb htm he hk hp' t nt =>
    q t b tm e D' _ upd_same (hb.same (same_new nt _)) htm (same_new nt _ _ _ he) hD' (hk.new nt) (hp'.new nt)
  -- behind a store to the new dict
  have afterPut : ∀ H5, Same H4 H5 → PotAt H5 p → Kept p H H5 → H5 e = some (.dK (dT D)) → ∀ kvs, LotAt C a tl s (told D) (upd H5 e (.dK kvs)) ∧ PotAt (upd H5 e (.dK kvs)) p ∧ Kept p H (upd H5 e (.dK kvs)) := fun H5 hS5 hp5 hk5 he5 kvs => by
    refine ⟨?_, hp5.put nep, fun b' o z nb' => ?_⟩
    · obtain ⟨dx, g1, ts, g2, g3⟩ := hL4.same hS5
      have n1 : a ≠ e := ne_of g1 he5 (by intro z; cases z)
      have n2 : tl ≠ e := ne_of g2 he5 (by intro z; cases z)
      refine ⟨dx, by rw [upd_ne n1]; exact g1, ts, by rw [upd_ne n2]; exact g2, paired_mono (fun t f ht => ?_) g3⟩
      show upd _ _ _ t = _
      rw [upd_ne (ne_of ht he5 (by intro z; cases z))]
      exact ht
    · rw [upd_ne (ne0 _ _ (hk03 _ _ z nb'))]
      exact hk5 _ _ z nb'
  have ntp : ∀ {H6 H7 : Hp} {tm : Addr}, PotAt H6 p → H6 tm = none → tm ≠ p := fun h z => h.ne z
  have hDa : OkD (addT D x (1 + (tn : Int))) (n + 1) (v + 20) := hD.add hx htn1 htn2
  have leAdd : ∀ f ∈ sumT [] (told D ++ [(x, 1 + (tn : Int))]), f.2 ≤ 1200 := fun f hf => by
    rw [sumT_snoc, sumT_own hMx.nd] at hf
    have := ((hMx.add hx htn1 htn2).ok f hf).2.2
    omega
  have fin : ∀ H5, Same H4 H5 → H5 e = some (.dK (dT D)) →
      DGet H5 d (.str x) (valV (dT D) (Sum.inr x : Key)) ∧ DPut H5 e (.str x) (.int (getT D x + (1 + (tn : Int)))) (upd H5 e (.dK (dT (addT D x (1 + (tn : Int)))))) := fun H5 hS5 he5 => by
    refine ⟨DGet.k (k := Sum.inr x) (hS5 _ _ hd4), ?_⟩
    have := DPut.k (k := Sum.inr x) (v := .int (getT D x + (1 + (tn : Int)))) he5 (small (by omega))
    rw [dT_put hD.nd] at this
    exact this
  refine ⟨_, rfl, rfl, _, rfl, ?_⟩
  refine ite2 (fun c1 => ?_) (fun c1 => ?_)
  · -- the way 0
    refine ⟨_, rfl, fun el nel => ⟨d, el, D, [], rfl, rfl, same_new nel _ _ _ hd4, upd_same, _, rfl, ?_⟩⟩
    have hS5 : Same H4 (upd H4 el (.dK [])) := same_new nel _
    have hp5 : PotAt (upd H4 el (.dK [])) p := hp4.new nel
    have hk5 : Kept p H (upd H4 el (.dK [])) := hk4.new nel
    have he5 : (upd H4 el (.dK [])) e = some (.dK (dT D)) := hS5 _ _ he4
    generalize upd H4 el (.dK []) = H5 at hS5 hp5 hk5 he5
    cases hz : eqT D [] with
    | true =>
      refine iteNb (x := true) rfl ?_
      obtain ⟨hg, hput⟩ := fin H5 hS5 he5
      refine ⟨_, rfl, d, rfl, .inl ⟨_, .inl (hS5 _ _ hd4)⟩, _, rfl, _, hg, _, rfl, ?_⟩
      rw [dT_getD]
      refine ⟨_, _, rfl, rfl, _, rfl, _, rfl, e, _, rfl, hput, ?_⟩
      obtain ⟨hL6, hp6, hk6⟩ := afterPut H5 hS5 hp5 hk5 he5 (dT (addT D x (1 + (tn : Int))))
      refine ⟨_, rfl, _, rfl, _, rfl, a, tl, s, told D, x, 1 + (tn : Int), rfl, hL6, hs1, hs2, hx.ok, htn1, htn2, by rw [told_len]; omega, leAdd, fun H7 b tm nb ntm hS7 hLb => ?_⟩
      rw [told_add hD.nd] at hLb
      exact ⟨_, rfl, (by show 2 ≤ sizeLine; decide), fun t nt => outFin _ hDa b tm H7 hLb (hp6.ne ntm) (hS7 _ _ upd_same) (hk6.trans (Same.kept hS7)) (hp6.same hS7) t nt⟩
    | false =>
      refine iteT ?_
      have hne : D ≠ [] := fun z => by rw [z] at hz; cases hz
      have hd5 := hS5 _ _ hd4
      have hDlen : D.length ≤ 90000 := by omega
      refine ⟨_, rfl, _, rfl, d, dT D, rfl, .inl hd5, fun ka nka => ?_⟩
      rw [keys_V]
      refine ⟨ka, _, (D.map Prod.fst).map PyData.str, rfl, SqL.of upd_same, dp_strs _, strs_alike _, strs_sortable _, fun e he => strs_depth he, by rw [List.length_map, List.length_map]; omega, fun zs kp hz nkp => ?_⟩
      rw [strs_map] at hz
      have ez := sorted_strs hz
      subst ez
      have hS6 : Same H5 (upd (upd H5 ka (.lst ((D.map Prod.fst).map V.str))) kp (.lst (((D.map Prod.fst).mergeSort leS).map V.str))) := fun b o e => same_new nkp _ _ _ (same_new nka _ _ _ e)
      have hkp : upd (upd H5 ka (.lst ((D.map Prod.fst).map V.str))) kp (.lst (((D.map Prod.fst).mergeSort leS).map V.str)) kp = some (.lst (((D.map Prod.fst).mergeSort leS).map V.str)) := upd_same
      have hp6 : PotAt (upd (upd H5 ka (.lst ((D.map Prod.fst).map V.str))) kp (.lst (((D.map Prod.fst).mergeSort leS).map V.str))) p := (hp5.new nka).new nkp
      have hk6 : Kept p H (upd (upd H5 ka (.lst ((D.map Prod.fst).map V.str))) kp (.lst (((D.map Prod.fst).mergeSort leS).map V.str))) := (hk5.new nka).new nkp
      have nkpp : kp ≠ p := (hp5.new nka).ne nkp
      generalize upd (upd H5 ka (.lst ((D.map Prod.fst).map V.str))) kp (.lst (((D.map Prod.fst).mergeSort leS).map V.str)) = H6 at hS6 hkp hp6 hk6
      refine ⟨p, kp, _, rfl, hkp, nkpp, ?_, by rw [List.length_map, keys_len]; omega, hp6, fun y H7 hy hk7 hp7 => ?_⟩
      · rw [List.length_map, keys_len]
        cases D with
        | nil => exact absurd rfl hne
        | cons f r => exact Nat.succ_pos _
      obtain ⟨x', hx', rfl⟩ := List.mem_map.mp hy
      have hxm : x' ∈ D.map Prod.fst := (List.mergeSort_perm _ _).mem_iff.mp hx'
      obtain ⟨hxL, hg1, hg2⟩ := getT_in hD hxm
      have hd7 : H7 d = some (.dK (dT D)) := hk7 _ _ (hS6 _ _ hd5) ndp
      have he7 : H7 e = some (.dK (dT D)) := hk7 _ _ (hS6 _ _ he5) nep
      have hg : ∀ {H8 : Hp}, H8 d = some (.dK (dT D)) → DGet H8 d (.str x') (some (.int (getT D x'))) := fun h => by
        rw [← dT_some hxm]
        exact DGet.k (k := Sum.inr x') h
      refine ⟨_, rfl, _, rfl, _, rfl, d, _, rfl, hg hd7, _, _, rfl, ?_⟩
      obtain ⟨m1, m2, m3⟩ := min_is htn1 (by omega : (1 : Int) + (tn : Int) ≤ 20) hg1
      generalize (if getT D x' < 1 + (tn : Int) then getT D x' else 1 + (tn : Int)) = m at m1 m2 m3
      have hput : DPut H7 e (.str x') (.int (getT D x' - m)) (upd H7 e (.dK (dT (addT D x' (-m))))) := by
        have := DPut.k (k := Sum.inr x') (v := .int (getT D x' + (-m))) he7 (small (by omega))
        rw [dT_put hD.nd] at this
        exact this
      refine ⟨_, rfl, _, rfl, d, _, rfl, hg hd7, _, rfl, _, _, rfl, rfl, _, rfl, _, rfl, e, _, rfl, hput, ?_⟩
      have hk07 : Kept p H H7 := hk6.trans hk7
      have hL7 : LotAt C a tl s (told D) H7 := ((hL4.same hS5).same hS6).kept hk7 hp6 htl
      have store : ∀ kvs, LotAt C a tl s (told D) (upd H7 e (.dK kvs)) ∧ PotAt (upd H7 e (.dK kvs)) p ∧ Kept p H (upd H7 e (.dK kvs)) := fun kvs => by
        refine ⟨?_, hp7.put nep, fun b' o z nb' => ?_⟩
        · obtain ⟨dx, g1, ts, g2, g3⟩ := hL7
          have n1 : a ≠ e := ne_of g1 he7 (by intro z; cases z)
          have n2 : tl ≠ e := ne_of g2 he7 (by intro z; cases z)
          refine ⟨dx, by rw [upd_ne n1]; exact g1, ts, by rw [upd_ne n2]; exact g2, paired_mono (fun t f ht => ?_) g3⟩
          show upd _ _ _ t = _
          rw [upd_ne (ne_of ht he7 (by intro z; cases z))]
          exact ht
        · rw [upd_ne (ne0 _ _ (hk03 _ _ z nb'))]
          exact hk07 _ _ z nb'
      have hDl' : OkD (leftT D x' m) (n + 1) (v + 20) := (leftT_ok hD hxm m1 m3).mono (Nat.le_succ _) (Nat.le_add_right _ _)
      have hgx : ∀ {z : Int}, z = getT (addT D x' (-m)) x' → DGet (upd H7 e (.dK (dT (addT D x' (-m))))) e (.str x') (some (.int z)) := fun hz => by
        have hm2 : x' ∈ (addT D x' (-m)).map Prod.fst := addT_mem.mpr (.inr rfl)
        rw [hz, ← dT_some hm2]
        exact DGet.k (k := Sum.inr x') upd_same
      have hgv : getT D x' - m = getT (addT D x' (-m)) x' := by
        rw [addT_get, if_pos rfl]
        omega
      refine ⟨_, rfl, _, rfl, e, _, rfl, hgx hgv, rfl, _, rfl, ?_⟩
      by_cases c2 : getT D x' - m = 0
      · refine iteYes (int_eq.mpr c2) ?_
        have hm2 : x' ∈ (addT D x' (-m)).map Prod.fst := addT_mem.mpr (.inr rfl)
        refine ⟨_, rfl, e, rfl, .inl ⟨_, .inl upd_same⟩, _, rfl, _, Sum.inr x', _, upd_same, rfl, dT_some hm2, ?_⟩
        have hdr : dropT (addT D x' (-m)) x' = leftT D x' m := by
          unfold leftT
          rw [if_pos c2, drop_add]
        rw [drop_dT, upd_upd, hdr]
        obtain ⟨hL8, hp8, hk8⟩ := store (dT (leftT D x' m))
        refine ⟨_, rfl, _, rfl, _, rfl, a, tl, s, told D, x', m, rfl, hL8, hs1, hs2, hxL.ok, m1, m2, hMx.nd, by rw [told_len]; omega, by rw [getT_told hD.nd]; exact m3, fun f hf => (by have := lessT_le hMx m1 f hf; omega), fun H9 b tm nb ntm hS9 hLb => ?_⟩
        rw [told_left hD.nd hxm m3] at hLb
        exact ⟨_, rfl, (by show 2 ≤ sizeLine; decide), fun t nt => outFin _ hDl' b tm H9 hLb (hp8.ne ntm) (hS9 _ _ upd_same) (hk8.trans (Same.kept hS9)) (hp8.same hS9) t nt⟩
      · refine iteNo (fun z => c2 (int_eq.mp z)) ?_
        rw [show addT D x' (-m) = leftT D x' m by unfold leftT; rw [if_neg c2]]
        obtain ⟨hL8, hp8, hk8⟩ := store (dT (leftT D x' m))
        refine ⟨_, rfl, _, rfl, _, rfl, a, tl, s, told D, x', m, rfl, hL8, hs1, hs2, hxL.ok, m1, m2, hMx.nd, by rw [told_len]; omega, by rw [getT_told hD.nd]; exact m3, fun f hf => (by have := lessT_le hMx m1 f hf; omega), fun H9 b tm nb ntm hS9 hLb => ?_⟩
        rw [told_left hD.nd hxm m3] at hLb
        exact ⟨_, rfl, (by show 2 ≤ sizeLine; decide), fun t nt => outFin _ hDl' b tm H9 hLb (hp8.ne ntm) (hS9 _ _ upd_same) (hk8.trans (Same.kept hS9)) (hp8.same hS9) t nt⟩
  · obtain ⟨hg, hput⟩ := fin H4 (fun b o e => e) he4
    refine ⟨_, rfl, d, rfl, .inl ⟨_, .inl hd4⟩, _, rfl, _, hg, _, rfl, ?_⟩
    rw [dT_getD]
    refine ⟨_, _, rfl, rfl, _, rfl, _, rfl, e, _, rfl, hput, ?_⟩
    obtain ⟨hL6, hp6, hk6⟩ := afterPut H4 (fun b o e => e) hp4 hk4 he4 (dT (addT D x (1 + (tn : Int))))
    refine ⟨_, rfl, _, rfl, _, rfl, a, tl, s, told D, x, 1 + (tn : Int), rfl, hL6, hs1, hs2, hx.ok, htn1, htn2, by rw [told_len]; omega, leAdd, fun H7 b tm nb ntm hS7 hLb => ?_⟩
    rw [told_add hD.nd] at hLb
    exact ⟨_, rfl, (by show 2 ≤ sizeLine; decide), fun t nt => outFin _ hDa b tm H7 hLb (hp6.ne ntm) (hS7 _ _ upd_same) (hk6.trans (Same.kept hS7)) (hp6.same hS7) t nt⟩
end
end My
namespace My
open PySem L2 PyProof.Rows
/-! ### sums of numbers -/
def sumOf (y : Str) : List (Str × Int) → Int
  | [] => 0
  | e :: r => (if e.1 = y then e.2 else 0) + sumOf y r
theorem sumOf_app (y : Str) : ∀ L M : List (Str × Int), sumOf y (L ++ M) = sumOf y L + sumOf y M
  | [], M => by simp [sumOf]
  | e :: r, M => by
    show (if e.1 = y then e.2 else 0) + sumOf y (r ++ M) = _
    rw [sumOf_app y r M]
    show _ = ((if e.1 = y then e.2 else 0) + sumOf y r) + sumOf y M
    omega
theorem sumOf_perm (y : Str) {L M : List (Str × Int)} (h : L.Perm M) : sumOf y L = sumOf y M := by
  induction h with
  | nil => rfl
  | cons e h ih => show _ + _ = _ + _; rw [ih]
  | swap e f r =>
    show (if f.1 = y then f.2 else 0) + ((if e.1 = y then e.2 else 0) + sumOf y r) = (if e.1 = y then e.2 else 0) + ((if f.1 = y then f.2 else 0) + sumOf y r)
    omega
  | trans h1 h2 i1 i2 => exact i1.trans i2
theorem getT_sumT (y : Str) : ∀ L D : List (Str × Int), getT (sumT D L) y = getT D y + sumOf y L
  | [], D => by show getT D y = getT D y + 0; omega
  | e :: r, D => by
    show getT (sumT (addT D e.1 e.2) r) y = getT D y + ((if e.1 = y then e.2 else 0) + sumOf y r)
    rw [getT_sumT y r, addT_get]
    by_cases c : y = e.1
    · rw [if_pos c, if_pos c.symm, c]
      omega
    · have c2 : ¬ e.1 = y := fun z => c z.symm
      rw [if_neg c, if_neg c2]
      omega
theorem getT_nil (y : Str) : getT [] y = 0 := rfl
theorem getT_sumOf {D : List (Str × Int)} (h : (D.map Prod.fst).Nodup) (y : Str) : getT D y = sumOf y D := by
  have := getT_sumT y D []
  rw [sumT_own h, getT_nil] at this
  omega
theorem nd_sumT {D L : List (Str × Int)} (h : (D.map Prod.fst).Nodup) : ((sumT D L).map Prod.fst).Nodup := sumT_nodup L h
/-- told alike if the texts and the sums are the same -/
theorem told_sums {D E L M : List (Str × Int)} (hD : (D.map Prod.fst).Nodup) (hE : (E.map Prod.fst).Nodup) (hk : ∀ x, (x ∈ D.map Prod.fst ∨ x ∈ L.map Prod.fst) ↔ (x ∈ E.map Prod.fst ∨ x ∈ M.map Prod.fst)) (hs : ∀ y, getT D y + sumOf y L = getT E y + sumOf y M) : told (sumT D L) = told (sumT E M) :=
  told_get (nd_sumT hD) (nd_sumT hE) (fun x => by rw [sumT_keys, sumT_keys]; exact hk x) fun y => by rw [getT_sumT, getT_sumT]; exact hs y
/-- the sum of two dicts, put together in any sequence -/
theorem told_both {D E : List (Str × Int)} (hD : (D.map Prod.fst).Nodup) (hE : (E.map Prod.fst).Nodup) : told (sumT [] (told D ++ told E)) = told (sumT D (inSeq E)) := by
  refine told_sums (by simp) hD (fun x => ?_) fun y => ?_
  · rw [← told_inSeq hE, List.map_append, List.mem_append, told_keys, told_keys]
    simp
  · rw [getT_nil, sumOf_app, ← told_inSeq hE, getT_sumOf hD, sumOf_perm y (List.mergeSort_perm D _)]
    omega
theorem told_swap {D E : List (Str × Int)} : told (sumT [] (told D ++ told E)) = told (sumT [] (told E ++ told D)) := by
  refine told_sums (by simp) (by simp) (fun x => ?_) fun y => ?_
  · rw [List.map_append, List.map_append, List.mem_append, List.mem_append]
    simp [or_comm]
  · rw [sumOf_app, sumOf_app]
    omega
theorem told_rev (L : List (Str × Int)) : told (sumT [] L.reverse) = told (sumT [] L) := by
  refine told_sums (by simp) (by simp) (fun x => ?_) fun y => ?_
  · rw [List.map_reverse, List.mem_reverse]
  · rw [sumOf_perm y (List.reverse_perm L)]
/-! ### how often pieces come -/
def cntP (y : Str) : List Str → Int
  | [] => 0
  | p :: r => (if p = y then 1 else 0) + cntP y r
theorem sumOf_pcs (y : Str) (n : Int) : ∀ ps : List Str, sumOf y (ps.map fun p => (p, n)) = cntP y ps * n
  | [] => by simp [sumOf, cntP]
  | p :: r => by
    show (if p = y then n else 0) + sumOf y (r.map fun p => (p, n)) = ((if p = y then 1 else 0) + cntP y r) * n
    rw [sumOf_pcs y n r, Int.add_mul]
    split
    · rw [Int.one_mul]
    · rw [Int.zero_mul]
theorem oft_cons (s : Nat) (y : Str) (e : Str × Int) (r : List (Str × Int)) : sumOf y (pcsT s (e :: r)) = cntP y (pcs e.1 s) * e.2 + sumOf y (pcsT s r) := by
  show sumOf y (((pcs e.1 s).map fun p => (p, e.2)) ++ pcsT s r) = _
  rw [sumOf_app, sumOf_pcs]
theorem oft_app (s : Nat) (y : Str) (L M : List (Str × Int)) : sumOf y (pcsT s (L ++ M)) = sumOf y (pcsT s L) + sumOf y (pcsT s M) := by
  unfold pcsT
  rw [List.flatMap_append, sumOf_app]
theorem oft_perm (s : Nat) (y : Str) {L M : List (Str × Int)} (h : L.Perm M) : sumOf y (pcsT s L) = sumOf y (pcsT s M) := by
  induction h with
  | nil => rfl
  | cons e h ih => rw [oft_cons, oft_cons, ih]
  | swap e f r =>
    rw [oft_cons, oft_cons, oft_cons, oft_cons]
    omega
  | trans h1 h2 i1 i2 => exact i1.trans i2
theorem oft_add (s : Nat) (y x : Str) (n : Int) : ∀ D : List (Str × Int), sumOf y (pcsT s (addT D x n)) = sumOf y (pcsT s D) + cntP y (pcs x s) * n
  | [] => by
    show sumOf y (pcsT s [(x, n)]) = _
    rw [oft_cons]
    simp [pcsT, sumOf]
  | e :: r => by
    unfold addT
    by_cases c : e.1 = x
    · rw [if_pos c, oft_cons, oft_cons, c, Int.mul_add]
      show cntP y (pcs x s) * e.2 + cntP y (pcs x s) * n + sumOf y (pcsT s r) = _
      omega
    · rw [if_neg c, oft_cons, oft_cons, oft_add s y x n r]
      omega
theorem oft_sumT (s : Nat) (y : Str) : ∀ L D : List (Str × Int), sumOf y (pcsT s (sumT D L)) = sumOf y (pcsT s D) + sumOf y (pcsT s L)
  | [], D => by
    show sumOf y (pcsT s D) = sumOf y (pcsT s D) + sumOf y (pcsT s [])
    simp [pcsT, sumOf]
  | e :: r, D => by
    show sumOf y (pcsT s (sumT (addT D e.1 e.2) r)) = _
    rw [oft_sumT s y r, oft_add, oft_cons]
    omega
/-- pieces of both lots are sums -/
theorem oft_both (s : Nat) (y : Str) (D E : List (Str × Int)) : sumOf y (pcsT s (told (sumT [] (told D ++ told E)))) = sumOf y (pcsT s (told D)) + sumOf y (pcsT s (told E)) := by
  rw [oft_perm s y (List.mergeSort_perm _ _), oft_sumT, oft_app]
  simp [pcsT, sumOf]
theorem getT_pcs {M : List (Str × Int)} (s : Nat) (y : Str) : getT (told (sumT [] (pcsT s M))) y = sumOf y (pcsT s M) := by
  rw [getT_told (nd_sumT (by simp)), getT_sumT, getT_nil]
  omega
/-! ### drawn readings are the law's dicts -/
theorem okd_nil : OkD [] 0 0 := ⟨by simp, by simp, fun e he => by cases he⟩
theorem okd_sum : ∀ (L : List (Str × Int)), (∀ e ∈ L, OkL e.1 ∧ e.1.length ≤ 5 ∧ 1 ≤ e.2 ∧ e.2 ≤ 20) → ∀ {D : List (Str × Int)} {n v : Nat}, OkD D n v → OkD (sumT D L) (n + L.length) (v + 20 * L.length)
  | [], _, D, n, v, h => h
  | e :: r, hL, D, n, v, h => by
    have he := hL e List.mem_cons_self
    have h1 : OkD (addT D e.1 e.2) (n + 1) (v + 20) := h.add he.1 he.2.2.1 (by show e.2 ≤ ((20 : Nat) : Int); have := he.2.2.2; omega)
    have h2 := okd_sum r (fun f hf => hL f (List.mem_cons_of_mem _ hf)) h1
    refine h2.mono ?_ ?_
    · rw [List.length_cons]; omega
    · rw [List.length_cons]; omega
theorem okd_join {D E : List (Str × Int)} {n v m u : Nat} (h : OkD D n v) (k : OkD E m u) : ∀ L : List (Str × Int), (∀ e ∈ L, e ∈ E) → L.length ≤ m → OkD (sumT D L) (n + L.length) (v + u * L.length)
  | [], _, _ => h.mono (Nat.le_add_right _ _) (Nat.le_add_right _ _)
  | e :: r, hL, hl => by
    have he := k.ok e (hL e List.mem_cons_self)
    have h1 : OkD (addT D e.1 e.2) (n + 1) (v + u) := h.add he.1 he.2.1 he.2.2
    have h2 := okd_join h1 k r (fun f hf => hL f (List.mem_cons_of_mem _ hf)) (by rw [List.length_cons] at hl; omega)
    refine h2.mono ?_ ?_
    · rw [List.length_cons]; omega
    · rw [List.length_cons, Nat.mul_succ]; omega
end My
namespace My
open PySem L2 PyProof.Rows
theorem paired_rev {α β : Type} {F : α → β → Prop} : ∀ {l1 : List α} {l2 : List β}, Paired F l1 l2 → Paired F l1.reverse l2.reverse
  | _, _, .nil => .nil
  | _, _, .cons r t => by
    rw [List.reverse_cons, List.reverse_cons]
    exact paired_end (paired_rev t) r
theorem decide_bl {b c : Bool} (h : b = c) : decide (V.bl b = V.bl c) = true := by rw [h]; exact decide_eq_true rfl
section
variable {P : Program} {w : World} {K : PySem.W.Frag} {mg : Str → Option Value} {base : Heap} {C : Addr}
def sp_law_both_right (_ : PySem.W.Frag) (C : Addr) : Sp := fun vs H Q _ => ∃ p a tl s d D n v, vs = [.ref p, .ref a, .int ((s : Nat) : Int), .ref d] ∧ PotAt H p ∧ LotAt C a tl s (told D) H ∧ tl ≠ p ∧ H d = some (.dK (dT D)) ∧ OkD D n v ∧ n ≤ 50 ∧ v ≤ 1000 ∧ 2 ≤ s ∧ s ≤ 8 ∧ ∀ H', Q (.bl true) H'
theorem ok_law_both_right (D : Def K mg "_law_both_right" s_law_both_right ["_law_pot_here", "_law_lot", "_law_size", "_law_told"]) (B : Bs mg) (Glb : Glo mg) (WK : WebK K mg C)
    (h_law_readings : Good P w K mg base "_law_readings" s_law_readings ["_law_pot_here", "_law_many"] 4 (sp_law_readings K C))
    (hboth_lots : Good P w K mg base "both_lots" sboth_lots ["lot", "other"] 9 (spboth_lots K C))
    (h_law_draw : Good P w K mg base "_law_draw" s_law_draw ["_law_pot_here", "_law_size"] 1 (sp_law_draw K C))
    (h_law_times : Good P w K mg base "_law_times" s_law_times ["_law_readings_here"] 1 (sp_law_times K C))
    (h_law_shows : Good P w K mg base "_law_shows" s_law_shows ["_law_lot", "_law_size", "_law_told"] 7 (sp_law_shows K C))
    (hLot___eq__ : GoodM P w K mg base C "__eq__" "Lot.__eq__" sLot___eq__ ["self", "other"] 1 (spLot___eq__ K C))
    (hLot___init__ : GoodI P w K mg base C "__init__" "Lot.__init__" sLot___init__ ["self", "size", "readings"] 5 (spLot___init__ K C))
    (hLot_pieces : GoodM P w K mg base C "pieces" "Lot.pieces" sLot_pieces ["self"] 3 (spLot_pieces K C)) :
    Good P w K mg base "_law_both_right" s_law_both_right ["_law_pot_here", "_law_lot", "_law_size", "_law_told"] 10 (sp_law_both_right K C) := by
  refine D.good fun f fd F => ?_
  obtain ⟨f_law_readings, d_law_readings, O_law_readings, m_law_readings, k_law_readings, b_law_readings, F_law_readings⟩ := h_law_readings
  obtain ⟨fboth_lots, dboth_lots, Oboth_lots, mboth_lots, kboth_lots, bboth_lots, Fboth_lots⟩ := hboth_lots
  obtain ⟨f_law_draw, d_law_draw, O_law_draw, m_law_draw, k_law_draw, b_law_draw, F_law_draw⟩ := h_law_draw
  obtain ⟨f_law_times, d_law_times, O_law_times, m_law_times, k_law_times, b_law_times, F_law_times⟩ := h_law_times
  obtain ⟨f_law_shows, d_law_shows, O_law_shows, m_law_shows, k_law_shows, b_law_shows, F_law_shows⟩ := h_law_shows
  obtain ⟨fLot___eq__, dLot___eq__, OLot___eq__, tLot___eq__, bLot___eq__, FLot___eq__⟩ := hLot___eq__
  obtain ⟨fLot___init__, dLot___init__, OLot___init__, MK, bLot___init__⟩ := hLot___init__
  obtain ⟨fLot_pieces, dLot_pieces, OLot_pieces, tLot_pieces, bLot_pieces, FLot_pieces⟩ := hLot_pieces
  have kb_both_lots_lot_other : KBinds K dboth_lots ["lot", "other"] ["lot", "other"] g12 g12 := fun_kbinds Fboth_lots g12 g12 rel12 (fun _ _ _ _ _ _ us ws hl => by
    obtain ⟨rfl, a0, a1, rfl⟩ := g12_inv hl
    rfl)
  refine F.ok sc_law_both_right (fun vs H Q E h => ?_) (fun cdv A outer s H vs Q E hr h => ?_)
  · obtain ⟨p, a, tl, s, d, D, n, v, rfl, hp, hLot, htl, hd, hD, hn, hv, hs1, hs2, q⟩ := h
    first | rfl | (rcases h with ⟨_, _, rfl, _⟩ | ⟨_, rfl, _⟩ <;> rfl)
  obtain ⟨p, a, tl, s, d, D, n, v, rfl, hp, hLot, htl, hd, hD, hn, hv, hs1, hs2, q⟩ := h
  refine ⟨_, (pss_cons (ps_set (i := 4) sc_law_both_right.nd rfl (by first | exact Or.inl rfl | exact Or.inr rfl) (pe_call O_law_readings (hr.mono (by decide)) rfl m_law_readings k_law_readings b_law_readings .nil pass0 (pa_cons (pv 0) (pa_cons (pe_call O_law_draw (hr.mono (by decide)) rfl m_law_draw k_law_draw b_law_draw .nil pass0 (pa_cons (pv 0) (pa_cons pe_int pa_nil))) pa_nil))))
  (pss_cons (ps_par (i := 5) (j := 6) (by rfl) sc_law_both_right.nd rfl rfl (by decide) rfl rfl (pa_cons (pe_make MK OLot___init__ (hr.mono (by decide)) rfl WK.mgC bLot___init__ .nil pass0 (pa_cons (pv 2) (pa_cons (pv 4) pa_nil))) (pa_cons (pe_call O_law_times (hr.mono (by decide)) rfl m_law_times k_law_times b_law_times .nil pass0 (pa_cons (pv 4) pa_nil)) pa_nil)) (by rfl))
  (pss_cons (ps_set (i := 7) sc_law_both_right.nd rfl (by first | exact Or.inl rfl | exact Or.inr rfl) (pe_call Oboth_lots hr rfl mboth_lots kboth_lots bboth_lots .nil pass0 (pa_cons (pv 1) (pa_cons (pv 5) pa_nil))))
  (pss_cons (ps_set (i := 8) sc_law_both_right.nd rfl (by first | exact Or.inl rfl | exact Or.inr rfl) (pe_callTy call_dictD (by rfl) B.dict (by decide +kernel) (pa_cons (pv 3) pa_nil)))
  (pss_cons (ps_for PassesOwn.never rfl (pi_list (pe_callB (cr_sortD hr.units) (by rfl) B.sorted (by decide +kernel) (pa_cons (pe_callTy (call_listD rfl) (by rfl) B.list (by decide +kernel) (pa_cons (pv 6) pa_nil)) pa_nil))) (pg_name (i := 9) sc_law_both_right.nd rfl (by first | exact Or.inl rfl | exact Or.inr rfl))
    (pss_one (ps_dput (hu_of hr) (pv 8) (pv 9) (pe_op op_add (pe_dget2 (hu_of hr) (pv 8) (pv 9) pe_int ⟨rfl, rfl, rfl, rfl⟩) (pe_dget (hu_of hr) (pv 6) (pv 9) (fun _ _ => rfl))) rfl)))
  (pss_cons (ps_if (PW.pt (pw_or (pt_not (pt_val (pe_call O_law_shows (hr.mono (by decide)) rfl m_law_shows k_law_shows b_law_shows .nil pass0 (pa_cons (pv 7) (pa_cons (pv 2) (pa_cons (pv 8) pa_nil)))))) (pw_or1 (pt_cmpR (op_neOwn OLot___eq__ (hr.mono (by decide)) WK.i4 WK.ne tLot___eq__.at_ tLot___eq__.fn bLot___eq__ pass0) (pv 7) (pe_callKK Oboth_lots hr (by rfl) mboth_lots kboth_lots kb_both_lots_lot_other pass0 (pk_cons (pv 5) (pk_cons (pv 1) pk_nil))) (nomark _)))))
    (pss_one (ps_ret pe_bl)) pss_nil)
  (pss_cons (ps_par (i := 10) (j := 11) (by rfl) sc_law_both_right.nd rfl rfl (by decide) rfl rfl (pa_cons (pe_callTy (call_dictP rfl) (by rfl) B.dict (by decide +kernel) (pa_cons (pe_meth0 (pv 1) WK.cl tLot_pieces OLot_pieces (hr.mono (by decide)) bLot_pieces .nil pass0) pa_nil)) (pa_cons (pe_callTy (call_dictP rfl) (by rfl) B.dict (by decide +kernel) (pa_cons (pe_meth0 (pv 5) WK.cl tLot_pieces OLot_pieces (hr.mono (by decide)) bLot_pieces .nil pass0) pa_nil)) pa_nil)) (by rfl))
  (pss_cons (ps_for PassesOwn.never rfl (pi_list (pe_meth0 (pv 7) WK.cl tLot_pieces OLot_pieces (hr.mono (by decide)) bLot_pieces .nil pass0)) (pg_tup rfl (pgs_cons (pg_name (i := 12) sc_law_both_right.nd rfl (by first | exact Or.inl rfl | exact Or.inr rfl)) (pgs_cons (pg_name (i := 13) sc_law_both_right.nd rfl (by first | exact Or.inl rfl | exact Or.inr rfl)) pgs_nil)))
    (pss_one (ps_if (pt_cmpR op_ne (pv 13) (pe_op op_add (pe_dget2 (hu_of hr) (pv 10) (pv 12) pe_int ⟨rfl, rfl, rfl, rfl⟩) (pe_dget2 (hu_of hr) (pv 11) (pv 12) pe_int ⟨rfl, rfl, rfl, rfl⟩)) (nomark _))
    (pss_one (ps_ret pe_bl)) pss_nil)))
  (pss_one (ps_ret (pe_and (pe_cmpR (op_eqOwn OLot___eq__ (hr.mono (by decide)) tLot___eq__.at_ tLot___eq__.fn bLot___eq__ pass0) (pe_make MK OLot___init__ (hr.mono (by decide)) rfl WK.mgC bLot___init__ .nil pass0 (pa_cons (pv 2) (pa_cons (pe_revL (pv 4)) pa_nil))) (pv 5) (nomark _)) (pe_one (pe_cmpR op_eq (pe_cmpR (op_eqOwn OLot___eq__ (hr.mono (by decide)) tLot___eq__.at_ tLot___eq__.fn bLot___eq__ pass0) (pv 5) (pv 1) (nomark _)) (pe_cmpR (op_eqT hr.units0) (pv 6) (pv 3) (nomark _)) (nomark _)))))))))))))), ?_⟩
  refine ⟨_, rfl, _, rfl, p, 4, rfl, hp, by decide, by decide, fun k H1 hkl hk1 hp1 => ⟨p, k, rfl, hp1, by omega, fun l L H2 hlen hL hk2 hp2 nl hR => ?_⟩⟩
  have ndp := hp.ndk hd
  have hA2 := (hLot.kept hk1 hp htl).kept hk2 hp1 htl
  have hd2 : H2 d = some (.dK (dT D)) := (hk1.trans hk2) _ _ hd ndp
  clear hLot hd
  have hM := hD.told
  have hMt : ∀ e ∈ told D, OkT e.1 := fun e he => (hM.ok e he).1.ok
  have hMx : ∀ e ∈ told D, e.1.length ≤ 400 := fun e he => (hMt e he).len
  have hDl : D.length ≤ 50 := Nat.le_trans hD.len hn
  have hL3 : L.length ≤ 3 := by omega
  have hD2 : OkD (sumT [] L) 3 60 := (okd_sum L hL okd_nil).mono (by omega) (by omega)
  -- the other lot
  refine ⟨_, rfl, _, rfl, ?_⟩
  intro x dy nx ndy ndyx
  have hSx : Same H2 (upd (upd H2 dy (.own x)) x (.ins C dy [])) := fun b o e => by
    rw [upd_ne (ne_of_none e nx), upd_ne (ne_of_none e ndy)]
    exact e
  refine ⟨x, dy, s, l, L, rfl, hs1, hs2, hR.same hSx, by omega, fun e he => ⟨(hL e he).1.ok, (hL e he).2.2.1, (hL e he).2.2.2⟩, upd_same, fun H4 tm ntm hkx hB4 => ⟨rfl, ?_⟩⟩
  have hS24 : Same H2 H4 := fun b o e => hkx _ _ (hSx _ _ e) (ne_of_none e nx)
  refine ⟨_, rfl, l, L, rfl, hR.same hS24, by omega, fun H5 g hS5 ng hg5 => ⟨_, _, rfl, ?_⟩⟩
  have hR5 := (hR.same hS24).same hS5
  have hA5 := (hA2.same hS24).same hS5
  have hB5 := hB4.same hS5
  have hd5 := hS5 _ _ (hS24 _ _ hd2)
  generalize eD2 : sumT [] L = D2 at *
  have hM2 := hD2.told
  have hMt2 : ∀ e ∈ told D2, OkT e.1 := fun e he => (hM2.ok e he).1.ok
  have hMx2 : ∀ e ∈ told D2, e.1.length ≤ 400 := fun e he => (hMt2 e he).len
  have hl2 : (told D2).length ≤ 3 := hM2.len
  have hl1 : (told D).length ≤ 50 := Nat.le_trans hM.len hn
  have join1 : OkD (sumT [] (told D ++ told D2)) (n + 3) (v + 180) := by
    rw [sumT_app, sumT_own hM.nd]
    refine (okd_join hM hM2 (told D2) (fun e he => he) hl2).mono (by omega) ?_
    have : 60 * (told D2).length ≤ 60 * 3 := Nat.mul_le_mul (Nat.le_refl _) hl2
    omega
  have join2 : OkD (sumT [] (told D2 ++ told D)) (3 + 50) (60 + 1000 * 50) := by
    rw [sumT_app, sumT_own hM2.nd]
    refine (okd_join hM2 (hM.mono hn hv) (told D) (fun e he => he) hl1).mono (by omega) ?_
    have : 1000 * (told D).length ≤ 1000 * 50 := Nat.mul_le_mul (Nat.le_refl _) hl1
    omega
  have le2 : ∀ e ∈ sumT [] (told D2 ++ told D), e.2 ≤ 1200 := fun e he => by
    have hk : e.1 ∈ (sumT [] (told D ++ told D2)).map Prod.fst := by
      have : e.1 ∈ (sumT [] (told D2 ++ told D)).map Prod.fst := List.mem_map.mpr ⟨e, he, rfl⟩
      rw [sumT_keys, List.map_append, List.mem_append] at this ⊢
      rcases this with z | z | z
      · exact .inl z
      · exact .inr (.inr z)
      · exact .inr (.inl z)
    have h1 := getT_mem join2.nd he
    have h2 := (getT_in join1 hk).2.2
    rw [getT_sumT, sumOf_app, Int.add_comm (sumOf e.1 (told D2)), ← sumOf_app, ← getT_sumT] at h1
    omega
  -- both
  refine ⟨_, rfl, _, rfl, a, tl, x, tm, s, told D, told D2, rfl, hA5, hB5, hs1, hs2, by omega, fun e he => (by have := (join1.ok e he).2.2; omega), fun H6 c tc nc ntc hS6 hC6 => ?_⟩
  rw [told_both hD.nd hD2.nd] at hC6
  have hA6 := hA5.same hS6
  have hB6 := hB5.same hS6
  have hd6 := hS6 _ _ hd5
  have hg6 := hS6 _ _ hg5
  have hR6 := hR5.same hS6
  refine ⟨_, rfl, d, dT D, rfl, .inl hd6, fun e ne => ?_⟩
  have hS7 : Same H6 (upd H6 e (.dK (dT D))) := same_new ne _
  have he7 : (upd H6 e (.dK (dT D))) e = some (.dK (dT D)) := upd_same
  have nee : ∀ {b o}, H6 b = some o → b ≠ e := fun q => ne_of_none q ne
  generalize upd H6 e (.dK (dT D)) = H7 at hS7 he7
  have hD2len : D2.length ≤ 90000 := by have := hD2.len; omega
  refine ⟨_, rfl, g, dT D2, rfl, .inl (hS7 _ _ hg6), fun ka nka => ?_⟩
  rw [keys_V]
  refine ⟨ka, _, (D2.map Prod.fst).map PyData.str, rfl, SqL.of upd_same, dp_strs _, strs_alike _, strs_sortable _, fun e he => strs_depth he, by rw [List.length_map, List.length_map]; have := hD2len; omega, fun zs kp hz nkp => ?_⟩
  rw [strs_map] at hz
  have ez := sorted_strs hz
  subst ez
  have hS8 : Same H7 (upd (upd H7 ka (.lst ((D2.map Prod.fst).map V.str))) kp (.lst (((D2.map Prod.fst).mergeSort leS).map V.str))) := fun b o e => same_new nkp _ _ _ (same_new nka _ _ _ e)
  have hkp : upd (upd H7 ka (.lst ((D2.map Prod.fst).map V.str))) kp (.lst (((D2.map Prod.fst).mergeSort leS).map V.str)) kp = some (.lst (((D2.map Prod.fst).mergeSort leS).map V.str)) := upd_same
  generalize upd (upd H7 ka (.lst ((D2.map Prod.fst).map V.str))) kp (.lst (((D2.map Prod.fst).mergeSort leS).map V.str)) = H8 at hS8 hkp
  have nkpe : kp ≠ e := ne_of hkp (hS8 _ _ he7) (by intro z; cases z)
  refine ⟨kp, rfl, ⟨_, SqL.of hkp⟩, ?_⟩
  have cnt : ∀ i, (sumT D ((inSeq D2).take i)).length ≤ 60 := fun i => by
    have h1 := sumT_len ((inSeq D2).take i) D
    have h2 : ((inSeq D2).take i).length ≤ 3 := by
      rw [List.length_take, inSeq_len]
      have := hD2.len
      omega
    omega
  refine for_list (K := K) (a := kp) (xs := ((D2.map Prod.fst).mergeSort leS).map V.str) (fun i σ H' => ∃ v9 : Option V, σ = [some (.ref p), some (.ref a), some (.int (s : Int)), some (.ref d), some (.ref l), some (.ref x), some (.ref g), some (.ref c), some (.ref e), v9, none, none, none, none] ∧ Kept e H8 H' ∧ H' e = some (.dK (dT (sumT D ((inSeq D2).take i))))) ⟨none, rfl, fun b o z _ => z, hS8 _ _ he7⟩ (fun i σ H' _ ⟨_, _, hk, _⟩ => SqL.of (hk _ _ hkp nkpe)) ?_ ?_
  · rintro i y σ H9 hy ⟨v9, rfl, hk9, he9⟩
    obtain ⟨z, hz, rfl⟩ := str_at hy
    have hzm := key_of hz
    have hg9 : H9 g = some (.dK (dT D2)) := hk9 _ _ (hS8 _ _ (hS7 _ _ hg6)) (nee hg6)
    have hgg : DGet H9 g (.str z) (some (.int (getT D2 z))) := by
      rw [← dT_some hzm]
      exact DGet.k (k := Sum.inr z) hg9
    have hget : DGet H9 e (.str z) (valV (dT (sumT D ((inSeq D2).take i))) (Sum.inr z : Key)) := DGet.k (k := Sum.inr z) he9
    refine ⟨_, rfl, e, rfl, .inl ⟨_, .inl he9⟩, _, rfl, _, hget, _, rfl, _, rfl, g, _, rfl, hgg, ?_⟩
    rw [dT_getD]
    have hput : DPut H9 e (.str z) (.int (getT (sumT D ((inSeq D2).take i)) z + getT D2 z)) (upd H9 e (.dK (dT (sumT D ((inSeq D2).take (i + 1)))))) := by
      have := DPut.k (k := Sum.inr z) (v := .int (getT (sumT D ((inSeq D2).take i)) z + getT D2 z)) he9 (by rw [List.length_map]; exact Nat.lt_of_le_of_lt (cnt i) (by decide))
      rw [dT_put (nd_sumT hD.nd)] at this
      rw [take_snoc (inSeq_at hz), sumT_snoc]
      exact this
    exact ⟨_, _, rfl, rfl, _, rfl, _, rfl, e, _, rfl, hput, _, rfl, fun b o q nb => by rw [upd_ne nb]; exact hk9 _ _ q nb, upd_same⟩
  rintro σ H9 ⟨v9, rfl, hk9, he9⟩
  rw [List.length_map, keys_len, show (inSeq D2).take D2.length = inSeq D2 from List.take_of_length_le (by rw [inSeq_len]; exact Nat.le_refl _)] at he9
  have hS69 : Same H6 H9 := fun b o q => hk9 _ _ (hS8 _ _ (hS7 _ _ q)) (nee q)
  have hA9 := hA6.same hS69
  have hB9 := hB6.same hS69
  have hC9 := hC6.same hS69
  have hd9 := hS69 _ _ hd6
  have hg9 := hS69 _ _ hg6
  have hR9 := hR6.same hS69
  generalize eD3 : sumT D (inSeq D2) = D3 at *
  have hD3 : OkD D3 60 1200 := by
    rw [← eD3]
    refine (okd_join hD hD2 (inSeq D2) (fun f hf => (mem_inSeq hD2.nd f).mp hf) (by rw [inSeq_len]; exact hD2.len)).mono ?_ ?_
    · rw [inSeq_len]; have := hD2.len; omega
    · have : 60 * (inSeq D2).length ≤ 60 * 3 := Nat.mul_le_mul (Nat.le_refl _) (by rw [inSeq_len]; exact hD2.len)
      omega
  refine ⟨_, rfl, _, rfl, _, rfl, c, tc, s, e, D3, rfl, hC9, he9, hD3, hs1, hs2, fun HA hSA => ⟨_, rfl, iteF ?_⟩⟩
  have hA := hA9.same hSA
  have hB := hB9.same hSA
  have hC := hC9.same hSA
  have hdA := hSA _ _ hd9
  have hgA := hSA _ _ hg9
  have hRA := hR9.same hSA
  have hM3 := hD3.told
  have hMt3 : ∀ e ∈ told D3, OkT e.1 := fun e he => (hM3.ok e he).1.ok
  refine ⟨_, rfl, _, rfl, _, rfl, x, tm, a, tl, s, told D2, told D, rfl, hB, hA, hs1, hs2, by omega, le2, fun HB c2 tc2 nc2 ntc2 hSB hC2 => ?_⟩
  rw [← told_swap, told_both hD.nd hD2.nd, eD3] at hC2
  have hC3 := hC.same hSB
  obtain ⟨dc, hcI, _⟩ := id hC3
  obtain ⟨dc2, hc2I, _⟩ := id hC2
  refine ⟨c, c2, _, _, _, _, rfl, rfl, hcI, hc2I, c, tc, s, told D3, c2, rfl, hC3, .inl ⟨tc2, s, told D3, hC2, hMt3, hMt3, _, rfl, _, rfl, iteNb (by simp) ?_⟩⟩
  have hAB := hA.same hSB
  have hBB := hB.same hSB
  have hdB := hSB _ _ hdA
  have hgB := hSB _ _ hgA
  have hRB := hRA.same hSB
  -- the pieces of either
  have hE1 : ((told (sumT [] (pcsT s (told D)))).map Prod.fst).Nodup := told_nd (nd_sumT (by simp))
  have hE2 : ((told (sumT [] (pcsT s (told D2)))).map Prod.fst).Nodup := told_nd (nd_sumT (by simp))
  obtain ⟨da, haI, _⟩ := id hAB
  refine ⟨_, rfl, a, da, _, rfl, haI, lf_no _ _ (by decide +kernel) (by decide +kernel), a, tl, s, told D, rfl, hAB, by omega, hMx, hs2, fun HC m nm hSC ⟨us, hm1, hm2⟩ => ⟨m, us, dT _, rfl, SqL.of hm1, ent_paired hm2, fun nr nnr => ?_⟩⟩
  rw [show mergeK [] (dT (told (sumT [] (pcsT s (told D))))) = dT (told (sumT [] (pcsT s (told D)))) from merge_new _ [] hE1]
  have hSD : Same HB (upd HC nr (.dK (dT (told (sumT [] (pcsT s (told D))))))) := fun b o q => same_new nnr _ _ _ (hSC _ _ q)
  have hnr : (upd HC nr (.dK (dT (told (sumT [] (pcsT s (told D))))))) nr = some (.dK (dT (told (sumT [] (pcsT s (told D)))))) := upd_same
  generalize upd HC nr (.dK (dT (told (sumT [] (pcsT s (told D)))))) = HD at hSD hnr
  have hBD := hBB.same hSD
  obtain ⟨dx, hxI, _⟩ := id hBD
  refine ⟨_, rfl, x, dx, _, rfl, hxI, lf_no _ _ (by decide +kernel) (by decide +kernel), x, tm, s, told D2, rfl, hBD, by omega, hMx2, hs2, fun HE m2 nm2 hSE ⟨us2, hm3, hm4⟩ => ⟨m2, us2, dT _, rfl, SqL.of hm3, ent_paired hm4, fun fr nfr => ?_⟩⟩
  rw [show mergeK [] (dT (told (sumT [] (pcsT s (told D2))))) = dT (told (sumT [] (pcsT s (told D2)))) from merge_new _ [] hE2]
  have hSF : Same HD (upd HE fr (.dK (dT (told (sumT [] (pcsT s (told D2))))))) := fun b o q => same_new nfr _ _ _ (hSE _ _ q)
  have hfr : (upd HE fr (.dK (dT (told (sumT [] (pcsT s (told D2))))))) fr = some (.dK (dT (told (sumT [] (pcsT s (told D2)))))) := upd_same
  generalize upd HE fr (.dK (dT (told (sumT [] (pcsT s (told D2)))))) = HF at hSF hfr
  refine ⟨_, _, rfl, ?_⟩
  have hnrF := hSF _ _ hnr
  have hSBF := hSD.trans hSF
  have hCF := hC3.same hSBF
  obtain ⟨dcF, hcF, _⟩ := id hCF
  have hMx3 : ∀ e ∈ told D3, e.1.length ≤ 400 := fun e he => (hMt3 e he).len
  refine ⟨_, rfl, c, dcF, _, rfl, hcF, lf_no _ _ (by decide +kernel) (by decide +kernel), c, tc, s, told D3, rfl, hCF, by have := hM3.len; omega, hMx3, hs2, fun HG m3 nm3 hSG ⟨us3, hm5, hm6⟩ => ?_⟩
  refine ⟨m3, rfl, ⟨_, SqL.of hm5⟩, ?_⟩
  refine for_list (K := K) (a := m3) (xs := us3.map V.ref) (fun i σ H' => H' = HG ∧ ∃ v12 v13 : Option V, σ = [some (.ref p), some (.ref a), some (.int (s : Int)), some (.ref d), some (.ref l), some (.ref x), some (.ref g), some (.ref c), some (.ref e), v9, some (.ref nr), some (.ref fr), v12, v13]) ⟨rfl, none, none, rfl⟩ (fun i σ H' _ ⟨z, _⟩ => by rw [z]; exact SqL.of hm5) ?_ ?_
  · rintro i y σ H' hy ⟨rfl, v12, v13, rfl⟩
    obtain ⟨pt, f, rfl, hf, hpf⟩ := si_at hm6 hy
    have hfm := List.mem_of_getElem? hf
    have hn1 := hSG _ _ hnrF
    have hf1 := hSG _ _ hfr
    have h1 : DGet H' nr (.str f.1) (valV (dT (told (sumT [] (pcsT s (told D))))) (Sum.inr f.1 : Key)) := DGet.k (k := Sum.inr f.1) hn1
    have h2 : DGet H' fr (.str f.1) (valV (dT (told (sumT [] (pcsT s (told D2))))) (Sum.inr f.1 : Key)) := DGet.k (k := Sum.inr f.1) hf1
    refine ⟨pt, _, rfl, SqT.of hpf, rfl, _, _, rfl, _, _, rfl, rfl, ?_⟩
    refine ⟨_, rfl, _, rfl, nr, rfl, .inl ⟨_, .inl hn1⟩, _, rfl, _, h1, _, rfl, fr, rfl, .inl ⟨_, .inl hf1⟩, _, rfl, _, h2, ?_⟩
    rw [dT_getD, dT_getD]
    refine ⟨_, _, rfl, rfl, rfl, _, rfl, iteNot' (int_eq.mpr ?_) ⟨rfl, _, _, rfl⟩⟩
    have e1 : f.2 = getT (told (sumT [] (pcsT s (told D3)))) f.1 := (getT_mem (told_nd (nd_sumT (by simp))) hfm).symm
    rw [e1, getT_pcs, getT_pcs, getT_pcs, ← oft_both, told_both hD.nd hD2.nd, eD3]
  rintro σ H' ⟨rfl, v12, v13, rfl⟩
  have hSBG := hSBF.trans hSG
  have hBG := hBB.same hSBG
  have hAG := hAB.same hSBG
  have hdG := hSBG _ _ hdB
  have hgG := hSBG _ _ hgB
  obtain ⟨ls, hl5, hl6⟩ := hRB.same hSBG
  -- the readings in another sequence
  refine ⟨_, rfl, _, rfl, l, _, rfl, SqL.of hl5, fun r nr2 => ?_⟩
  have hSr : Same H' (upd H' r (.lst (ls.map V.ref).reverse)) := same_new nr2 _
  have hRr : RdAt (upd H' r (.lst (ls.map V.ref).reverse)) r L.reverse := ⟨ls.reverse, by rw [upd_same, List.map_reverse], paired_rev (paired_mono (fun t f ht => hSr _ _ ht) hl6)⟩
  generalize upd H' r (.lst (ls.map V.ref).reverse) = HI at hSr hRr
  intro x2 dx2 nx2 ndx2 ndxx2
  have hSx2 : Same HI (upd (upd HI dx2 (.own x2)) x2 (.ins C dx2 [])) := fun b o e => by
    rw [upd_ne (ne_of_none e nx2), upd_ne (ne_of_none e ndx2)]
    exact e
  refine ⟨x2, dx2, s, r, L.reverse, rfl, hs1, hs2, hRr.same hSx2, by rw [List.length_reverse]; omega, fun e he => (by have := hL e (List.mem_reverse.mp he); exact ⟨this.1.ok, this.2.2.1, this.2.2.2⟩), upd_same, fun HJ tm2 ntm2 hkx2 hX2 => ⟨rfl, ?_⟩⟩
  rw [told_rev, eD2] at hX2
  have hSIJ : Same HI HJ := fun b o e => hkx2 _ _ (hSx2 _ _ e) (ne_of_none e nx2)
  have hSGJ := hSr.trans hSIJ
  have hBJ := hBG.same hSGJ
  have hAJ := hAG.same hSGJ
  obtain ⟨dxJ, hxJ, _⟩ := id hBJ
  obtain ⟨dx2J, hx2J, _⟩ := id hX2
  obtain ⟨daJ, haJ, _⟩ := id hAJ
  refine ⟨_, rfl, x2, x, _, _, _, _, rfl, rfl, hx2J, hxJ, x2, tm2, s, told D2, x, rfl, hX2, .inl ⟨tm, s, told D2, hBJ, hMt2, hMt2, _, rfl, _, rfl, ?_⟩⟩
  rw [show decide (s = s ∧ told D2 = told D2) = true from decide_eq_true ⟨rfl, rfl⟩]
  refine iteT ⟨_, rfl, _, rfl, x, a, _, _, _, _, rfl, rfl, hxJ, haJ, x, tm, s, told D2, a, rfl, hBJ, .inl ⟨tl, s, told D, hAJ, hMt2, hMt, _, rfl, _, rfl, _, rfl, g, d, D2, D, rfl, rfl, hSGJ _ _ hgG, hSGJ _ _ hdG, rfl, ?_⟩⟩
  rw [eqT_told hD2.nd hD.nd, decide_bl (by simp)]
  exact q _
end
end My
namespace My
open PySem L2 PyProof.Rows
/-- with a reading, and without it then -/
theorem back_told {D : List (Str × Int)} {n v : Nat} (h : OkD D n v) (x : Str) (k : Int) (hk : 1 ≤ k) : told (leftT (addT D x k) x k) = told D := by
  have hA := addT_nodup (x := x) (n := k) h.nd
  have hg : getT (addT D x k) x = getT D x + k := by rw [addT_get, if_pos rfl]
  refine told_get (leftT_nd hA) h.nd (fun y => ?_) fun y => ?_
  · unfold leftT
    by_cases c : getT (addT D x k) x - k = 0
    · rw [if_pos c, dropT_keys, addT_mem]
      have hx : x ∉ D.map Prod.fst := fun z => by have := (getT_in h z).2.1; omega
      constructor
      · rintro ⟨a | a, b⟩
        · exact a
        · exact absurd a b
      · intro a
        exact ⟨.inl a, fun z => hx (by rw [← z]; exact a)⟩
    · rw [if_neg c, addT_mem, addT_mem]
      have hx : x ∈ D.map Prod.fst := by
        by_cases q : x ∈ D.map Prod.fst
        · exact q
        · have := getT_none q; omega
      constructor
      · rintro ((a | a) | a)
        · exact a
        · rw [a]; exact hx
        · rw [a]; exact hx
      · intro a
        exact .inl (.inl a)
  · unfold leftT
    by_cases c : getT (addT D x k) x - k = 0
    · rw [if_pos c]
      by_cases e : y = x
      · subst e
        rw [getT_none x_dropT]
        omega
      · rw [dropT_get hA e, addT_get, if_neg e]
    · rw [if_neg c, addT_get]
      by_cases e : y = x
      · rw [if_pos e, hg, e]
        omega
      · rw [if_neg e, addT_get, if_neg e]
section
variable {P : Program} {w : World} {K : PySem.W.Frag} {mg : Str → Option Value} {base : Heap} {C : Addr}
def splaw (K : PySem.W.Frag) (_ : Addr) : Sp := fun vs H Q _ => ∃ a, ∃ ns : List Int, vs = [.ref a] ∧ SqL K H a (ns.map V.int) ∧ ns.length ≤ 63 ∧ ∀ H', Q (.bl true) H'
theorem oklaw (D : Def K mg "law" slaw ["_law_script"]) (B : Bs mg) (Glb : Glo mg) (WK : WebK K mg C)
    (h_law_pot : Good P w K mg base "_law_pot" s_law_pot ["_law_script", "_law_k"] 1 (sp_law_pot K C))
    (h_law_readings : Good P w K mg base "_law_readings" s_law_readings ["_law_pot_here", "_law_many"] 4 (sp_law_readings K C))
    (h_law_both_right : Good P w K mg base "_law_both_right" s_law_both_right ["_law_pot_here", "_law_lot", "_law_size", "_law_told"] 10 (sp_law_both_right K C))
    (h_law_draw : Good P w K mg base "_law_draw" s_law_draw ["_law_pot_here", "_law_size"] 1 (sp_law_draw K C))
    (h_law_times : Good P w K mg base "_law_times" s_law_times ["_law_readings_here"] 1 (sp_law_times K C))
    (h_law_deed : Good P w K mg base "_law_deed" s_law_deed ["_law_pot_here", "_law_lot", "_law_told"] 10 (sp_law_deed K C))
    (h_law_text : Good P w K mg base "_law_text" s_law_text ["_law_pot_here", "_law_most"] 3 (sp_law_text K C))
    (h_law_shows : Good P w K mg base "_law_shows" s_law_shows ["_law_lot", "_law_size", "_law_told"] 7 (sp_law_shows K C))
    (hwithout_reading : Good P w K mg base "without_reading" swithout_reading ["lot", "text", "times"] 8 (spwithout_reading K C))
    (hwith_reading : Good P w K mg base "with_reading" swith_reading ["lot", "text", "times"] 9 (spwith_reading K C))
    (hLot___eq__ : GoodM P w K mg base C "__eq__" "Lot.__eq__" sLot___eq__ ["self", "other"] 1 (spLot___eq__ K C))
    (hLot___init__ : GoodI P w K mg base C "__init__" "Lot.__init__" sLot___init__ ["self", "size", "readings"] 5 (spLot___init__ K C))
    (hLot_readings : GoodM P w K mg base C "readings" "Lot.readings" sLot_readings ["self"] 1 (spLot_readings K C)) :
    Good P w K mg base "law" slaw ["_law_script"] 11 (splaw K C) := by
  refine D.good fun f fd F => ?_
  obtain ⟨f_law_pot, d_law_pot, O_law_pot, m_law_pot, k_law_pot, b_law_pot, F_law_pot⟩ := h_law_pot
  obtain ⟨f_law_readings, d_law_readings, O_law_readings, m_law_readings, k_law_readings, b_law_readings, F_law_readings⟩ := h_law_readings
  obtain ⟨f_law_both_right, d_law_both_right, O_law_both_right, m_law_both_right, k_law_both_right, b_law_both_right, F_law_both_right⟩ := h_law_both_right
  obtain ⟨f_law_draw, d_law_draw, O_law_draw, m_law_draw, k_law_draw, b_law_draw, F_law_draw⟩ := h_law_draw
  obtain ⟨f_law_times, d_law_times, O_law_times, m_law_times, k_law_times, b_law_times, F_law_times⟩ := h_law_times
  obtain ⟨f_law_deed, d_law_deed, O_law_deed, m_law_deed, k_law_deed, b_law_deed, F_law_deed⟩ := h_law_deed
  obtain ⟨f_law_text, d_law_text, O_law_text, m_law_text, k_law_text, b_law_text, F_law_text⟩ := h_law_text
  obtain ⟨f_law_shows, d_law_shows, O_law_shows, m_law_shows, k_law_shows, b_law_shows, F_law_shows⟩ := h_law_shows
  obtain ⟨fwithout_reading, dwithout_reading, Owithout_reading, mwithout_reading, kwithout_reading, bwithout_reading, Fwithout_reading⟩ := hwithout_reading
  obtain ⟨fwith_reading, dwith_reading, Owith_reading, mwith_reading, kwith_reading, bwith_reading, Fwith_reading⟩ := hwith_reading
  obtain ⟨fLot___eq__, dLot___eq__, OLot___eq__, tLot___eq__, bLot___eq__, FLot___eq__⟩ := hLot___eq__
  obtain ⟨fLot___init__, dLot___init__, OLot___init__, MK, bLot___init__⟩ := hLot___init__
  obtain ⟨fLot_readings, dLot_readings, OLot_readings, tLot_readings, bLot_readings, FLot_readings⟩ := hLot_readings
  refine F.ok sclaw (fun vs H Q E h => ?_) (fun cdv A outer s H vs Q E hr h => ?_)
  · obtain ⟨sa, ns, rfl, hs0, h63, q⟩ := h
    first | rfl | (rcases h with ⟨_, _, rfl, _⟩ | ⟨_, rfl, _⟩ <;> rfl)
  obtain ⟨sa, ns, rfl, hs0, h63, q⟩ := h
  refine ⟨_, (pss_cons (ps_set (i := 1) sclaw.nd rfl (by first | exact Or.inl rfl | exact Or.inr rfl) (pe_call O_law_pot (hr.mono (by decide)) rfl m_law_pot k_law_pot b_law_pot .nil pass0 (pa_cons (pv 0) (pa_cons pe_int pa_nil))))
  (pss_cons (ps_set (i := 2) sclaw.nd rfl (by first | exact Or.inl rfl | exact Or.inr rfl) (pe_op op_add pe_int (pe_call O_law_draw (hr.mono (by decide)) rfl m_law_draw k_law_draw b_law_draw .nil pass0 (pa_cons (pv 1) (pa_cons pe_int pa_nil)))))
  (pss_cons (ps_set (i := 3) sclaw.nd rfl (by first | exact Or.inl rfl | exact Or.inr rfl) (pe_call O_law_readings (hr.mono (by decide)) rfl m_law_readings k_law_readings b_law_readings .nil pass0 (pa_cons (pv 1) (pa_cons (pe_call O_law_draw (hr.mono (by decide)) rfl m_law_draw k_law_draw b_law_draw .nil pass0 (pa_cons (pv 1) (pa_cons pe_int pa_nil))) pa_nil))))
  (pss_cons (ps_par (i := 4) (j := 5) (by rfl) sclaw.nd rfl rfl (by decide) rfl rfl (pa_cons (pe_make MK OLot___init__ (hr.mono (by decide)) rfl WK.mgC bLot___init__ .nil pass0 (pa_cons (pv 2) (pa_cons (pv 3) pa_nil))) (pa_cons (pe_call O_law_times (hr.mono (by decide)) rfl m_law_times k_law_times b_law_times .nil pass0 (pa_cons (pv 3) pa_nil)) pa_nil)) (by rfl))
  (pss_cons (ps_if (PW.pt (pw_or (pt_not (pt_val (pe_call O_law_shows (hr.mono (by decide)) rfl m_law_shows k_law_shows b_law_shows .nil pass0 (pa_cons (pv 4) (pa_cons (pv 2) (pa_cons (pv 5) pa_nil)))))) (pw_or (pt_cmpR (op_eqDict OLot___eq__ (hr.mono (by decide)) tLot___eq__.at_ tLot___eq__.fn WK.nd bLot___eq__ pass0) (pv 4) (pv 5) (nomark _)) (pw_or1 (pt_cmpR (op_eqOwn OLot___eq__ (hr.mono (by decide)) tLot___eq__.at_ tLot___eq__.fn bLot___eq__ pass0) (pv 4) (pe_make MK OLot___init__ (hr.mono (by decide)) rfl WK.mgC bLot___init__ .nil pass0 (pa_cons (pe_op op_add (pv 2) pe_int) (pa_cons (pv 3) pa_nil))) (nomark _))))))
    (pss_one (ps_ret pe_bl)) pss_nil)
  (pss_cons (ps_for PassesOwn.never rfl (pi_range1 (by rfl) B.range (pa_cons pe_int pa_nil)) (pg_name (i := 6) sclaw.nd rfl (by first | exact Or.inl rfl | exact Or.inr rfl))
    (pss_cons (ps_par (i := 7) (j := 8) (by rfl) sclaw.nd rfl rfl (by decide) rfl rfl (pa_cons (pv 4) (pa_cons (pe_meth0 (pv 4) WK.cl tLot_readings OLot_readings (hr.mono (by decide)) bLot_readings .nil pass0) pa_nil)) (by rfl))
  (pss_cons (ps_asg (pe_call O_law_deed hr rfl m_law_deed k_law_deed b_law_deed .nil pass0 (pa_cons (pv 1) (pa_cons (pv 7) (pa_cons (pv 5) pa_nil)))) (pg_tup rfl (pgs_cons (pg_name (i := 4) sclaw.nd rfl (by first | exact Or.inl rfl | exact Or.inr rfl)) (pgs_cons (pg_name (i := 9) sclaw.nd rfl (by first | exact Or.inl rfl | exact Or.inr rfl)) pgs_nil))))
  (pss_cons (ps_if (PW.pt (pw_or (pt_not (pt_val (pe_call O_law_shows (hr.mono (by decide)) rfl m_law_shows k_law_shows b_law_shows .nil pass0 (pa_cons (pv 4) (pa_cons (pv 2) (pa_cons (pv 9) pa_nil)))))) (pw_or1 (pt_cmpR (op_neD hr.units) (pe_meth0 (pv 7) WK.cl tLot_readings OLot_readings (hr.mono (by decide)) bLot_readings .nil pass0) (pv 8) (nomark _)))))
    (pss_one (ps_ret pe_bl)) pss_nil)
  (pss_cons (ps_set (i := 10) sclaw.nd rfl (by first | exact Or.inl rfl | exact Or.inr rfl) (pe_call O_law_text (hr.mono (by decide)) rfl m_law_text k_law_text b_law_text .nil pass0 (pa_cons (pv 1) (pa_cons pe_int pa_nil))))
  (pss_cons (ps_if (pt_cmpR (op_neOwn OLot___eq__ (hr.mono (by decide)) WK.i4 WK.ne tLot___eq__.at_ tLot___eq__.fn bLot___eq__ pass0) (pe_call Owithout_reading (hr.mono (by decide)) rfl mwithout_reading kwithout_reading bwithout_reading .nil pass0 (pa_cons (pe_call Owith_reading (hr.mono (by decide)) rfl mwith_reading kwith_reading bwith_reading .nil pass0 (pa_cons (pv 4) (pa_cons (pv 10) (pa_cons pe_int pa_nil)))) (pa_cons (pv 10) (pa_cons pe_int pa_nil)))) (pv 4) (nomark _))
    (pss_one (ps_ret pe_bl)) pss_nil)
  (pss_one (ps_set (i := 5) sclaw.nd rfl (by first | exact Or.inl rfl | exact Or.inr rfl) (pv 9)))))))))
  (pss_one (ps_ret (pe_call O_law_both_right hr rfl m_law_both_right k_law_both_right b_law_both_right .nil pass0 (pa_cons (pv 1) (pa_cons (pv 4) (pa_cons (pv 2) (pa_cons (pv 5) pa_nil))))))))))))), ?_⟩
  refine ⟨_, rfl, sa, ns, rfl, hs0, fun p H1 hp1 hS1 np => ?_⟩
  refine ⟨_, rfl, p, 3, rfl, hp1, by decide, by decide, fun sd H2 hsd hk2 hp2 => ⟨_, _, rfl, rfl, ?_⟩⟩
  refine ⟨_, rfl, _, rfl, p, 5, rfl, hp2, by decide, by decide, fun k H3 hkl hk3 hp3 => ⟨p, k, rfl, hp3, by omega, fun l L H4 hlen hL hk4 hp4 nl hR => ?_⟩⟩
  have nlp : l ≠ p := hp3.ne nl
  have hs1 : 2 ≤ 2 + sd := by omega
  have hs2 : 2 + sd ≤ 7 := by omega
  -- the lot and its dict
  refine ⟨_, rfl, _, rfl, ?_⟩
  intro x dy nx ndy ndyx
  have hSx : Same H4 (upd (upd H4 dy (.own x)) x (.ins C dy [])) := fun b o e => by
    rw [upd_ne (ne_of_none e nx), upd_ne (ne_of_none e ndy)]
    exact e
  have okL : ∀ e ∈ L, OkT e.1 ∧ 1 ≤ e.2 ∧ e.2 ≤ 20 := fun e he => ⟨(hL e he).1.ok, (hL e he).2.2.1, (hL e he).2.2.2⟩
  refine ⟨x, dy, 2 + sd, l, L, rfl, hs1, by omega, hR.same hSx, by omega, okL, upd_same, fun H5 tm ntm hkx hB5 => ⟨rfl, ?_⟩⟩
  have hS45 : Same H4 H5 := fun b o e => hkx _ _ (hSx _ _ e) (ne_of_none e nx)
  have ntp : tm ≠ p := (hp4.same hSx).ne ntm
  refine ⟨_, rfl, l, L, rfl, hR.same hS45, by omega, fun H6 g hS6 ng hg6 => ⟨_, _, rfl, ?_⟩⟩
  have hB6 := hB5.same hS6
  have hR6 := (hR.same hS45).same hS6
  have hp6 := (hp4.same hS45).same hS6
  have hD0 : OkD (sumT [] L) 4 80 := (okd_sum L hL okd_nil).mono (by omega) (by omega)
  generalize eD : sumT [] L = D at *
  -- shown right, no dict, no lot of another size
  refine ⟨_, rfl, _, rfl, _, rfl, x, tm, 2 + sd, g, D, rfl, hB6, hg6, hD0.mono (by decide) (by decide), hs1, by omega, fun H7 hS7 => ⟨_, rfl, iteF ?_⟩⟩
  have hB7 := hB6.same hS7
  have hg7 := hS7 _ _ hg6
  have hR7 := hR6.same hS7
  have hp7 := hp6.same hS7
  have hM0 : ∀ e ∈ told D, OkT e.1 := fun e he => (hD0.told.ok e he).1.ok
  obtain ⟨dx7, hx7, _⟩ := id hB7
  refine ⟨_, rfl, _, rfl, x, g, dx7, _, _, rfl, rfl, hx7, hg7, x, tm, 2 + sd, told D, g, rfl, hB7, .inr ⟨_, hg7, _, rfl, _, rfl, iteF ?_⟩⟩
  refine ⟨_, rfl, _, rfl, _, _, rfl, rfl, _, rfl, ?_⟩
  intro x2 dx2 nx2 ndx2 ndxx2
  have hSx2 : Same H7 (upd (upd H7 dx2 (.own x2)) x2 (.ins C dx2 [])) := fun b o e => by
    rw [upd_ne (ne_of_none e nx2), upd_ne (ne_of_none e ndx2)]
    exact e
  refine ⟨x2, dx2, 2 + sd + 1, l, L, rfl, by omega, by omega, hR7.same hSx2, by omega, okL, upd_same, fun H8 tm2 ntm2 hkx2 hX8 => ⟨rfl, ?_⟩⟩
  rw [eD] at hX8
  have hS78 : Same H7 H8 := fun b o e => hkx2 _ _ (hSx2 _ _ e) (ne_of_none e nx2)
  have hB8 := hB7.same hS78
  have hg8 := hS78 _ _ hg7
  have hp8 := hp7.same hS78
  obtain ⟨dx8, hx8, _⟩ := id hB8
  obtain ⟨dx28, hx28, _⟩ := id hX8
  refine ⟨x, x2, _, _, _, _, rfl, rfl, hx8, hx28, x, tm, 2 + sd, told D, x2, rfl, hB8, .inl ⟨tm2, 2 + sd + 1, told D, hX8, hM0, hM0, _, rfl, _, rfl, ?_⟩⟩
  rw [show decide (2 + sd = 2 + sd + 1 ∧ told D = told D) = false from decide_eq_false fun z => by have := z.1; omega]
  refine iteF ⟨10, rfl, by decide, by decide, ?_⟩
  refine for_range (lo := 0) (n := 10) (fun i σ H' => ∃ (a tl d : Addr) (D : List (Str × Int)) (v6 v7 v8 v9 v10 : Option V), σ = [some (.ref sa), some (.ref p), some (.int ((2 + sd : Nat) : Int)), some (.ref l), some (.ref a), some (.ref d), v6, v7, v8, v9, v10] ∧ PotAt H' p ∧ LotAt C a tl (2 + sd) (told D) H' ∧ tl ≠ p ∧ H' d = some (.dK (dT D)) ∧ OkD D (4 + i) (80 + 20 * i)) ?_ ?_ ?_
  · exact ⟨x, tm, g, D, none, none, none, none, none, rfl, hp8, hB8, ntp, hg8, hD0⟩
  · rintro i σ H9 hi ⟨a, tl, d, D, v6, v7, v8, v9, v10, rfl, hp9, hA9, htl, hd9, hD⟩
    obtain ⟨dx9, hx9, _⟩ := id hA9
    have hMt : ∀ e ∈ told D, OkT e.1 := fun e he => (hD.told.ok e he).1.ok
    refine ⟨_, rfl, _, rfl, a, dx9, _, rfl, hx9, lf_no _ _ (by decide +kernel) (by decide +kernel), a, tl, 2 + sd, told D, rfl, hA9, fun HA m nm hSA hm => ⟨_, _, rfl, ?_⟩⟩
    have nmp : m ≠ p := hp9.ne nm
    have hAA := hA9.same hSA
    have hpA := hp9.same hSA
    refine ⟨_, rfl, _, rfl, _, rfl, p, a, tl, 2 + sd, d, D, 4 + i, 80 + 20 * i, rfl, hpA, hAA, htl, hSA _ _ hd9, hD, by omega, by omega, hs1, by omega, fun t b tb d' D' HB ht hb htb hd' hD' hkB hpB => ?_⟩
    have hAB := hAA.kept hkB hpA htl
    have hmB := hm.kept hkB hpA nmp
    have hMt' : ∀ e ∈ told D', OkT e.1 := fun e he => (hD'.told.ok e he).1.ok
    refine ⟨t, _, rfl, SqT.of ht, rfl, _, _, rfl, _, _, rfl, rfl, ?_⟩
    refine ⟨_, rfl, _, rfl, _, rfl, b, tb, 2 + sd, d', D', rfl, hb, hd', hD'.mono (by omega) (by omega), hs1, by omega, fun HC hSC => ⟨_, rfl, iteF ?_⟩⟩
    have hAC := hAB.same hSC
    have hbC := hb.same hSC
    have hmC := hmB.same hSC
    have hpC := hpB.same hSC
    have hdC := hSC _ _ hd'
    obtain ⟨dxC, hxC, _⟩ := id hAC
    refine ⟨_, rfl, a, dxC, _, rfl, hxC, lf_no _ _ (by decide +kernel) (by decide +kernel), a, tl, 2 + sd, told D, rfl, hAC, fun HD m2 nm2 hSD hm2 => ?_⟩
    refine ⟨_, rfl, _, _, dp_rd hm2, dp_rd (hmC.same hSD), shaped_si hMt, shaped_si hMt, _, rfl, iteNb (by rw [eqv_si]; exact decide_eq_true rfl) ?_⟩
    have hbD := hbC.same hSD
    have hpD := hpC.same hSD
    have hdD := hSD _ _ hdC
    refine ⟨_, rfl, p, 4, rfl, hpD, by decide, fun y HE hy hy4 hkE hpE => ?_⟩
    have hbE := hbD.kept hkE hpD htb
    have hdE : HE d' = some (.dK (dT D')) := hkE _ _ hdD (hpD.ndk hdD)
    have hl' := hD'.told.len
    have hadd : OkD (addT D' y 3) (4 + i + 1 + 1) (80 + 20 * i + 20 + 3) := hD'.add hy (by decide) (by decide)
    refine ⟨_, rfl, _, rfl, b, tb, 2 + sd, told D', y, 3, rfl, hbE, hs1, by omega, hy.ok, by decide, by decide, by omega, fun f hf => ?_, fun HF c tc nc ntc hSF hC => ?_⟩
    · rw [sumT_snoc, sumT_own hD'.told.nd] at hf
      have := ((hD'.told.add hy (k := 3) (m := 3) (by decide) (by decide)).ok f hf).2.2
      omega
    rw [told_add hD'.nd] at hC
    have hga : getT (addT D' y 3) y = getT D' y + 3 := by rw [addT_get, if_pos rfl]
    have hg0 : 0 ≤ getT D' y := by
      by_cases z : y ∈ D'.map Prod.fst
      · have := (getT_in hD' z).2.1; omega
      · rw [getT_none z]; exact Int.le_refl 0
    have hya : y ∈ (addT D' y 3).map Prod.fst := addT_mem.mpr (.inr rfl)
    refine ⟨_, rfl, c, tc, 2 + sd, told (addT D' y 3), y, 3, rfl, hC, hs1, by omega, hy.ok, by decide, by decide, told_nd hadd.nd, by have := hadd.told.len; omega, by rw [getT_told hadd.nd, hga]; omega, fun f hf => (by have := lessT_le hadd.told (by decide : (1 : Int) ≤ 3) f hf; omega), fun HG u tu nu ntu hSG hU => ?_⟩
    rw [told_left hadd.nd hya (by rw [hga]; omega), back_told hD' y 3 (by decide)] at hU
    have hbG := (hbE.same hSF).same hSG
    obtain ⟨dxu, hxu, _⟩ := id hU
    obtain ⟨dxb, hxb, _⟩ := id hbG
    refine ⟨_, rfl, u, b, _, _, _, _, rfl, rfl, hxu, hxb, u, tu, 2 + sd, told D', b, rfl, hU, .inl ⟨tb, 2 + sd, told D', hbG, hMt', hMt', _, rfl, _, rfl, iteNb (by simp) ?_⟩⟩
    exact ⟨_, rfl, b, tb, d', D', _, _, _, _, _, rfl, (hpE.same hSF).same hSG, hbG, htb, hSG _ _ (hSF _ _ hdE), hD'.mono (by omega) (by omega)⟩
  · rintro σ H9 ⟨a, tl, d, D, v6, v7, v8, v9, v10, rfl, hp9, hA9, htl, hd9, hD⟩
    exact ⟨_, rfl, _, rfl, _, rfl, _, rfl, p, a, tl, 2 + sd, d, D, 14, 280, rfl, hp9, hA9, htl, hd9, hD, by decide, by decide, hs1, by omega, q⟩
end
end My
namespace My
open PySem L2 PyProof.Rows
/-! ### the end -/
theorem kit_no {K : PySem.W.Frag} {C : Addr} (h1 : PySem.W.isClsIn K C = true) (h2 : PySem.W.typeIn K (.ref C) = some (.type "type")) (h3 : PySem.W.subIn K (.type "dict") (.ref C) = some false) : PySem.W.kitOne K (.type "dict") (.ref C) = some false := by
  unfold PySem.W.kitOne
  rw [if_neg (by simp)]
  show (if ((PySem.W.clsIn K C).isSome && PySem.W.typeIn K (.ref C) == some (.type "type")) = true then PySem.W.subIn K (.type "dict") (.ref C) else none) = some false
  have h1' : (PySem.W.clsIn K C).isSome = true := h1
  rw [h1', h2, if_pos (by simp)]
  exact h3
theorem fd_is {K : PySem.W.Frag} {x : Str} {st : Stmt} {f : Addr} {fd fe : FuncData} {oc : Value} {od : Option Addr} {sl : Array (Option Value)} (F : Fun K x x st f fd) (l : K.lookup f = some ⟨oc, od, .func fe, sl⟩) : fd = fe := by
  obtain ⟨oc2, od2, kV, doc, pm, an, cdv, ct, osl, e, lk, c⟩ := F.ex
  rw [lk] at l
  have := Option.some.inj l
  injection this with _ _ h3 _
  injection h3
set_option maxHeartbeats 4000000 in
theorem all_mk {l : PySem.W.OpenLaw} {w : World} {K : PySem.W.Frag} {h : Heap} {mg : Str → Option Value} {fa C : Addr} (X : K.In h) (G : h.Ns mainGlobals mg) (hfa : mg "law" = some (.ref fa))
    {fM0 : Addr} {odM0 anM0 : Option Addr} {slM0 : Array (Option Value)} {ocM0 kVM0 dcM0 pmM0 cdM0 ctM0 : Value} {fM1 : Addr} {odM1 anM1 : Option Addr} {slM1 : Array (Option Value)} {ocM1 kVM1 dcM1 pmM1 cdM1 ctM1 : Value} {fM2 : Addr} {odM2 anM2 : Option Addr} {slM2 : Array (Option Value)} {ocM2 kVM2 dcM2 pmM2 cdM2 ctM2 : Value} {pM2 : Addr} {rsM2 : List Value} {fM3 : Addr} {odM3 anM3 : Option Addr} {slM3 : Array (Option Value)} {ocM3 kVM3 dcM3 pmM3 cdM3 ctM3 : Value} {fM4 : Addr} {odM4 anM4 : Option Addr} {slM4 : Array (Option Value)} {ocM4 kVM4 dcM4 pmM4 cdM4 ctM4 : Value} {fM5 : Addr} {odM5 anM5 : Option Addr} {slM5 : Array (Option Value)} {ocM5 kVM5 dcM5 pmM5 cdM5 ctM5 : Value} {fM6 : Addr} {odM6 anM6 : Option Addr} {slM6 : Array (Option Value)} {ocM6 kVM6 dcM6 pmM6 cdM6 ctM6 : Value} {f0 : Addr} {od0 an0 : Option Addr} {sl0 : Array (Option Value)} {oc0 kV0 dc0 pm0 cd0 ct0 : Value} {f1 : Addr} {od1 an1 : Option Addr} {sl1 : Array (Option Value)} {oc1 kV1 dc1 pm1 cd1 ct1 : Value} {f2 : Addr} {od2 an2 : Option Addr} {sl2 : Array (Option Value)} {oc2 kV2 dc2 pm2 cd2 ct2 : Value} {f3 : Addr} {od3 an3 : Option Addr} {sl3 : Array (Option Value)} {oc3 kV3 dc3 pm3 cd3 ct3 : Value} {f4 : Addr} {od4 an4 : Option Addr} {sl4 : Array (Option Value)} {oc4 kV4 dc4 pm4 cd4 ct4 : Value} {f5 : Addr} {od5 an5 : Option Addr} {sl5 : Array (Option Value)} {oc5 kV5 dc5 pm5 cd5 ct5 : Value} {f6 : Addr} {od6 an6 : Option Addr} {sl6 : Array (Option Value)} {oc6 kV6 dc6 pm6 cd6 ct6 : Value} {f7 : Addr} {od7 an7 : Option Addr} {sl7 : Array (Option Value)} {oc7 kV7 dc7 pm7 cd7 ct7 : Value} {f8 : Addr} {od8 an8 : Option Addr} {sl8 : Array (Option Value)} {oc8 kV8 dc8 pm8 cd8 ct8 : Value} {f9 : Addr} {od9 an9 : Option Addr} {sl9 : Array (Option Value)} {oc9 kV9 dc9 pm9 cd9 ct9 : Value} {f10 : Addr} {od10 an10 : Option Addr} {sl10 : Array (Option Value)} {oc10 kV10 dc10 pm10 cd10 ct10 : Value} {f11 : Addr} {od11 an11 : Option Addr} {sl11 : Array (Option Value)} {oc11 kV11 dc11 pm11 cd11 ct11 : Value} {f12 : Addr} {od12 an12 : Option Addr} {sl12 : Array (Option Value)} {oc12 kV12 dc12 pm12 cd12 ct12 : Value} {f13 : Addr} {od13 an13 : Option Addr} {sl13 : Array (Option Value)} {oc13 kV13 dc13 pm13 cd13 ct13 : Value} {f14 : Addr} {od14 an14 : Option Addr} {sl14 : Array (Option Value)} {oc14 kV14 dc14 pm14 cd14 ct14 : Value} {f15 : Addr} {od15 an15 : Option Addr} {sl15 : Array (Option Value)} {oc15 kV15 dc15 pm15 cd15 ct15 : Value} {f16 : Addr} {od16 an16 : Option Addr} {sl16 : Array (Option Value)} {oc16 kV16 dc16 pm16 cd16 ct16 : Value} {f17 : Addr} {od17 an17 : Option Addr} {sl17 : Array (Option Value)} {oc17 kV17 dc17 pm17 cd17 ct17 : Value} {f18 : Addr} {od18 an18 : Option Addr} {sl18 : Array (Option Value)} {oc18 kV18 dc18 pm18 cd18 ct18 : Value} {f19 : Addr} {od19 an19 : Option Addr} {sl19 : Array (Option Value)} {oc19 kV19 dc19 pm19 cd19 ct19 : Value} {f20 : Addr} {od20 an20 : Option Addr} {sl20 : Array (Option Value)} {oc20 kV20 dc20 pm20 cd20 ct20 : Value} {f21 : Addr} {od21 an21 : Option Addr} {sl21 : Array (Option Value)} {oc21 kV21 dc21 pm21 cd21 ct21 : Value} {f22 : Addr} {od22 an22 : Option Addr} {sl22 : Array (Option Value)} {oc22 kV22 dc22 pm22 cd22 ct22 : Value} {f23 : Addr} {od23 an23 : Option Addr} {sl23 : Array (Option Value)} {oc23 kV23 dc23 pm23 cd23 ct23 : Value} {f24 : Addr} {od24 an24 : Option Addr} {sl24 : Array (Option Value)} {oc24 kV24 dc24 pm24 cd24 ct24 : Value} {f25 : Addr} {od25 an25 : Option Addr} {sl25 : Array (Option Value)} {oc25 kV25 dc25 pm25 cd25 ct25 : Value} {f26 : Addr} {od26 an26 : Option Addr} {sl26 : Array (Option Value)} {oc26 kV26 dc26 pm26 cd26 ct26 : Value} {f27 : Addr} {od27 an27 : Option Addr} {sl27 : Array (Option Value)} {oc27 kV27 dc27 pm27 cd27 ct27 : Value} {f28 : Addr} {od28 an28 : Option Addr} {sl28 : Array (Option Value)} {oc28 kV28 dc28 pm28 cd28 ct28 : Value} {f29 : Addr} {od29 an29 : Option Addr} {sl29 : Array (Option Value)} {oc29 kV29 dc29 pm29 cd29 ct29 : Value} {f30 : Addr} {od30 an30 : Option Addr} {sl30 : Array (Option Value)} {oc30 kV30 dc30 pm30 cd30 ct30 : Value} {f31 : Addr} {od31 an31 : Option Addr} {sl31 : Array (Option Value)} {oc31 kV31 dc31 pm31 cd31 ct31 : Value} {f32 : Addr} {od32 an32 : Option Addr} {sl32 : Array (Option Value)} {oc32 kV32 dc32 pm32 cd32 ct32 : Value} {f33 : Addr} {od33 an33 : Option Addr} {sl33 : Array (Option Value)} {oc33 kV33 dc33 pm33 cd33 ct33 : Value} {t0 : Tok} {t1 : Tok} {t2 : Tok}
    (aC : PySem.W.nsIn K mainGlobals "Lot" = some (some (.ref C)))
    (aM0 : PySem.W.findIn K (.ref C) "__init__" = some (some (.ref fM0))) (iM0 : PySem.W.isFn K (.ref fM0) = true) (lM0 : K.lookup fM0 = some ⟨ocM0, odM0, .func (PySem.W.fnOf "__init__" "Lot.__init__" (defArgs sLot___init__) (defBody sLot___init__) (defScope sLot___init__) .none kVM0 dcM0 pmM0 anM0 cdM0 ctM0), slM0⟩) (cM0 : PySem.W.codeIn K cdM0 "Lot.__init__" = true) (kM0 : PySem.W.keepIn K (.ref fM0) = true)
    (aM1 : PySem.W.findIn K (.ref C) "__eq__" = some (some (.ref fM1))) (iM1 : PySem.W.isFn K (.ref fM1) = true) (lM1 : K.lookup fM1 = some ⟨ocM1, odM1, .func (PySem.W.fnOf "__eq__" "Lot.__eq__" (defArgs sLot___eq__) (defBody sLot___eq__) (defScope sLot___eq__) .none kVM1 dcM1 pmM1 anM1 cdM1 ctM1), slM1⟩) (cM1 : PySem.W.codeIn K cdM1 "Lot.__eq__" = true) (kM1 : PySem.W.keepIn K (.ref fM1) = true)
    (aM2 : PySem.W.findIn K (.ref C) "size" = some (some (.ref pM2))) (gM2 : PySem.W.specialIn K (.ref pM2) "__get__" = some (some (.builtin "property.__get__"))) (tM2 : PySem.W.takesIn K (.ref pM2) = some true) (rM2 : PySem.W.recIn K pM2 "property" = some (.ref fM2 :: rsM2)) (lM2 : K.lookup fM2 = some ⟨ocM2, odM2, .func (PySem.W.fnOf "size" "Lot.size" (defArgs sLot_size) (defBody sLot_size) (defScope sLot_size) .none kVM2 dcM2 pmM2 anM2 cdM2 ctM2), slM2⟩) (cM2 : PySem.W.codeIn K cdM2 "Lot.size" = true) (kM2 : PySem.W.keepIn K (.ref fM2) = true)
    (aM3 : PySem.W.findIn K (.ref C) "readings" = some (some (.ref fM3))) (iM3 : PySem.W.isFn K (.ref fM3) = true) (lM3 : K.lookup fM3 = some ⟨ocM3, odM3, .func (PySem.W.fnOf "readings" "Lot.readings" (defArgs sLot_readings) (defBody sLot_readings) (defScope sLot_readings) .none kVM3 dcM3 pmM3 anM3 cdM3 ctM3), slM3⟩) (cM3 : PySem.W.codeIn K cdM3 "Lot.readings" = true) (kM3 : PySem.W.keepIn K (.ref fM3) = true)
    (aM4 : PySem.W.findIn K (.ref C) "times_of" = some (some (.ref fM4))) (iM4 : PySem.W.isFn K (.ref fM4) = true) (lM4 : K.lookup fM4 = some ⟨ocM4, odM4, .func (PySem.W.fnOf "times_of" "Lot.times_of" (defArgs sLot_times_of) (defBody sLot_times_of) (defScope sLot_times_of) .none kVM4 dcM4 pmM4 anM4 cdM4 ctM4), slM4⟩) (cM4 : PySem.W.codeIn K cdM4 "Lot.times_of" = true) (kM4 : PySem.W.keepIn K (.ref fM4) = true)
    (aM5 : PySem.W.findIn K (.ref C) "pieces" = some (some (.ref fM5))) (iM5 : PySem.W.isFn K (.ref fM5) = true) (lM5 : K.lookup fM5 = some ⟨ocM5, odM5, .func (PySem.W.fnOf "pieces" "Lot.pieces" (defArgs sLot_pieces) (defBody sLot_pieces) (defScope sLot_pieces) .none kVM5 dcM5 pmM5 anM5 cdM5 ctM5), slM5⟩) (cM5 : PySem.W.codeIn K cdM5 "Lot.pieces" = true) (kM5 : PySem.W.keepIn K (.ref fM5) = true)
    (aM6 : PySem.W.findIn K (.ref C) "solid" = some (some (.ref fM6))) (iM6 : PySem.W.isFn K (.ref fM6) = true) (lM6 : K.lookup fM6 = some ⟨ocM6, odM6, .func (PySem.W.fnOf "solid" "Lot.solid" (defArgs sLot_solid) (defBody sLot_solid) (defScope sLot_solid) .none kVM6 dcM6 pmM6 anM6 cdM6 ctM6), slM6⟩) (cM6 : PySem.W.codeIn K cdM6 "Lot.solid" = true) (kM6 : PySem.W.keepIn K (.ref fM6) = true)
    (a0 : PySem.W.nsIn K mainGlobals "is_integer" = some (some (.ref f0))) (l0 : K.lookup f0 = some ⟨oc0, od0, .func (PySem.W.fnOf "is_integer" "is_integer" (defArgs sis_integer) (defBody sis_integer) (defScope sis_integer) .none kV0 dc0 pm0 an0 cd0 ct0), sl0⟩) (c0 : PySem.W.codeIn K cd0 "is_integer" = true) (k0 : PySem.W.keepIn K (.ref f0) = true)
    (a1 : PySem.W.nsIn K mainGlobals "is_count" = some (some (.ref f1))) (l1 : K.lookup f1 = some ⟨oc1, od1, .func (PySem.W.fnOf "is_count" "is_count" (defArgs sis_count) (defBody sis_count) (defScope sis_count) .none kV1 dc1 pm1 an1 cd1 ct1), sl1⟩) (c1 : PySem.W.codeIn K cd1 "is_count" = true) (k1 : PySem.W.keepIn K (.ref f1) = true)
    (a2 : PySem.W.nsIn K mainGlobals "is_between" = some (some (.ref f2))) (l2 : K.lookup f2 = some ⟨oc2, od2, .func (PySem.W.fnOf "is_between" "is_between" (defArgs sis_between) (defBody sis_between) (defScope sis_between) .none kV2 dc2 pm2 an2 cd2 ct2), sl2⟩) (c2 : PySem.W.codeIn K cd2 "is_between" = true) (k2 : PySem.W.keepIn K (.ref f2) = true)
    (a3 : PySem.W.nsIn K mainGlobals "is_size" = some (some (.ref f3))) (l3 : K.lookup f3 = some ⟨oc3, od3, .func (PySem.W.fnOf "is_size" "is_size" (defArgs sis_size) (defBody sis_size) (defScope sis_size) .none kV3 dc3 pm3 an3 cd3 ct3), sl3⟩) (c3 : PySem.W.codeIn K cd3 "is_size" = true) (k3 : PySem.W.keepIn K (.ref f3) = true)
    (a4 : PySem.W.nsIn K mainGlobals "is_listed" = some (some (.ref f4))) (l4 : K.lookup f4 = some ⟨oc4, od4, .func (PySem.W.fnOf "is_listed" "is_listed" (defArgs sis_listed) (defBody sis_listed) (defScope sis_listed) .none kV4 dc4 pm4 an4 cd4 ct4), sl4⟩) (c4 : PySem.W.codeIn K cd4 "is_listed" = true) (k4 : PySem.W.keepIn K (.ref f4) = true)
    (a5 : PySem.W.nsIn K mainGlobals "is_letter" = some (some (.ref f5))) (l5 : K.lookup f5 = some ⟨oc5, od5, .func (PySem.W.fnOf "is_letter" "is_letter" (defArgs sis_letter) (defBody sis_letter) (defScope sis_letter) .none kV5 dc5 pm5 an5 cd5 ct5), sl5⟩) (c5 : PySem.W.codeIn K cd5 "is_letter" = true) (k5 : PySem.W.keepIn K (.ref f5) = true)
    (a6 : PySem.W.nsIn K mainGlobals "need_size" = some (some (.ref f6))) (l6 : K.lookup f6 = some ⟨oc6, od6, .func (PySem.W.fnOf "need_size" "need_size" (defArgs sneed_size) (defBody sneed_size) (defScope sneed_size) .none kV6 dc6 pm6 an6 cd6 ct6), sl6⟩) (c6 : PySem.W.codeIn K cd6 "need_size" = true) (k6 : PySem.W.keepIn K (.ref f6) = true)
    (a7 : PySem.W.nsIn K mainGlobals "is_text" = some (some (.ref f7))) (l7 : K.lookup f7 = some ⟨oc7, od7, .func (PySem.W.fnOf "is_text" "is_text" (defArgs sis_text) (defBody sis_text) (defScope sis_text) .none kV7 dc7 pm7 an7 cd7 ct7), sl7⟩) (c7 : PySem.W.codeIn K cd7 "is_text" = true) (k7 : PySem.W.keepIn K (.ref f7) = true)
    (a8 : PySem.W.nsIn K mainGlobals "need_text" = some (some (.ref f8))) (l8 : K.lookup f8 = some ⟨oc8, od8, .func (PySem.W.fnOf "need_text" "need_text" (defArgs sneed_text) (defBody sneed_text) (defScope sneed_text) .none kV8 dc8 pm8 an8 cd8 ct8), sl8⟩) (c8 : PySem.W.codeIn K cd8 "need_text" = true) (k8 : PySem.W.keepIn K (.ref f8) = true)
    (a9 : PySem.W.nsIn K mainGlobals "pieces_along" = some (some (.ref f9))) (l9 : K.lookup f9 = some ⟨oc9, od9, .func (PySem.W.fnOf "pieces_along" "pieces_along" (defArgs spieces_along) (defBody spieces_along) (defScope spieces_along) .none kV9 dc9 pm9 an9 cd9 ct9), sl9⟩) (c9 : PySem.W.codeIn K cd9 "pieces_along" = true) (k9 : PySem.W.keepIn K (.ref f9) = true)
    (a10 : PySem.W.nsIn K mainGlobals "pieces_often" = some (some (.ref f10))) (l10 : K.lookup f10 = some ⟨oc10, od10, .func (PySem.W.fnOf "pieces_often" "pieces_often" (defArgs spieces_often) (defBody spieces_often) (defScope spieces_often) .none kV10 dc10 pm10 an10 cd10 ct10), sl10⟩) (c10 : PySem.W.codeIn K cd10 "pieces_often" = true) (k10 : PySem.W.keepIn K (.ref f10) = true)
    (a11 : PySem.W.nsIn K mainGlobals "is_times" = some (some (.ref f11))) (l11 : K.lookup f11 = some ⟨oc11, od11, .func (PySem.W.fnOf "is_times" "is_times" (defArgs sis_times) (defBody sis_times) (defScope sis_times) .none kV11 dc11 pm11 an11 cd11 ct11), sl11⟩) (c11 : PySem.W.codeIn K cd11 "is_times" = true) (k11 : PySem.W.keepIn K (.ref f11) = true)
    (a12 : PySem.W.nsIn K mainGlobals "are_readings" = some (some (.ref f12))) (l12 : K.lookup f12 = some ⟨oc12, od12, .func (PySem.W.fnOf "are_readings" "are_readings" (defArgs sare_readings) (defBody sare_readings) (defScope sare_readings) .none kV12 dc12 pm12 an12 cd12 ct12), sl12⟩) (c12 : PySem.W.codeIn K cd12 "are_readings" = true) (k12 : PySem.W.keepIn K (.ref f12) = true)
    (a13 : PySem.W.nsIn K mainGlobals "need_lot" = some (some (.ref f13))) (l13 : K.lookup f13 = some ⟨oc13, od13, .func (PySem.W.fnOf "need_lot" "need_lot" (defArgs sneed_lot) (defBody sneed_lot) (defScope sneed_lot) .none kV13 dc13 pm13 an13 cd13 ct13), sl13⟩) (c13 : PySem.W.codeIn K cd13 "need_lot" = true) (k13 : PySem.W.keepIn K (.ref f13) = true)
    (a14 : PySem.W.nsIn K mainGlobals "need_times" = some (some (.ref f14))) (l14 : K.lookup f14 = some ⟨oc14, od14, .func (PySem.W.fnOf "need_times" "need_times" (defArgs sneed_times) (defBody sneed_times) (defScope sneed_times) .none kV14 dc14 pm14 an14 cd14 ct14), sl14⟩) (c14 : PySem.W.codeIn K cd14 "need_times" = true) (k14 : PySem.W.keepIn K (.ref f14) = true)
    (a15 : PySem.W.nsIn K mainGlobals "_times_together" = some (some (.ref f15))) (l15 : K.lookup f15 = some ⟨oc15, od15, .func (PySem.W.fnOf "_times_together" "_times_together" (defArgs s_times_together) (defBody s_times_together) (defScope s_times_together) .none kV15 dc15 pm15 an15 cd15 ct15), sl15⟩) (c15 : PySem.W.codeIn K cd15 "_times_together" = true) (k15 : PySem.W.keepIn K (.ref f15) = true)
    (a16 : PySem.W.nsIn K mainGlobals "lot_told" = some (some (.ref f16))) (l16 : K.lookup f16 = some ⟨oc16, od16, .func (PySem.W.fnOf "lot_told" "lot_told" (defArgs slot_told) (defBody slot_told) (defScope slot_told) .none kV16 dc16 pm16 an16 cd16 ct16), sl16⟩) (c16 : PySem.W.codeIn K cd16 "lot_told" = true) (k16 : PySem.W.keepIn K (.ref f16) = true)
    (a17 : PySem.W.nsIn K mainGlobals "_lot_with" = some (some (.ref f17))) (l17 : K.lookup f17 = some ⟨oc17, od17, .func (PySem.W.fnOf "_lot_with" "_lot_with" (defArgs s_lot_with) (defBody s_lot_with) (defScope s_lot_with) .none kV17 dc17 pm17 an17 cd17 ct17), sl17⟩) (c17 : PySem.W.codeIn K cd17 "_lot_with" = true) (k17 : PySem.W.keepIn K (.ref f17) = true)
    (a18 : PySem.W.nsIn K mainGlobals "with_reading" = some (some (.ref f18))) (l18 : K.lookup f18 = some ⟨oc18, od18, .func (PySem.W.fnOf "with_reading" "with_reading" (defArgs swith_reading) (defBody swith_reading) (defScope swith_reading) .none kV18 dc18 pm18 an18 cd18 ct18), sl18⟩) (c18 : PySem.W.codeIn K cd18 "with_reading" = true) (k18 : PySem.W.keepIn K (.ref f18) = true)
    (a19 : PySem.W.nsIn K mainGlobals "both_lots" = some (some (.ref f19))) (l19 : K.lookup f19 = some ⟨oc19, od19, .func (PySem.W.fnOf "both_lots" "both_lots" (defArgs sboth_lots) (defBody sboth_lots) (defScope sboth_lots) .none kV19 dc19 pm19 an19 cd19 ct19), sl19⟩) (c19 : PySem.W.codeIn K cd19 "both_lots" = true) (k19 : PySem.W.keepIn K (.ref f19) = true)
    (a20 : PySem.W.nsIn K mainGlobals "without_reading" = some (some (.ref f20))) (l20 : K.lookup f20 = some ⟨oc20, od20, .func (PySem.W.fnOf "without_reading" "without_reading" (defArgs swithout_reading) (defBody swithout_reading) (defScope swithout_reading) .none kV20 dc20 pm20 an20 cd20 ct20), sl20⟩) (c20 : PySem.W.codeIn K cd20 "without_reading" = true) (k20 : PySem.W.keepIn K (.ref f20) = true)
    (a21 : PySem.W.nsIn K mainGlobals "_law_pot" = some (some (.ref f21))) (l21 : K.lookup f21 = some ⟨oc21, od21, .func (PySem.W.fnOf "_law_pot" "_law_pot" (defArgs s_law_pot) (defBody s_law_pot) (defScope s_law_pot) .none kV21 dc21 pm21 an21 cd21 ct21), sl21⟩) (c21 : PySem.W.codeIn K cd21 "_law_pot" = true) (k21 : PySem.W.keepIn K (.ref f21) = true)
    (a22 : PySem.W.nsIn K mainGlobals "_law_draw" = some (some (.ref f22))) (l22 : K.lookup f22 = some ⟨oc22, od22, .func (PySem.W.fnOf "_law_draw" "_law_draw" (defArgs s_law_draw) (defBody s_law_draw) (defScope s_law_draw) .none kV22 dc22 pm22 an22 cd22 ct22), sl22⟩) (c22 : PySem.W.codeIn K cd22 "_law_draw" = true) (k22 : PySem.W.keepIn K (.ref f22) = true)
    (a23 : PySem.W.nsIn K mainGlobals "_law_pick" = some (some (.ref f23))) (l23 : K.lookup f23 = some ⟨oc23, od23, .func (PySem.W.fnOf "_law_pick" "_law_pick" (defArgs s_law_pick) (defBody s_law_pick) (defScope s_law_pick) .none kV23 dc23 pm23 an23 cd23 ct23), sl23⟩) (c23 : PySem.W.codeIn K cd23 "_law_pick" = true) (k23 : PySem.W.keepIn K (.ref f23) = true)
    (a24 : PySem.W.nsIn K mainGlobals "_law_text" = some (some (.ref f24))) (l24 : K.lookup f24 = some ⟨oc24, od24, .func (PySem.W.fnOf "_law_text" "_law_text" (defArgs s_law_text) (defBody s_law_text) (defScope s_law_text) .none kV24 dc24 pm24 an24 cd24 ct24), sl24⟩) (c24 : PySem.W.codeIn K cd24 "_law_text" = true) (k24 : PySem.W.keepIn K (.ref f24) = true)
    (a25 : PySem.W.nsIn K mainGlobals "_law_readings" = some (some (.ref f25))) (l25 : K.lookup f25 = some ⟨oc25, od25, .func (PySem.W.fnOf "_law_readings" "_law_readings" (defArgs s_law_readings) (defBody s_law_readings) (defScope s_law_readings) .none kV25 dc25 pm25 an25 cd25 ct25), sl25⟩) (c25 : PySem.W.codeIn K cd25 "_law_readings" = true) (k25 : PySem.W.keepIn K (.ref f25) = true)
    (a26 : PySem.W.nsIn K mainGlobals "_law_times" = some (some (.ref f26))) (l26 : K.lookup f26 = some ⟨oc26, od26, .func (PySem.W.fnOf "_law_times" "_law_times" (defArgs s_law_times) (defBody s_law_times) (defScope s_law_times) .none kV26 dc26 pm26 an26 cd26 ct26), sl26⟩) (c26 : PySem.W.codeIn K cd26 "_law_times" = true) (k26 : PySem.W.keepIn K (.ref f26) = true)
    (a27 : PySem.W.nsIn K mainGlobals "_law_often" = some (some (.ref f27))) (l27 : K.lookup f27 = some ⟨oc27, od27, .func (PySem.W.fnOf "_law_often" "_law_often" (defArgs s_law_often) (defBody s_law_often) (defScope s_law_often) .none kV27 dc27 pm27 an27 cd27 ct27), sl27⟩) (c27 : PySem.W.codeIn K cd27 "_law_often" = true) (k27 : PySem.W.keepIn K (.ref f27) = true)
    (a28 : PySem.W.nsIn K mainGlobals "_law_sorted" = some (some (.ref f28))) (l28 : K.lookup f28 = some ⟨oc28, od28, .func (PySem.W.fnOf "_law_sorted" "_law_sorted" (defArgs s_law_sorted) (defBody s_law_sorted) (defScope s_law_sorted) .none kV28 dc28 pm28 an28 cd28 ct28), sl28⟩) (c28 : PySem.W.codeIn K cd28 "_law_sorted" = true) (k28 : PySem.W.keepIn K (.ref f28) = true)
    (a29 : PySem.W.nsIn K mainGlobals "_law_shows" = some (some (.ref f29))) (l29 : K.lookup f29 = some ⟨oc29, od29, .func (PySem.W.fnOf "_law_shows" "_law_shows" (defArgs s_law_shows) (defBody s_law_shows) (defScope s_law_shows) .none kV29 dc29 pm29 an29 cd29 ct29), sl29⟩) (c29 : PySem.W.codeIn K cd29 "_law_shows" = true) (k29 : PySem.W.keepIn K (.ref f29) = true)
    (a30 : PySem.W.nsIn K mainGlobals "_law_is_plain" = some (some (.ref f30))) (l30 : K.lookup f30 = some ⟨oc30, od30, .func (PySem.W.fnOf "_law_is_plain" "_law_is_plain" (defArgs s_law_is_plain) (defBody s_law_is_plain) (defScope s_law_is_plain) .none kV30 dc30 pm30 an30 cd30 ct30), sl30⟩) (c30 : PySem.W.codeIn K cd30 "_law_is_plain" = true) (k30 : PySem.W.keepIn K (.ref f30) = true)
    (a31 : PySem.W.nsIn K mainGlobals "_law_deed" = some (some (.ref f31))) (l31 : K.lookup f31 = some ⟨oc31, od31, .func (PySem.W.fnOf "_law_deed" "_law_deed" (defArgs s_law_deed) (defBody s_law_deed) (defScope s_law_deed) .none kV31 dc31 pm31 an31 cd31 ct31), sl31⟩) (c31 : PySem.W.codeIn K cd31 "_law_deed" = true) (k31 : PySem.W.keepIn K (.ref f31) = true)
    (a32 : PySem.W.nsIn K mainGlobals "_law_both_right" = some (some (.ref f32))) (l32 : K.lookup f32 = some ⟨oc32, od32, .func (PySem.W.fnOf "_law_both_right" "_law_both_right" (defArgs s_law_both_right) (defBody s_law_both_right) (defScope s_law_both_right) .none kV32 dc32 pm32 an32 cd32 ct32), sl32⟩) (c32 : PySem.W.codeIn K cd32 "_law_both_right" = true) (k32 : PySem.W.keepIn K (.ref f32) = true)
    (a33 : PySem.W.nsIn K mainGlobals "law" = some (some (.ref f33))) (l33 : K.lookup f33 = some ⟨oc33, od33, .func (PySem.W.fnOf "law" "law" (defArgs slaw) (defBody slaw) (defScope slaw) .none kV33 dc33 pm33 an33 cd33 ct33), sl33⟩) (c33 : PySem.W.codeIn K cd33 "law" = true) (k33 : PySem.W.keepIn K (.ref f33) = true)
    (pg : PySem.W.plainGet K C Str.empty = true) (hd : PySem.W.hasDictIn K C = true) (po : PySem.W.plainOver K C = true) (sa : PySem.W.findIn K (.ref C) "__setattr__" = some (some (.builtin "object.__setattr__"))) (mk : PySem.W.makesIn K C = true) (kc : PySem.W.keepIn K (.ref C) = true)
    (n0 : PySem.W.findIn K (.ref C) "_size" = some none)
    (n1 : PySem.W.findIn K (.ref C) "_told" = some none)
    (q1 : PySem.W.findIn K (.ref C) "__class__" = some (some (.builtin "object.__class__"))) (q2 : PySem.W.specialIn K (.builtin "object.__class__") "__get__" = some (some (.builtin "getset_descriptor.__get__"))) (q3 : PySem.W.takesIn K (.builtin "object.__class__") = some true) (q4 : PySem.W.mroIn K C (.type "object") = some true)
    (w1 : PySem.W.findIn K (.ref C) "__ne__" = some (some (.builtin "object.__ne__"))) (w2 : PySem.W.notFirst K C (.type "dict") = true) (w3 : PySem.W.isClsIn K C = true) (w4 : PySem.W.typeIn K (.ref C) = some (.type "type")) (w5 : PySem.W.subIn K (.type "dict") (.ref C) = some false)
    (z0 : PySem.W.nsIn K mainGlobals "isinstance" = some none)
    (z1 : PySem.W.nsIn K mainGlobals "int" = some none)
    (z2 : PySem.W.nsIn K mainGlobals "bool" = some none)
    (z3 : PySem.W.nsIn K mainGlobals "str" = some none)
    (z4 : PySem.W.nsIn K mainGlobals "list" = some none)
    (z5 : PySem.W.nsIn K mainGlobals "tuple" = some none)
    (z6 : PySem.W.nsIn K mainGlobals "len" = some none)
    (z7 : PySem.W.nsIn K mainGlobals "range" = some none)
    (z8 : PySem.W.nsIn K mainGlobals "abs" = some none)
    (z9 : PySem.W.nsIn K mainGlobals "max" = some none)
    (z10 : PySem.W.nsIn K mainGlobals "min" = some none)
    (z11 : PySem.W.nsIn K mainGlobals "divmod" = some none)
    (z12 : PySem.W.nsIn K mainGlobals "sorted" = some none)
    (z13 : PySem.W.nsIn K mainGlobals "dict" = some none)
    (z14 : PySem.W.nsIn K mainGlobals "all" = some none)
    (y0 : PySem.W.nsIn K mainGlobals "MOST_READINGS" = some (some (.int 60 t0)))
    (y1 : PySem.W.nsIn K mainGlobals "MOST_TIMES" = some (some (.int 1200 t1)))
    (y2 : PySem.W.nsIn K mainGlobals "MOST_LETTERS" = some (some (.int 400 t2)))
    : ∃ fd : FuncData, (∀ (s : Shared) (v : Value), BindsTo s fd ⟨[v], []⟩ [("_law_script", v)]) ∧ ∀ base : Heap, K.In base → base.Ns mainGlobals mg → FnOk l.prog w K mg base CX0 11 fa fd ["_law_script"] (splaw K 0) := by
  have e := hfa.symm.trans (PySem.W.mg_of X G a33)
  cases e
  have B : Bs mg := ⟨PySem.W.mg_none_of X G z0, PySem.W.mg_none_of X G z1, PySem.W.mg_none_of X G z2, PySem.W.mg_none_of X G z3, PySem.W.mg_none_of X G z4, PySem.W.mg_none_of X G z5, PySem.W.mg_none_of X G z6, PySem.W.mg_none_of X G z7, PySem.W.mg_none_of X G z8, PySem.W.mg_none_of X G z9, PySem.W.mg_none_of X G z10, PySem.W.mg_none_of X G z11, PySem.W.mg_none_of X G z12, PySem.W.mg_none_of X G z13, PySem.W.mg_none_of X G z14⟩
  have Glb : Glo mg := ⟨⟨t0, PySem.W.mg_of X G y0⟩, ⟨t1, PySem.W.mg_of X G y1⟩, ⟨t2, PySem.W.mg_of X G y2⟩⟩
  have WK : WebK K mg C := ⟨⟨pg, hd, po, sa⟩, n0, n1, PySem.W.mg_of X G aC, q1, q2, q3, q4, (by unfold PySem.W.kitOne; exact if_pos (beq_self_eq_true _)), w1, w2, kit_no w3 w4 w5⟩
  have DLot___init__ : DefI K C "__init__" "Lot.__init__" sLot___init__ ["self", "size", "readings"] := ⟨fM0, _, fun_mk (st := sLot___init__) lM0 cM0 kM0, ⟨mk, aM0, iM0, kc⟩, (fun_mk (st := sLot___init__) lM0 cM0 kM0).binds (ps := ["self", "size", "readings"]) fun _ _ _ _ _ _ us hl => match us, hl with | [_, _, _], _ => rfl⟩
  have DLot___eq__ : DefM K C "__eq__" "Lot.__eq__" sLot___eq__ ["self", "other"] := ⟨fM1, _, fun_mk (st := sLot___eq__) lM1 cM1 kM1, ⟨aM1, iM1, kM1⟩, (fun_mk (st := sLot___eq__) lM1 cM1 kM1).binds (ps := ["self", "other"]) fun _ _ _ _ _ _ us hl => match us, hl with | [_, _], _ => rfl⟩
  have DLot_size : DefP K C "size" "Lot.size" sLot_size ["self"] := ⟨pM2, fM2, _, fun_mk (st := sLot_size) lM2 cM2 kM2, ⟨aM2, gM2, tM2, _, rM2⟩, (fun_mk (st := sLot_size) lM2 cM2 kM2).binds (ps := ["self"]) fun _ _ _ _ _ _ us hl => match us, hl with | [_], _ => rfl⟩
  have DLot_readings : DefM K C "readings" "Lot.readings" sLot_readings ["self"] := ⟨fM3, _, fun_mk (st := sLot_readings) lM3 cM3 kM3, ⟨aM3, iM3, kM3⟩, (fun_mk (st := sLot_readings) lM3 cM3 kM3).binds (ps := ["self"]) fun _ _ _ _ _ _ us hl => match us, hl with | [_], _ => rfl⟩
  have DLot_times_of : DefM K C "times_of" "Lot.times_of" sLot_times_of ["self", "text"] := ⟨fM4, _, fun_mk (st := sLot_times_of) lM4 cM4 kM4, ⟨aM4, iM4, kM4⟩, (fun_mk (st := sLot_times_of) lM4 cM4 kM4).binds (ps := ["self", "text"]) fun _ _ _ _ _ _ us hl => match us, hl with | [_, _], _ => rfl⟩
  have DLot_pieces : DefM K C "pieces" "Lot.pieces" sLot_pieces ["self"] := ⟨fM5, _, fun_mk (st := sLot_pieces) lM5 cM5 kM5, ⟨aM5, iM5, kM5⟩, (fun_mk (st := sLot_pieces) lM5 cM5 kM5).binds (ps := ["self"]) fun _ _ _ _ _ _ us hl => match us, hl with | [_], _ => rfl⟩
  have DLot_solid : DefM K C "solid" "Lot.solid" sLot_solid ["self", "least"] := ⟨fM6, _, fun_mk (st := sLot_solid) lM6 cM6 kM6, ⟨aM6, iM6, kM6⟩, (fun_mk (st := sLot_solid) lM6 cM6 kM6).binds (ps := ["self", "least"]) fun _ _ _ _ _ _ us hl => match us, hl with | [_, _], _ => rfl⟩
  have Dis_integer : Def K mg "is_integer" sis_integer ["value"] := def_mk X G a0 l0 c0 k0 fun _ _ _ _ _ _ us hl => match us, hl with | [_], _ => rfl
  have Dis_count : Def K mg "is_count" sis_count ["value"] := def_mk X G a1 l1 c1 k1 fun _ _ _ _ _ _ us hl => match us, hl with | [_], _ => rfl
  have Dis_between : Def K mg "is_between" sis_between ["value", "least", "most"] := def_mk X G a2 l2 c2 k2 fun _ _ _ _ _ _ us hl => match us, hl with | [_, _, _], _ => rfl
  have Dis_size : Def K mg "is_size" sis_size ["value"] := def_mk X G a3 l3 c3 k3 fun _ _ _ _ _ _ us hl => match us, hl with | [_], _ => rfl
  have Dis_listed : Def K mg "is_listed" sis_listed ["value"] := def_mk X G a4 l4 c4 k4 fun _ _ _ _ _ _ us hl => match us, hl with | [_], _ => rfl
  have Dis_letter : Def K mg "is_letter" sis_letter ["sign"] := def_mk X G a5 l5 c5 k5 fun _ _ _ _ _ _ us hl => match us, hl with | [_], _ => rfl
  have Dneed_size : Def K mg "need_size" sneed_size ["size"] := def_mk X G a6 l6 c6 k6 fun _ _ _ _ _ _ us hl => match us, hl with | [_], _ => rfl
  have Dis_text : Def K mg "is_text" sis_text ["value"] := def_mk X G a7 l7 c7 k7 fun _ _ _ _ _ _ us hl => match us, hl with | [_], _ => rfl
  have Dneed_text : Def K mg "need_text" sneed_text ["text"] := def_mk X G a8 l8 c8 k8 fun _ _ _ _ _ _ us hl => match us, hl with | [_], _ => rfl
  have Dpieces_along : Def K mg "pieces_along" spieces_along ["text", "size"] := def_mk X G a9 l9 c9 k9 fun _ _ _ _ _ _ us hl => match us, hl with | [_, _], _ => rfl
  have Dpieces_often : Def K mg "pieces_often" spieces_often ["readings", "size"] := def_mk X G a10 l10 c10 k10 fun _ _ _ _ _ _ us hl => match us, hl with | [_, _], _ => rfl
  have Dis_times : Def K mg "is_times" sis_times ["value"] := def_mk X G a11 l11 c11 k11 fun _ _ _ _ _ _ us hl => match us, hl with | [_], _ => rfl
  have Dare_readings : Def K mg "are_readings" sare_readings ["value"] := def_mk X G a12 l12 c12 k12 fun _ _ _ _ _ _ us hl => match us, hl with | [_], _ => rfl
  have Dneed_lot : Def K mg "need_lot" sneed_lot ["lot"] := def_mk X G a13 l13 c13 k13 fun _ _ _ _ _ _ us hl => match us, hl with | [_], _ => rfl
  have Dneed_times : Def K mg "need_times" sneed_times ["times"] := def_mk X G a14 l14 c14 k14 fun _ _ _ _ _ _ us hl => match us, hl with | [_], _ => rfl
  have D_times_together : Def K mg "_times_together" s_times_together ["readings"] := def_mk X G a15 l15 c15 k15 fun _ _ _ _ _ _ us hl => match us, hl with | [_], _ => rfl
  have Dlot_told : Def K mg "lot_told" slot_told ["size", "told"] := def_mk X G a16 l16 c16 k16 fun _ _ _ _ _ _ us hl => match us, hl with | [_, _], _ => rfl
  have D_lot_with : Def K mg "_lot_with" s_lot_with ["lot", "readings"] := def_mk X G a17 l17 c17 k17 fun _ _ _ _ _ _ us hl => match us, hl with | [_, _], _ => rfl
  have Dwith_reading : Def K mg "with_reading" swith_reading ["lot", "text", "times"] := def_mk X G a18 l18 c18 k18 fun _ _ _ _ _ _ us hl => match us, hl with | [_, _, _], _ => rfl
  have Dboth_lots : Def K mg "both_lots" sboth_lots ["lot", "other"] := def_mk X G a19 l19 c19 k19 fun _ _ _ _ _ _ us hl => match us, hl with | [_, _], _ => rfl
  have Dwithout_reading : Def K mg "without_reading" swithout_reading ["lot", "text", "times"] := def_mk X G a20 l20 c20 k20 fun _ _ _ _ _ _ us hl => match us, hl with | [_, _, _], _ => rfl
  have D_law_pot : Def K mg "_law_pot" s_law_pot ["_law_script", "_law_k"] := def_mk X G a21 l21 c21 k21 fun _ _ _ _ _ _ us hl => match us, hl with | [_, _], _ => rfl
  have D_law_draw : Def K mg "_law_draw" s_law_draw ["_law_pot_here", "_law_size"] := def_mk X G a22 l22 c22 k22 fun _ _ _ _ _ _ us hl => match us, hl with | [_, _], _ => rfl
  have D_law_pick : Def K mg "_law_pick" s_law_pick ["_law_pot_here", "_law_some"] := def_mk X G a23 l23 c23 k23 fun _ _ _ _ _ _ us hl => match us, hl with | [_, _], _ => rfl
  have D_law_text : Def K mg "_law_text" s_law_text ["_law_pot_here", "_law_most"] := def_mk X G a24 l24 c24 k24 fun _ _ _ _ _ _ us hl => match us, hl with | [_, _], _ => rfl
  have D_law_readings : Def K mg "_law_readings" s_law_readings ["_law_pot_here", "_law_many"] := def_mk X G a25 l25 c25 k25 fun _ _ _ _ _ _ us hl => match us, hl with | [_, _], _ => rfl
  have D_law_times : Def K mg "_law_times" s_law_times ["_law_readings_here"] := def_mk X G a26 l26 c26 k26 fun _ _ _ _ _ _ us hl => match us, hl with | [_], _ => rfl
  have D_law_often : Def K mg "_law_often" s_law_often ["_law_size", "_law_told"] := def_mk X G a27 l27 c27 k27 fun _ _ _ _ _ _ us hl => match us, hl with | [_, _], _ => rfl
  have D_law_sorted : Def K mg "_law_sorted" s_law_sorted ["_law_told"] := def_mk X G a28 l28 c28 k28 fun _ _ _ _ _ _ us hl => match us, hl with | [_], _ => rfl
  have D_law_shows : Def K mg "_law_shows" s_law_shows ["_law_lot", "_law_size", "_law_told"] := def_mk X G a29 l29 c29 k29 fun _ _ _ _ _ _ us hl => match us, hl with | [_, _, _], _ => rfl
  have D_law_is_plain : Def K mg "_law_is_plain" s_law_is_plain ["_law_told"] := def_mk X G a30 l30 c30 k30 fun _ _ _ _ _ _ us hl => match us, hl with | [_], _ => rfl
  have D_law_deed : Def K mg "_law_deed" s_law_deed ["_law_pot_here", "_law_lot", "_law_told"] := def_mk X G a31 l31 c31 k31 fun _ _ _ _ _ _ us hl => match us, hl with | [_, _, _], _ => rfl
  have D_law_both_right : Def K mg "_law_both_right" s_law_both_right ["_law_pot_here", "_law_lot", "_law_size", "_law_told"] := def_mk X G a32 l32 c32 k32 fun _ _ _ _ _ _ us hl => match us, hl with | [_, _, _, _], _ => rfl
  have Dlaw : Def K mg "law" slaw ["_law_script"] := def_mk X G a33 l33 c33 k33 fun _ _ _ _ _ _ us hl => match us, hl with | [_], _ => rfl
  refine ⟨PySem.W.fnOf "law" "law" (defArgs slaw) (defBody slaw) (defScope slaw) .none kV33 dc33 pm33 an33 cd33 ct33, fun s v => .of_eq rfl, fun base _ _ => ?_⟩
  have H_law_pot := ok_law_pot (P := l.prog) (w := w) (base := base) D_law_pot B Glb WK
  have H_law_draw := ok_law_draw (P := l.prog) (w := w) (base := base) D_law_draw B Glb WK
  have H_law_pick := ok_law_pick (P := l.prog) (w := w) (base := base) D_law_pick B Glb WK H_law_draw
  have H_law_text := ok_law_text (P := l.prog) (w := w) (base := base) D_law_text B Glb WK H_law_draw H_law_pick
  have H_law_readings := ok_law_readings (P := l.prog) (w := w) (base := base) D_law_readings B Glb WK H_law_text H_law_draw
  have Hneed_lot := okneed_lot (P := l.prog) (w := w) (base := base) Dneed_lot B Glb WK
  have H_times_together := ok_times_together (P := l.prog) (w := w) (base := base) D_times_together B Glb WK
  have His_integer := okis_integer (P := l.prog) (w := w) (base := base) Dis_integer B Glb WK
  have His_between := okis_between (P := l.prog) (w := w) (base := base) Dis_between B Glb WK His_integer
  have His_size := okis_size (P := l.prog) (w := w) (base := base) Dis_size B Glb WK His_between
  have Hneed_size := okneed_size (P := l.prog) (w := w) (base := base) Dneed_size B Glb WK His_size
  have His_listed := okis_listed (P := l.prog) (w := w) (base := base) Dis_listed B Glb WK
  have His_letter := okis_letter (P := l.prog) (w := w) (base := base) Dis_letter B Glb WK
  have His_text := okis_text (P := l.prog) (w := w) (base := base) Dis_text B Glb WK His_letter
  have His_times := okis_times (P := l.prog) (w := w) (base := base) Dis_times B Glb WK His_between
  have Hare_readings := okare_readings (P := l.prog) (w := w) (base := base) Dare_readings B Glb WK His_listed His_text His_times
  have HLot___init__ := okLot___init__ (P := l.prog) (w := w) (base := base) DLot___init__ B Glb WK Hneed_size Hare_readings H_times_together
  have Hlot_told := oklot_told (P := l.prog) (w := w) (base := base) Dlot_told B Glb WK HLot___init__
  have HLot_size := okLot_size (P := l.prog) (w := w) (base := base) DLot_size B Glb WK
  have HLot_readings := okLot_readings (P := l.prog) (w := w) (base := base) DLot_readings B Glb WK
  have H_lot_with := ok_lot_with (P := l.prog) (w := w) (base := base) D_lot_with B Glb WK H_times_together Hlot_told HLot_size HLot_readings
  have Hboth_lots := okboth_lots (P := l.prog) (w := w) (base := base) Dboth_lots B Glb WK Hneed_lot H_lot_with HLot_size HLot_readings
  have H_law_times := ok_law_times (P := l.prog) (w := w) (base := base) D_law_times B Glb WK
  have H_law_often := ok_law_often (P := l.prog) (w := w) (base := base) D_law_often B Glb WK
  have H_law_is_plain := ok_law_is_plain (P := l.prog) (w := w) (base := base) D_law_is_plain B Glb WK
  have H_law_sorted := ok_law_sorted (P := l.prog) (w := w) (base := base) D_law_sorted B Glb WK
  have HLot___eq__ := okLot___eq__ (P := l.prog) (w := w) (base := base) DLot___eq__ B Glb WK
  have Hpieces_along := okpieces_along (P := l.prog) (w := w) (base := base) Dpieces_along B Glb WK
  have Hpieces_often := okpieces_often (P := l.prog) (w := w) (base := base) Dpieces_often B Glb WK Hpieces_along
  have HLot_pieces := okLot_pieces (P := l.prog) (w := w) (base := base) DLot_pieces B Glb WK Hpieces_often
  have His_count := okis_count (P := l.prog) (w := w) (base := base) Dis_count B Glb WK His_integer
  have HLot_solid := okLot_solid (P := l.prog) (w := w) (base := base) DLot_solid B Glb WK His_count HLot_pieces
  have Hneed_text := okneed_text (P := l.prog) (w := w) (base := base) Dneed_text B Glb WK His_text
  have HLot_times_of := okLot_times_of (P := l.prog) (w := w) (base := base) DLot_times_of B Glb WK Hneed_text
  have H_law_shows := ok_law_shows (P := l.prog) (w := w) (base := base) D_law_shows B Glb WK H_law_often H_law_is_plain H_law_sorted HLot___eq__ HLot_size HLot___init__ HLot_readings HLot_pieces HLot_solid HLot_times_of
  have H_law_both_right := ok_law_both_right (P := l.prog) (w := w) (base := base) D_law_both_right B Glb WK H_law_readings Hboth_lots H_law_draw H_law_times H_law_shows HLot___eq__ HLot___init__ HLot_pieces
  have Hneed_times := okneed_times (P := l.prog) (w := w) (base := base) Dneed_times B Glb WK His_times
  have Hwith_reading := okwith_reading (P := l.prog) (w := w) (base := base) Dwith_reading B Glb WK Hneed_lot Hneed_text Hneed_times H_lot_with
  have Hwithout_reading := okwithout_reading (P := l.prog) (w := w) (base := base) Dwithout_reading B Glb WK Hneed_lot Hneed_text Hneed_times Hlot_told HLot_times_of HLot_size HLot_readings
  have H_law_deed := ok_law_deed (P := l.prog) (w := w) (base := base) D_law_deed B Glb WK H_law_draw H_law_text H_law_pick Hwith_reading Hwithout_reading
  have Hlaw := oklaw (P := l.prog) (w := w) (base := base) Dlaw B Glb WK H_law_pot H_law_readings H_law_both_right H_law_draw H_law_times H_law_deed H_law_text H_law_shows Hwithout_reading Hwith_reading HLot___eq__ HLot___init__ HLot_readings
  obtain ⟨f, fd, O, m, k, b, F⟩ := Hlaw
  have e2 := m.symm.trans hfa
  cases e2
  rw [fd_is F l33] at O
  exact O
theorem walk {l : PySem.W.OpenLaw} {q : Program} {loose : List Str} {XP : (Str → Option Value) → Heap → Prop} {YP : World → Heap → Prop} {d : DefRec} {K : Params → PySem.W.Frag} (hn : l.most = some 63) (hdf : d.params.defaults = [])
    (hY : ∀ (w : World) (h : Heap), YP w h → (K w.params).In h)
    (F : ∀ (w : World) (mg : Str → Option Value) (fa : Addr) (h : Heap), (K w.params).In h → h.Ns mainGlobals mg → mg d.name = some (.ref fa) →
      ∃ fd : FuncData, (∀ (s : Shared) (u : Value), BindsTo s fd ⟨[u], []⟩ [("_law_script", u)]) ∧ ∀ base : Heap, (K w.params).In base → base.Ns mainGlobals mg → FnOk l.prog w (K w.params) mg base CX0 11 fa fd ["_law_script"] (splaw (K w.params) 0)) :
    PySem.W.WalkO q loose XP YP l.row.toRowW d [] (fun f vs => PySem.call f vs) :=
  L2.walk_of (n := 63) (k := 11) (x := "_law_script") (CX := fun _ => CX0) (sp := fun w => splaw (K w.params) 0) hn (by decide) hdf ⟨rfl, by decide, by decide⟩ hY F (fun _ _ a ns hl _ hS => ⟨a, ns, rfl, hS, hl, fun _ => rfl⟩) fun _ _ _ _ _ z => z
end My
open PySem PySem.W PyProof.Rows
set_option maxRecDepth 100000 in
set_option maxHeartbeats 0 in
theorem PySem.Challenge.cw_suretexts_k16_whole_lots_come_and_go_holds : PySem.Challenge.rw_suretexts_k16_whole_lots_come_and_go.Holds := by
  w_on; o_law; k_head; (case hw => w_witness2)
  k_fill
  refine My.walk (l := PySem.Challenge.rw_suretexts_k16_whole_lots_come_and_go) rfl rfl (fun w h Y => PySem.W.kIn_of Y) ?F
  case F =>
    intro w mg fa h KX G hmg
    refine' My.all_mk KX G hmg ?aC ?aM0 ?iM0 ?lM0 ?cM0 ?kM0 ?aM1 ?iM1 ?lM1 ?cM1 ?kM1 ?aM2 ?gM2 ?tM2 ?rM2 ?lM2 ?cM2 ?kM2 ?aM3 ?iM3 ?lM3 ?cM3 ?kM3 ?aM4 ?iM4 ?lM4 ?cM4 ?kM4 ?aM5 ?iM5 ?lM5 ?cM5 ?kM5 ?aM6 ?iM6 ?lM6 ?cM6 ?kM6 ?a0 ?l0 ?c0 ?k0 ?a1 ?l1 ?c1 ?k1 ?a2 ?l2 ?c2 ?k2 ?a3 ?l3 ?c3 ?k3 ?a4 ?l4 ?c4 ?k4 ?a5 ?l5 ?c5 ?k5 ?a6 ?l6 ?c6 ?k6 ?a7 ?l7 ?c7 ?k7 ?a8 ?l8 ?c8 ?k8 ?a9 ?l9 ?c9 ?k9 ?a10 ?l10 ?c10 ?k10 ?a11 ?l11 ?c11 ?k11 ?a12 ?l12 ?c12 ?k12 ?a13 ?l13 ?c13 ?k13 ?a14 ?l14 ?c14 ?k14 ?a15 ?l15 ?c15 ?k15 ?a16 ?l16 ?c16 ?k16 ?a17 ?l17 ?c17 ?k17 ?a18 ?l18 ?c18 ?k18 ?a19 ?l19 ?c19 ?k19 ?a20 ?l20 ?c20 ?k20 ?a21 ?l21 ?c21 ?k21 ?a22 ?l22 ?c22 ?k22 ?a23 ?l23 ?c23 ?k23 ?a24 ?l24 ?c24 ?k24 ?a25 ?l25 ?c25 ?k25 ?a26 ?l26 ?c26 ?k26 ?a27 ?l27 ?c27 ?k27 ?a28 ?l28 ?c28 ?k28 ?a29 ?l29 ?c29 ?k29 ?a30 ?l30 ?c30 ?k30 ?a31 ?l31 ?c31 ?k31 ?a32 ?l32 ?c32 ?k32 ?a33 ?l33 ?c33 ?k33 ?pg ?hd ?po ?sa ?mk ?kc ?n0 ?n1 ?q1 ?q2 ?q3 ?q4 ?w1 ?w2 ?w3 ?w4 ?w5 ?z0 ?z1 ?z2 ?z3 ?z4 ?z5 ?z6 ?z7 ?z8 ?z9 ?z10 ?z11 ?z12 ?z13 ?z14 ?y0 ?y1 ?y2
    (case aC => k_is)
    (case aM0 => k_is)
    (case iM0 => k_is)
    (case lM0 => k_is)
    (case cM0 => k_is)
    (case kM0 => k_is)
    (case aM1 => k_is)
    (case iM1 => k_is)
    (case lM1 => k_is)
    (case cM1 => k_is)
    (case kM1 => k_is)
    (case aM2 => k_is)
    (case gM2 => k_is)
    (case tM2 => k_is)
    (case rM2 => k_is)
    (case lM2 => k_is)
    (case cM2 => k_is)
    (case kM2 => k_is)
    (case aM3 => k_is)
    (case iM3 => k_is)
    (case lM3 => k_is)
    (case cM3 => k_is)
    (case kM3 => k_is)
    (case aM4 => k_is)
    (case iM4 => k_is)
    (case lM4 => k_is)
    (case cM4 => k_is)
    (case kM4 => k_is)
    (case aM5 => k_is)
    (case iM5 => k_is)
    (case lM5 => k_is)
    (case cM5 => k_is)
    (case kM5 => k_is)
    (case aM6 => k_is)
    (case iM6 => k_is)
    (case lM6 => k_is)
    (case cM6 => k_is)
    (case kM6 => k_is)
    (case a0 => k_is)
    (case l0 => k_is)
    (case c0 => k_is)
    (case k0 => k_is)
    (case a1 => k_is)
    (case l1 => k_is)
    (case c1 => k_is)
    (case k1 => k_is)
    (case a2 => k_is)
    (case l2 => k_is)
    (case c2 => k_is)
    (case k2 => k_is)
    (case a3 => k_is)
    (case l3 => k_is)
    (case c3 => k_is)
    (case k3 => k_is)
    (case a4 => k_is)
    (case l4 => k_is)
    (case c4 => k_is)
    (case k4 => k_is)
    (case a5 => k_is)
    (case l5 => k_is)
    (case c5 => k_is)
    (case k5 => k_is)
    (case a6 => k_is)
    (case l6 => k_is)
    (case c6 => k_is)
    (case k6 => k_is)
    (case a7 => k_is)
    (case l7 => k_is)
    (case c7 => k_is)
    (case k7 => k_is)
    (case a8 => k_is)
    (case l8 => k_is)
    (case c8 => k_is)
    (case k8 => k_is)
    (case a9 => k_is)
    (case l9 => k_is)
    (case c9 => k_is)
    (case k9 => k_is)
    (case a10 => k_is)
    (case l10 => k_is)
    (case c10 => k_is)
    (case k10 => k_is)
    (case a11 => k_is)
    (case l11 => k_is)
    (case c11 => k_is)
    (case k11 => k_is)
    (case a12 => k_is)
    (case l12 => k_is)
    (case c12 => k_is)
    (case k12 => k_is)
    (case a13 => k_is)
    (case l13 => k_is)
    (case c13 => k_is)
    (case k13 => k_is)
    (case a14 => k_is)
    (case l14 => k_is)
    (case c14 => k_is)
    (case k14 => k_is)
    (case a15 => k_is)
    (case l15 => k_is)
    (case c15 => k_is)
    (case k15 => k_is)
    (case a16 => k_is)
    (case l16 => k_is)
    (case c16 => k_is)
    (case k16 => k_is)
    (case a17 => k_is)
    (case l17 => k_is)
    (case c17 => k_is)
    (case k17 => k_is)
    (case a18 => k_is)
    (case l18 => k_is)
    (case c18 => k_is)
    (case k18 => k_is)
    (case a19 => k_is)
    (case l19 => k_is)
    (case c19 => k_is)
    (case k19 => k_is)
    (case a20 => k_is)
    (case l20 => k_is)
    (case c20 => k_is)
    (case k20 => k_is)
    (case a21 => k_is)
    (case l21 => k_is)
    (case c21 => k_is)
    (case k21 => k_is)
    (case a22 => k_is)
    (case l22 => k_is)
    (case c22 => k_is)
    (case k22 => k_is)
    (case a23 => k_is)
    (case l23 => k_is)
    (case c23 => k_is)
    (case k23 => k_is)
    (case a24 => k_is)
    (case l24 => k_is)
    (case c24 => k_is)
    (case k24 => k_is)
    (case a25 => k_is)
    (case l25 => k_is)
    (case c25 => k_is)
    (case k25 => k_is)
    (case a26 => k_is)
    (case l26 => k_is)
    (case c26 => k_is)
    (case k26 => k_is)
    (case a27 => k_is)
    (case l27 => k_is)
    (case c27 => k_is)
    (case k27 => k_is)
    (case a28 => k_is)
    (case l28 => k_is)
    (case c28 => k_is)
    (case k28 => k_is)
    (case a29 => k_is)
    (case l29 => k_is)
    (case c29 => k_is)
    (case k29 => k_is)
    (case a30 => k_is)
    (case l30 => k_is)
    (case c30 => k_is)
    (case k30 => k_is)
    (case a31 => k_is)
    (case l31 => k_is)
    (case c31 => k_is)
    (case k31 => k_is)
    (case a32 => k_is)
    (case l32 => k_is)
    (case c32 => k_is)
    (case k32 => k_is)
    (case a33 => k_is)
    (case l33 => k_is)
    (case c33 => k_is)
    (case k33 => k_is)
    (case pg => k_is)
    (case hd => k_is)
    (case po => k_is)
    (case sa => k_is)
    (case mk => k_is)
    (case kc => k_is)
    (case n0 => k_is)
    (case n1 => k_is)
    (case q1 => k_is)
    (case q2 => k_is)
    (case q3 => k_is)
    (case q4 => k_is)
    (case w1 => k_is)
    (case w2 => k_is)
    (case w3 => k_is)
    (case w4 => k_is)
    (case w5 => k_is)
    (case z0 => k_is)
    (case z1 => k_is)
    (case z2 => k_is)
    (case z3 => k_is)
    (case z4 => k_is)
    (case z5 => k_is)
    (case z6 => k_is)
    (case z7 => k_is)
    (case z8 => k_is)
    (case z9 => k_is)
    (case z10 => k_is)
    (case z11 => k_is)
    (case z12 => k_is)
    (case z13 => k_is)
    (case z14 => k_is)
    (case y0 => k_is)
    (case y1 => k_is)
    (case y2 => k_is)
