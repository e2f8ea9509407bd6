import PyProof.Rows.All
import Wide.All
import OpenK.AllK
import Wide.FinOn
import HandS.ForMost
import HandS.IsInst
import HandS.SortInts
import HandS.Walk
import HandS.Property
import HandS.Style
import PyProof.ListRange
import HandS.Conv
import HandS.OwnEq
import PyProof.InstNe
import KE.GoesMore
import KE.GoesEnum
import HandS.Iter
import HandS.DictTup
import KE.SortData
import KE.KDictWalk
import KE.DataMinMax
import PyProof.Rows.StrStep
import HandS.Deep
import HandS.Set
import HandS.Strs
import HandS.SetFor
import HandS.Zip
import HandS.More
import HandS.Dict
import KE.KDictDisplayH
import PyProof.DictTable
import PySem.Challenge.RW_suretexts_k36_whole_sure_walks_by_standi
set_option Elab.async false
set_option maxRecDepth 100000
set_option linter.all false
namespace My
/-! ### reading round and round -/
def rd (l : List Nat) (p n : Nat) : List Nat := (List.range n).map fun k => l.getD ((p + k) % l.length) 0
theorem rd_len (l : List Nat) (p n : Nat) : (rd l p n).length = n := by simp [rd]
theorem rd_zero (l : List Nat) (p : Nat) : rd l p 0 = [] := rfl
theorem rd_succ (l : List Nat) (p n : Nat) : rd l p (n + 1) = rd l p n ++ [l.getD ((p + n) % l.length) 0] := by
  simp [rd, List.range_succ]
theorem rd_get (l : List Nat) (p n k : Nat) (h : k < n) : (rd l p n)[k]? = some (l.getD ((p + k) % l.length) 0) := by
  simp [rd, h]
theorem rd_drop (l : List Nat) (p n k : Nat) : (rd l p n).drop k = rd l (p + k) (n - k) := by
  apply List.ext_getElem?
  intro i
  rw [List.getElem?_drop]
  by_cases h : k + i < n
  · rw [rd_get _ _ _ _ h, rd_get _ _ _ _ (by omega), Nat.add_assoc]
  · rw [List.getElem?_eq_none (by rw [rd_len]; omega), List.getElem?_eq_none (by rw [rd_len]; omega)]
theorem rd_mod (l : List Nat) (p n : Nat) : rd l (p % l.length) n = rd l p n := by
  unfold rd
  apply List.map_congr_left
  intro k _
  rw [Nat.mod_add_mod]
theorem rd_self (l : List Nat) : rd l 0 l.length = l := by
  apply List.ext_getElem?
  intro i
  by_cases h : i < l.length
  · rw [rd_get _ _ _ _ h, Nat.zero_add, Nat.mod_eq_of_lt h, List.getElem?_eq_getElem h, List.getD_eq_getElem?_getD, List.getElem?_eq_getElem h]
    rfl
  · rw [List.getElem?_eq_none (by rw [rd_len]; omega), List.getElem?_eq_none (by omega)]
/-- turned -/
theorem rd_turn (l : List Nat) (p : Nat) (h : p < l.length) : rd l p l.length = l.drop p ++ l.take p := by
  apply List.ext_getElem?
  intro i
  by_cases hi : i < l.length
  · rw [rd_get _ _ _ _ hi]
    by_cases h2 : i < l.length - p
    · rw [List.getElem?_append_left (by rw [List.length_drop]; exact h2), List.getElem?_drop, Nat.mod_eq_of_lt (by omega), List.getElem?_eq_getElem (by omega), List.getD_eq_getElem?_getD, List.getElem?_eq_getElem (by omega)]
      rfl
    · rw [List.getElem?_append_right (by rw [List.length_drop]; omega), List.length_drop, List.getElem?_take_of_lt (by omega)]
      have e : (p + i) % l.length = i - (l.length - p) := by
        rw [Nat.mod_eq_sub_mod (by omega), Nat.mod_eq_of_lt (by omega)]
        omega
      rw [e, List.getElem?_eq_getElem (by omega), List.getD_eq_getElem?_getD, List.getElem?_eq_getElem (by omega)]
      rfl
  · rw [List.getElem?_eq_none (by rw [rd_len]; omega), List.getElem?_eq_none (by rw [List.length_append, List.length_drop, List.length_take]; omega)]
/-- reading from a turned ring -/
theorem rd_turned (l : List Nat) (b p n : Nat) (hl : 0 < l.length) : rd (rd l b l.length) p n = rd l (b + p) n := by
  unfold rd
  apply List.map_congr_left
  intro k _
  have e : ((List.range l.length).map fun k => l.getD ((b + k) % l.length) 0).length = l.length := by simp
  rw [e]
  have h2 : (p + k) % l.length < l.length := Nat.mod_lt _ hl
  rw [List.getD_eq_getElem?_getD, List.getElem?_map, List.getElem?_range h2]
  show l.getD ((b + (p + k) % l.length) % l.length) 0 = _
  rw [Nat.add_mod_mod, Nat.add_assoc]

/-! ### beginnings that are endings -/
def Pre (w t : List Nat) (k : Nat) : Prop := k ≤ w.length ∧ w.take k <:+ t
def Longest (w t : List Nat) (k : Nat) : Prop := Pre w t k ∧ ∀ k', Pre w t k' → k' ≤ k
def IsLB (p : List Nat) (b : Nat) : Prop := b < p.length ∧ p.take b <:+ p ∧ ∀ b', b' < p.length → p.take b' <:+ p → b' ≤ b
def At (w t : List Nat) (c k : Nat) : Prop := Pre w t k ∧ ∀ k', Pre w t k' → w[k']? = some c → k' ≤ k
theorem suff_one {a t : List Nat} {x c : Nat} : a ++ [x] <:+ t ++ [c] ↔ a <:+ t ∧ x = c := by
  constructor
  · rintro ⟨u, hu⟩
    rw [← List.append_assoc] at hu
    have h := List.append_inj' hu rfl
    exact ⟨⟨u, h.1⟩, by simpa using h.2⟩
  · rintro ⟨⟨u, hu⟩, rfl⟩
    exact ⟨u, by rw [← hu, List.append_assoc]⟩
theorem pre_succ {w t : List Nat} {c k : Nat} : Pre w (t ++ [c]) (k + 1) ↔ Pre w t k ∧ w[k]? = some c := by
  unfold Pre
  constructor
  · rintro ⟨h1, h2⟩
    have hk : k < w.length := by omega
    rw [List.take_succ_eq_append_getElem hk, suff_one] at h2
    exact ⟨⟨by omega, h2.1⟩, by rw [List.getElem?_eq_getElem hk, h2.2]⟩
  · rintro ⟨⟨h1, h2⟩, h3⟩
    have hk : k < w.length := by
      rw [List.getElem?_eq_some_iff] at h3
      exact h3.1
    rw [List.take_succ_eq_append_getElem hk, suff_one]
    rw [List.getElem?_eq_getElem hk] at h3
    exact ⟨by omega, h2, Option.some.inj h3⟩
theorem pre_zero (w t : List Nat) : Pre w t 0 := ⟨Nat.zero_le _, by simp⟩
theorem at_start {w t : List Nat} {c k : Nat} (h : Longest w t k) : At w t c k := ⟨h.1, fun k' h' _ => h.2 k' h'⟩
theorem at_fall {w t : List Nat} {c k b : Nat} (h : At w t c k) (hne : w[k]? ≠ some c) (hb : IsLB (w.take k) b) : At w t c b := by
  obtain ⟨h1, h2⟩ := h
  obtain ⟨b1, b2, b3⟩ := hb
  have lk : (w.take k).length = k := by rw [List.length_take]; have := h1.1; omega
  rw [lk] at b1 b3
  have tk : ∀ j, j ≤ k → (w.take k).take j = w.take j := fun j hj => by rw [List.take_take, Nat.min_eq_left hj]
  refine ⟨⟨by have := h1.1; omega, ?_⟩, fun k' p' e' => ?_⟩
  · rw [← tk b (by omega)]
    exact b2.trans h1.2
  · have l1 := h2 k' p' e'
    have l2 : k' ≠ k := by rintro rfl; exact hne e'
    have l3 : k' < k := by omega
    refine b3 k' l3 ?_
    rw [tk k' (by omega)]
    refine List.suffix_of_suffix_length_le p'.2 h1.2 ?_
    rw [List.length_take, List.length_take]
    have := h1.1
    omega
theorem at_hit {w t : List Nat} {c k : Nat} (h : At w t c k) (he : w[k]? = some c) : Longest w (t ++ [c]) (k + 1) := by
  refine ⟨pre_succ.mpr ⟨h.1, he⟩, fun k' p' => ?_⟩
  cases k' with
  | zero => omega
  | succ j =>
    have q := pre_succ.mp p'
    have := h.2 j q.1 q.2
    omega
theorem at_miss {w t : List Nat} {c : Nat} (h : At w t c 0) (he : w[0]? ≠ some c) : Longest w (t ++ [c]) 0 := by
  refine ⟨pre_zero _ _, fun k' p' => ?_⟩
  cases k' with
  | zero => omega
  | succ j =>
    have q := pre_succ.mp p'
    have l := h.2 j q.1 q.2
    have e : j = 0 := by omega
    subst e
    exact absurd q.2 he
theorem longest_nil (w : List Nat) : Longest w [] 0 := by
  refine ⟨pre_zero _ _, fun k' p' => ?_⟩
  have h := List.suffix_nil.mp p'.2
  have h2 : (w.take k').length = 0 := by rw [h]; rfl
  rw [List.length_take] at h2
  have := p'.1
  omega
theorem longest_le {w t : List Nat} {k : Nat} (h : Longest w t k) : k ≤ t.length := by
  have h1 := h.1.2.length_le
  rw [List.length_take] at h1
  have := h.1.1
  omega
/-- the longest beginning that ends the letters behind the first one is the longest border -/
theorem lb_of_longest {w : List Nat} {i k : Nat} (hi : i < w.length) (h : Longest w ((w.drop 1).take i) k) : IsLB (w.take (i + 1)) k := by
  have hk := longest_le h
  have ht : ((w.drop 1).take i).length = i := by rw [List.length_take, List.length_drop]; omega
  rw [ht] at hk
  have hl : (w.take (i + 1)).length = i + 1 := by rw [List.length_take]; omega
  have tk : ∀ j, j ≤ i + 1 → (w.take (i + 1)).take j = w.take j := fun j hj => by rw [List.take_take, Nat.min_eq_left hj]
  obtain ⟨a, r, rfl⟩ : ∃ a r, w = a :: r := by
    cases w with
    | nil => simp at hi
    | cons a r => exact ⟨a, r, rfl⟩
  have e : (a :: r).take (i + 1) = a :: ((a :: r).drop 1).take i := by simp
  refine ⟨by omega, ?_, fun b' hb' hs => ?_⟩
  · rw [tk k (by omega), e]
    exact h.1.2.trans (List.suffix_cons _ _)
  · rw [hl] at hb'
    refine h.2 b' ⟨by omega, ?_⟩
    rw [tk b' (by omega), e, List.suffix_cons_iff] at hs
    rcases hs with hs | hs
    · have hq := congrArg List.length hs
      rw [List.length_take, ← e, hl] at hq
      omega
    · exact hs
theorem lb_one {w : List Nat} (h : 0 < w.length) : IsLB (w.take 1) 0 := lb_of_longest h (by simpa using longest_nil w)
theorem lb_unique {p : List Nat} {a b : Nat} (h1 : IsLB p a) (h2 : IsLB p b) : a = b := by
  have := h1.2.2 b h2.1 h2.2.1
  have := h2.2.2 a h1.1 h1.2.1
  omega
/-- the list of the longest borders -/
def Bords (w : List Nat) (L : List Nat) : Prop := L.length = w.length ∧ ∀ j, j < w.length → ∃ b, L[j]? = some b ∧ IsLB (w.take (j + 1)) b
theorem bords_unique {w A B : List Nat} (h1 : Bords w A) (h2 : Bords w B) : A = B := by
  apply List.ext_getElem?
  intro i
  by_cases h : i < w.length
  · obtain ⟨a, ea, la⟩ := h1.2 i h
    obtain ⟨b, eb, lb⟩ := h2.2 i h
    rw [ea, eb, lb_unique la lb]
  · rw [List.getElem?_eq_none (by rw [h1.1]; omega), List.getElem?_eq_none (by rw [h2.1]; omega)]
/-- some first ones of them -/
def BordsTo (w : List Nat) (n : Nat) (L : List Nat) : Prop := L.length = n ∧ ∀ j, j < n → ∃ b, L[j]? = some b ∧ IsLB (w.take (j + 1)) b
theorem bordsTo_one {w : List Nat} (h : 0 < w.length) : BordsTo w 1 [0] := by
  refine ⟨rfl, fun j hj => ?_⟩
  have e : j = 0 := by omega
  subst e
  exact ⟨0, rfl, lb_one h⟩
theorem bordsTo_succ {w L : List Nat} {i k : Nat} (hi : i < w.length) (hB : BordsTo w i L) (h : Longest w ((w.drop 1).take i) k) : BordsTo w (i + 1) (L ++ [k]) := by
  refine ⟨by rw [List.length_append, hB.1]; rfl, fun j hj => ?_⟩
  by_cases hji : j < i
  · obtain ⟨b, e, l⟩ := hB.2 j hji
    exact ⟨b, by rw [List.getElem?_append_left (by rw [hB.1]; exact hji)]; exact e, l⟩
  · have e : j = i := by omega
    subst e
    refine ⟨k, ?_, lb_of_longest hi h⟩
    rw [List.getElem?_append_right (by rw [hB.1]; omega), hB.1, Nat.sub_self]
    rfl
theorem bordsTo_at {w L : List Nat} {n k : Nat} (hB : BordsTo w n L) (h0 : 0 < k) (hk : k ≤ n) : ∃ b, L[k - 1]? = some b ∧ IsLB (w.take k) b ∧ b < k := by
  obtain ⟨b, e, l⟩ := hB.2 (k - 1) (by omega)
  rw [show k - 1 + 1 = k by omega] at l
  refine ⟨b, e, l, ?_⟩
  have := l.1
  rw [List.length_take] at this
  omega
theorem bords_of {w L : List Nat} : BordsTo w w.length L ↔ Bords w L := Iff.rfl

/-! ### a word begins at a place -/
def due (l w : List Nat) : List Nat := (List.range l.length).filter fun p => rd l p w.length == w
theorem mem_due {l w : List Nat} {p : Nat} : p ∈ due l w ↔ p < l.length ∧ rd l p w.length = w := by
  simp [due]
/-- of the first n letters read -/
def dueTo (l w : List Nat) (n : Nat) : List Nat := (List.range n).filter fun p => rd l p w.length == w
theorem dueTo_all (l w : List Nat) : dueTo l w l.length = due l w := rfl
theorem dueTo_succ_yes {l w : List Nat} {n : Nat} (h : rd l n w.length = w) : dueTo l w (n + 1) = dueTo l w n ++ [n] := by
  simp [dueTo, List.range_succ, List.filter_append, h]
theorem dueTo_succ_no {l w : List Nat} {n : Nat} (h : ¬ rd l n w.length = w) : dueTo l w (n + 1) = dueTo l w n := by
  simp [dueTo, List.range_succ, List.filter_append, h]
/-- the whole word was just read -/
theorem longest_full {l w : List Nat} {n k : Nat} (h : Longest w (rd l 0 n) k) : k = w.length ↔ w.length ≤ n ∧ rd l (n - w.length) w.length = w := by
  have key : w <:+ rd l 0 n ↔ w.length ≤ n ∧ rd l (n - w.length) w.length = w := by
    constructor
    · intro hs
      have hl := hs.length_le
      rw [rd_len] at hl
      refine ⟨hl, ?_⟩
      have e := List.suffix_iff_eq_drop.mp hs
      rw [rd_len, rd_drop, Nat.zero_add, show n - (n - w.length) = w.length by omega] at e
      exact e.symm
    · rintro ⟨hl, e⟩
      rw [List.suffix_iff_eq_drop, rd_len, rd_drop, Nat.zero_add, show n - (n - w.length) = w.length by omega]
      exact e.symm
  rw [← key]
  constructor
  · rintro rfl
    have := h.1.2
    rw [List.take_length] at this
    exact this
  · intro hs
    have h1 := h.1.1
    have h2 := h.2 w.length ⟨Nat.le_refl _, by rw [List.take_length]; exact hs⟩
    omega

/-! ### the period -/
theorem getD_lt {l : List Nat} {i : Nat} (h : i < l.length) : l[i]? = some (l.getD i 0) := by
  rw [List.getD_eq_getElem?_getD, List.getElem?_eq_getElem h]
  rfl
theorem line_period {l : List Nat} {b : Nat} (h : IsLB l b) (i : Nat) (hi : i + (l.length - b) < l.length) : l.getD (i + (l.length - b)) 0 = l.getD i 0 := by
  have hb := h.1
  have e := List.suffix_iff_eq_drop.mp h.2.1
  have hl : (l.take b).length = b := by rw [List.length_take]; omega
  rw [hl] at e
  have e2 := congrArg (fun z : List Nat => z[i]?) e
  simp only [List.getElem?_take, List.getElem?_drop] at e2
  rw [if_pos (by omega)] at e2
  rw [List.getD_eq_getElem?_getD, List.getD_eq_getElem?_getD, e2, Nat.add_comm]
theorem line_mult {l : List Nat} {s : Nat} (h : ∀ i, i + s < l.length → l.getD (i + s) 0 = l.getD i 0) : ∀ (m i : Nat), i + m * s < l.length → l.getD (i + m * s) 0 = l.getD i 0
  | 0, i, _ => by simp
  | m + 1, i, hi => by
    have e : i + (m + 1) * s = (i + m * s) + s := by rw [Nat.succ_mul]; omega
    rw [e] at hi ⊢
    rw [h _ hi]
    exact line_mult h m i (by omega)
theorem round_period {l : List Nat} {s : Nat} (_hs : 0 < s) (hsl : s ≤ l.length) (hd : l.length % s = 0) (h : ∀ i, i + s < l.length → l.getD (i + s) 0 = l.getD i 0) (i : Nat) (hi : i < l.length) : l.getD ((i + s) % l.length) 0 = l.getD i 0 := by
  by_cases hlt : i + s < l.length
  · rw [Nat.mod_eq_of_lt hlt]
    exact h i hlt
  · have e1 : (i + s) % l.length = i + s - l.length := by
      rw [Nat.mod_eq_sub_mod (by omega), Nat.mod_eq_of_lt (by omega)]
    rw [e1]
    obtain ⟨q, hq⟩ : ∃ q, l.length = s * q := ⟨l.length / s, by rw [Nat.mul_div_cancel' (Nat.dvd_of_mod_eq_zero hd)]⟩
    have hq0 : 0 < q := by
      rcases Nat.eq_zero_or_pos q with z | z
      · subst z; omega
      · exact z
    obtain ⟨r, rfl⟩ : ∃ r, q = r + 1 := ⟨q - 1, by omega⟩
    have e2 : l.length = r * s + s := by rw [hq, Nat.mul_succ, Nat.mul_comm]
    have e3 : i = (i + s - l.length) + r * s := by omega
    have := line_mult h r (i + s - l.length) (by omega)
    rw [← e3] at this
    exact this.symm
/-- the told period -/
def per (l : List Nat) (b : Nat) : Nat := if l.length % (l.length - b) = 0 then l.length - b else l.length
theorem per_turns {l : List Nat} {b : Nat} (h : IsLB l b) (i : Nat) (hi : i < l.length) : l.getD ((i + per l b) % l.length) 0 = l.getD i 0 := by
  have hb := h.1
  unfold per
  split
  · exact round_period (by omega) (by omega) (by assumption) (fun j hj => line_period h j hj) i hi
  · rw [Nat.add_mod_right, Nat.mod_eq_of_lt hi]
theorem rd_per {l : List Nat} {b : Nat} (h : IsLB l b) (p n : Nat) : rd l (p + per l b) n = rd l p n := by
  have hb := h.1
  unfold rd
  apply List.map_congr_left
  intro k _
  rw [show p + per l b + k = (p + k) + per l b by omega, ← Nat.mod_add_mod]
  rw [per_turns h ((p + k) % l.length) (Nat.mod_lt _ (by omega))]
theorem per_pos {l : List Nat} {b : Nat} (h : IsLB l b) : 0 < per l b ∧ per l b ≤ l.length := by
  have hb := h.1
  unfold per
  split <;> omega

/-! ### rising lists of the same numbers are one list -/
theorem rising_ext : ∀ {a b : List Int}, a.Pairwise (· < ·) → b.Pairwise (· < ·) → (∀ x, x ∈ a ↔ x ∈ b) → a = b
  | [], [], _, _, _ => rfl
  | [], y :: ys, _, _, h => by have := (h y).mpr (by simp); simp at this
  | x :: xs, [], _, _, h => by have := (h x).mp (by simp); simp at this
  | x :: xs, y :: ys, ha, hb, h => by
    rw [List.pairwise_cons] at ha hb
    have e : x = y := by
      have h1 := (h x).mp (by simp)
      have h2 := (h y).mpr (by simp)
      rw [List.mem_cons] at h1 h2
      rcases h1 with h1 | h1
      · exact h1
      · rcases h2 with h2 | h2
        · exact h2.symm
        · have := ha.1 y h2
          have := hb.1 x h1
          omega
    subst e
    congr 1
    refine rising_ext ha.2 hb.2 fun z => ?_
    constructor
    · intro hz
      have := (h z).mp (List.mem_cons_of_mem _ hz)
      rw [List.mem_cons] at this
      rcases this with rfl | this
      · have := ha.1 _ hz; omega
      · exact this
    · intro hz
      have := (h z).mpr (List.mem_cons_of_mem _ hz)
      rw [List.mem_cons] at this
      rcases this with rfl | this
      · have := hb.1 _ hz; omega
      · exact this
theorem rising_of {s : List Int} (h : s.Pairwise (· ≤ ·)) (n : s.Nodup) : s.Pairwise (· < ·) := by
  have := h.and n
  exact this.imp fun ⟨h1, h2⟩ => by omega
/-- sorted, and the same numbers, none twice: that is it -/
theorem sorted_is {s m d : List Int} (hp : List.Perm s m) (hs : s.Pairwise (· ≤ ·)) (hn : m.Nodup) (hd : d.Pairwise (· < ·)) (h : ∀ x, x ∈ m ↔ x ∈ d) : s = d := by
  refine rising_ext (rising_of hs (hp.nodup_iff.mpr hn)) hd fun x => ?_
  rw [hp.mem_iff]
  exact h x
theorem due_rising (l w : List Nat) : ((due l w).map fun n : Nat => (n : Int)).Pairwise (· < ·) := by
  rw [List.pairwise_map]
  refine List.Pairwise.imp (fun {a b} (h : a < b) => by omega) ?_
  exact List.Pairwise.filter _ List.pairwise_lt_range
end My
namespace My
open PySem L2 PyProof.Rows
/-- a text by its letters -/
abbrev T (l : List Nat) : V := .str ⟨l.toArray⟩
section
variable {X : Cx}
theorem mul_flat (l : List Nat) (n : Nat) : ((List.replicate n l.toArray).foldl (· ++ ·) (#[] : Array Nat)) = (List.replicate n l).flatten.toArray := by
  have h : ∀ (m : Nat) (acc : List Nat), (List.replicate m l.toArray).foldl (· ++ ·) acc.toArray = (acc ++ (List.replicate m l).flatten).toArray := by
    intro m
    induction m with
    | zero => intro acc; simp
    | succ m ih =>
      intro acc
      rw [List.replicate_succ, List.foldl_cons]
      have e : acc.toArray ++ l.toArray = (acc ++ l).toArray := by simp
      rw [e, ih, List.replicate_succ, List.flatten_cons, List.append_assoc]
  have := h n []
  simpa using this
theorem op_mul_str : OpR X (binaryOp .Mult) (fun x y H Q => ∃ l n, x = T l ∧ y = .int (n : Nat) ∧ 1 ≤ n ∧ n ≤ 1000 ∧ l.length ≤ 1000 ∧ Q (T (List.replicate n l).flatten) H) := by
  intro pins s σ H x y v u Q I rx ry h
  obtain ⟨l, n, rfl, rfl, h1, h2, h3, q⟩ := h
  obtain ⟨t, rfl⟩ := rx
  obtain ⟨t', rfl⟩ := ry
  have hlen : (⟨l.toArray⟩ : Str).length = l.length := by simp [Str.length]
  have ok : MulOk ⟨l.toArray⟩ (n : Int) := by
    refine ⟨?_, fun _ _ => ?_, fun _ _ => ?_⟩
    · have a1 : decide ((n : Int) < -(2 ^ 63 : Int)) = false := decide_eq_false (by omega)
      have a2 : decide ((n : Int) ≥ 2 ^ 63) = false := decide_eq_false (by omega)
      rw [a1, a2]
      rfl
    · rw [hlen]
      have : (1000000 : Int) ≤ (2 ^ 63 - 1) / (n : Int) := by
        rw [Int.le_ediv_iff_mul_le (by omega)]
        omega
      omega
    · rw [hlen]
      have e : (n : Int).toNat = n := by omega
      rw [e]
      have : l.length * n ≤ 1000 * 1000 := Nat.mul_le_mul h3 h2
      have z : (1000000 : Nat) ≤ sizeLine := by decide
      simp [Builtin.Str.tooLong]
      omega
  refine SB.mul ok fun t'' k => ?_
  have em : Txt.mul ⟨l.toArray⟩ (n : Int) = ⟨(List.replicate n l).flatten.toArray⟩ := by
    unfold Txt.mul
    rw [if_neg (by omega)]
    split
    · rename_i c
      rw [hlen] at c
      simp at c
      rcases c with c | c
      · have : n = 1 := by omega
        subst this
        simp
      · subst c
        simp
    · have e : (n : Int).toNat = n := by omega
      rw [e]
      exact congrArg Str.mk (mul_flat l n)
  rw [em]
  exact ⟨.str _, H, I.tok _, ⟨_, rfl⟩, q⟩
theorem call_repr_bl : CallR X (.builtin "repr") (fun xs H Q => ∃ b, xs = [.bl b] ∧ Q (.str (if b then "True" else "False")) H) := by
  intro pins s σ H xs us Q I r h
  obtain ⟨b, rfl, q⟩ := h
  obtain ⟨u, rfl, e⟩ := vals1 r
  cases e
  exact PySem.P.repr_of_bool ⟨.str _, H, I.tok _, ⟨_, rfl⟩, q⟩
/-- a module's constant that is an int -/
theorem pe_globI {x : Str} {n : Int} {pos : Pos} (h : ∃ t, X.mg x = some (.int n t)) (hg : Gl X x := by rfl) (hd : (x == ("__debug__" : Str)) = false := by decide) : PE X (.Name x pos) (tC (.int n)) := by
  obtain ⟨t, e⟩ := h
  exact pe_glob (v := .int n) hg e ⟨t, rfl⟩ hd
variable {CX : CXT} {k : Nat} {f : Addr} {fd : FuncData} {ps ks : List Str} {sp : Sp} {E : XK} {x : Str} {p pos : Pos} {kws : List Keyword} {tk : TA} {g : List Value → List Value → List Value} {gV : List V → List V → List V}
/-- f(a=.., b=..) -/
theorem pe_callKK (F : FnOk X.prog X.w X.K X.mg X.base CX k f fd ps sp) (hr : Room k X.A) (hg : Gl X x) (hm : X.mg x = some (.ref f)) (hk : PySem.W.keepIn X.K (.ref f) = true) (hb : KBinds X.K fd ps ks g gV) (hx : Passes CX X E)
    (hkw : PK X kws tk) (hall : (backToKw pos (keywordEach kws X.env)).all (·.1.isSome) = true := by rfl) (hks : (backToKw pos (keywordEach kws X.env)).filterMap (·.1) = ks := by rfl)
    (hdb : (x == ("__debug__" : Str)) = false := by decide)
    (hpl : ((backTo pos (starEach [] X.env)).any (·.1) || (backToKw pos (keywordEach kws X.env)).any (·.1.isNone)) = false := by rfl) :
    PE X (.Call (.Name x p) [] kws pos) (tCallK sp gV E tNil tk) := by
  refine ⟨fun pins s σ H Q I h => ?_⟩
  refine wpAny_Call_Name_kw (ld_glob I hg hm ?_ hdb)
  refine PySem.W.callWith_KW0 (h₀ := X.base) I.ok.mod.kin hk hall (thn (hkw.run pos pins s σ H _ I h) fun ws s2 ⟨zs, H2, I2, rz, q2⟩ => ⟨I2.kIn, ?_⟩) hpl
  rw [hks]
  exact run_fnk F hr hb hx I2 .nil rz q2
end
/-! ### a def that stands, and one that keeps a promise -/
def Def (K : PySem.W.Frag) (mg : Str → Option Value) (x : Str) (st : Stmt) (ps : List Str) : Prop := ∃ (f : Addr) (fd : FuncData), Fun K x x st f fd ∧ mg x = some (.ref f) ∧ Binds K fd ps []
section
variable {P : Program} {w : World} {K : PySem.W.Frag} {mg : Str → Option Value} {base : Heap}
def Good (P : Program) (w : World) (K : PySem.W.Frag) (mg : Str → Option Value) (base : Heap) (x : Str) (st : Stmt) (ps : List Str) (k : Nat) (sp : Sp) : Prop := ∃ (f : Addr) (fd : FuncData), FnOk P w K mg base CX0 k f fd ps sp ∧ mg x = some (.ref f) ∧ PySem.W.keepIn K (.ref f) = true ∧ Binds K fd ps [] ∧ Fun K x x st f fd
theorem Def.good {x : Str} {st : Stmt} {ps : List Str} {k : Nat} {sp : Sp} (D : Def K mg x st ps) (h : ∀ f fd, Fun K x x st f fd → FnOk P w K mg base CX0 k f fd ps sp) : Good P w K mg base x st ps k sp := by
  obtain ⟨f, fd, F, m, b⟩ := D
  exact ⟨f, fd, h f fd F, m, F.kp, b, F⟩
theorem def_mk {h : Heap} (X : K.In h) (G : h.Ns mainGlobals mg) {x : Str} {st : Stmt} {ps : List Str} {f : Addr} {oc : Value} {od an : Option Addr} {osl : Array (Option Value)} {kV doc pm cdv ct : Value} (a : PySem.W.nsIn K mainGlobals x = some (some (.ref f)))
    (l : K.lookup f = some ⟨oc, od, .func (PySem.W.fnOf x x (defArgs st) (defBody st) (defScope st) .none kV doc pm an cdv ct), osl⟩) (c : PySem.W.codeIn K cdv x = true) (k : PySem.W.keepIn K (.ref f) = true)
    (hb : ∀ (kV doc pm : Value) (an : Option Addr) (cdv ct : Value) (us : List Value), us.length = ps.length → bindArgs (PySem.W.fnOf x x (defArgs st) (defBody st) (defScope st) .none kV doc pm an cdv ct) ⟨us, []⟩ = pure (ps.zip us)) : Def K mg x st ps :=
  ⟨f, _, fun_mk l c k, PySem.W.mg_of X G a, (fun_mk l c k).binds hb⟩
theorem fun_kbinds {x qual : Str} {st : Stmt} {f : Addr} {fd : FuncData} {ps ks : List Str} (F : Fun K x qual st f fd) (g : List Value → List Value → List Value) (gV : List V → List V → List V)
    (hrel : ∀ {vs : List V} {us : List Value} {zs : List V} {ws : List Value}, Vals vs us → Vals zs ws → Vals (gV vs zs) (g us ws))
    (h : ∀ (kV doc pm : Value) (an : Option Addr) (cdv ct : Value) (us ws : List Value), (g us ws).length = ps.length → bindArgs (PySem.W.fnOf x qual (defArgs st) (defBody st) (defScope st) .none kV doc pm an cdv ct) ⟨us, ks.zip ws⟩ = pure (ps.zip (g us ws))) : KBinds K fd ps ks g gV := by
  obtain ⟨oc, od, kV, doc, pm, an, cdv, ct, osl, rfl, lk, hcd⟩ := F.ex
  exact ⟨fun s us ws X hl => .of_eq (h kV doc pm an cdv ct us ws hl), hrel⟩
/-- two keywords, in the parameters' order, or turned; one -/
def g12 {α : Type} : List α → List α → List α | [], [a, b] => [a, b] | _, _ => []
def g21 {α : Type} : List α → List α → List α | [], [a, b] => [b, a] | _, _ => []
def g1 {α : Type} : List α → List α → List α | [], [a] => [a] | _, _ => []
theorem g12_inv {α : Type} {us ws : List α} (h : (g12 us ws).length = 2) : us = [] ∧ ∃ a b, ws = [a, b] := by
  match us, ws, h with
  | [], [a, b], _ => exact ⟨rfl, a, b, rfl⟩
  | [], [], h => exact absurd h (by simp [g12, g21, g1])
  | [], [_], h => exact absurd h (by simp [g12])
  | [], _ :: _ :: _ :: _, h => exact absurd h (by simp [g12])
  | _ :: _, _, h => exact absurd h (by simp [g12])
theorem g21_inv {α : Type} {us ws : List α} (h : (g21 us ws).length = 2) : us = [] ∧ ∃ a b, ws = [a, b] := by
  match us, ws, h with
  | [], [a, b], _ => exact ⟨rfl, a, b, rfl⟩
  | [], [], h => exact absurd h (by simp [g12, g21, g1])
  | [], [_], h => exact absurd h (by simp [g21])
  | [], _ :: _ :: _ :: _, h => exact absurd h (by simp [g21])
  | _ :: _, _, h => exact absurd h (by simp [g21])
theorem g1_inv {α : Type} {us ws : List α} (h : (g1 us ws).length = 1) : us = [] ∧ ∃ a, ws = [a] := by
  match us, ws, h with
  | [], [a], _ => exact ⟨rfl, a, rfl⟩
  | [], [], h => exact absurd h (by simp [g12, g21, g1])
  | [], _ :: _ :: _, h => exact absurd h (by simp [g1])
  | _ :: _, _, h => exact absurd h (by simp [g1])
theorem rel12 {vs : List V} {us : List Value} {zs : List V} {ws : List Value} (a : Vals vs us) (b : Vals zs ws) : Vals (g12 vs zs) (g12 us ws) := by
  cases a with
  | nil =>
    cases b with
    | nil => exact .nil
    | cons r b =>
      cases b with
      | nil => exact .nil
      | cons r2 b =>
        cases b with
        | nil => exact .cons r (.cons r2 .nil)
        | cons r3 b => exact .nil
  | cons r a => exact .nil
theorem rel21 {vs : List V} {us : List Value} {zs : List V} {ws : List Value} (a : Vals vs us) (b : Vals zs ws) : Vals (g21 vs zs) (g21 us ws) := by
  cases a with
  | nil =>
    cases b with
    | nil => exact .nil
    | cons r b =>
      cases b with
      | nil => exact .nil
      | cons r2 b =>
        cases b with
        | nil => exact .cons r2 (.cons r .nil)
        | cons r3 b => exact .nil
  | cons r a => exact .nil
theorem rel1 {vs : List V} {us : List Value} {zs : List V} {ws : List Value} (a : Vals vs us) (b : Vals zs ws) : Vals (g1 vs zs) (g1 us ws) := by
  cases a with
  | nil =>
    cases b with
    | nil => exact .nil
    | cons r b =>
      cases b with
      | nil => exact .cons r .nil
      | cons r3 b => exact .nil
  | cons r a => exact .nil
end
end My
namespace My
open PySem L2 PyProof.Rows
/-! ### methods, properties, __init__ of a class at C -/
section
variable {P : Program} {w : World} {K : PySem.W.Frag} {mg : Str → Option Value} {base : Heap} {C : Addr}
def DefM (K : PySem.W.Frag) (C : Addr) (x qual : Str) (st : Stmt) (ps : List Str) : Prop := ∃ (f : Addr) (fd : FuncData), Fun K x qual st f fd ∧ Meth K C x f ∧ Binds K fd ps []
def DefP (K : PySem.W.Frag) (C : Addr) (x qual : Str) (st : Stmt) (ps : List Str) : Prop := ∃ (p f : Addr) (fd : FuncData), Fun K x qual st f fd ∧ PropOf K C x p f ∧ Binds K fd ps []
def DefI (K : PySem.W.Frag) (C : Addr) (x qual : Str) (st : Stmt) (ps : List Str) : Prop := ∃ (f : Addr) (fd : FuncData), Fun K x qual st f fd ∧ Mk K C f ∧ Binds K fd ps []
def GoodM (P : Program) (w : World) (K : PySem.W.Frag) (mg : Str → Option Value) (base : Heap) (C : Addr) (x qual : Str) (st : Stmt) (ps : List Str) (k : Nat) (sp : Sp) : Prop := ∃ (f : Addr) (fd : FuncData), FnOk P w K mg base CX0 k f fd ps sp ∧ Meth K C x f ∧ Binds K fd ps [] ∧ Fun K x qual st f fd
def GoodP (P : Program) (w : World) (K : PySem.W.Frag) (mg : Str → Option Value) (base : Heap) (C : Addr) (x _qual : Str) (_st : Stmt) (ps : List Str) (k : Nat) (sp : Sp) : Prop := ∃ (p f : Addr) (fd : FuncData), FnOk P w K mg base CX0 k f fd ps sp ∧ PropOf K C x p f ∧ Binds K fd ps []
def GoodI (P : Program) (w : World) (K : PySem.W.Frag) (mg : Str → Option Value) (base : Heap) (C : Addr) (x _qual : Str) (_st : Stmt) (ps : List Str) (k : Nat) (sp : Sp) : Prop := ∃ (f : Addr) (fd : FuncData), FnOk P w K mg base CX0 k f fd ps sp ∧ Mk K C f ∧ Binds K fd ps []
theorem DefM.good {x qual : Str} {st : Stmt} {ps : List Str} {k : Nat} {sp : Sp} (D : DefM K C x qual st ps) (h : ∀ f fd, Fun K x qual st f fd → FnOk P w K mg base CX0 k f fd ps sp) : GoodM P w K mg base C x qual st ps k sp := by
  obtain ⟨f, fd, F, m, b⟩ := D
  exact ⟨f, fd, h f fd F, m, b, F⟩
theorem DefP.good {x qual : Str} {st : Stmt} {ps : List Str} {k : Nat} {sp : Sp} (D : DefP K C x qual st ps) (h : ∀ f fd, Fun K x qual st f fd → FnOk P w K mg base CX0 k f fd ps sp) : GoodP P w K mg base C x qual st ps k sp := by
  obtain ⟨p, f, fd, F, m, b⟩ := D
  exact ⟨p, f, fd, h f fd F, m, b⟩
theorem DefI.good {x qual : Str} {st : Stmt} {ps : List Str} {k : Nat} {sp : Sp} (D : DefI K C x qual st ps) (h : ∀ f fd, Fun K x qual st f fd → FnOk P w K mg base CX0 k f fd ps sp) : GoodI P w K mg base C x qual st ps k sp := by
  obtain ⟨f, fd, F, m, b⟩ := D
  exact ⟨f, fd, h f fd F, m, b⟩
end
def g123 {α : Type} : List α → List α → List α | [], [a, b, c] => [a, b, c] | _, _ => []
theorem g123_inv {α : Type} {us ws : List α} (h : (g123 us ws).length = 3) : us = [] ∧ ∃ a b c, ws = [a, b, c] := by
  unfold g123 at h
  split at h
  · exact ⟨rfl, _, _, _, rfl⟩
  · simp at h
theorem rel123 {vs : List V} {us : List Value} {zs : List V} {ws : List Value} (a : Vals vs us) (b : Vals zs ws) : Vals (g123 vs zs) (g123 us ws) := by
  cases a with
  | cons h t => exact .nil
  | nil => cases b with
    | nil => exact .nil
    | cons h1 t => cases t with
      | nil => exact .nil
      | cons h2 t => cases t with
        | nil => exact .nil
        | cons h3 t => cases t with
          | nil => exact .cons h1 (.cons h2 (.cons h3 .nil))
          | cons h4 t => exact .nil
/-- self, then one keyword -/
def gm1 {α : Type} : List α → List α → List α | [a], [b] => [a, b] | _, _ => []
theorem gm1_inv {α : Type} {us ws : List α} (h : (gm1 us ws).length = 2) : ∃ a b, us = [a] ∧ ws = [b] := by
  unfold gm1 at h
  split at h
  · exact ⟨_, _, rfl, rfl⟩
  · simp at h
theorem relm1 {vs : List V} {us : List Value} {zs : List V} {ws : List Value} (a : Vals vs us) (b : Vals zs ws) : Vals (gm1 vs zs) (gm1 us ws) := by
  cases a with
  | nil => exact .nil
  | cons h t => cases t with
    | cons h2 t => exact .nil
    | nil => cases b with
      | nil => exact .nil
      | cons h1 t => cases t with
        | nil => exact .cons h (.cons h1 .nil)
        | cons h2 t => exact .nil
/-! ### a list or a tuple, gone through -/
section
variable {X : Cx}
theorem pi_or {tg e : Expr} {w1 w2 : TI} (h1 : PI X tg e w1) (h2 : PI X tg e w2) : PI X tg e (fun σ H R => w1 σ H R ∨ w2 σ H R) := by
  constructor
  intro pins s σ H R I h
  rcases h with h | h
  · exact h1.run pins s σ H R I h
  · exact h2.run pins s σ H R I h
end
end My
/-! list(range(n)) -/
namespace My
open PySem PySem.Spec PyProof.Rows L2
section
variable {X : Cx}
theorem cr_range1 : CallR X (.type "range") (fun vs H Q => ∃ j, vs = [V.int j] ∧ ∀ p, H p = none → Q (.ref p) (upd H p (.rng 0 j))) := by
  intro pins s σ H vs us Q I r h
  obtain ⟨j, rfl, q⟩ := h
  obtain ⟨u1, rfl, ri⟩ := vals1 r
  obtain ⟨t, rfl⟩ := ri
  refine call_range_1 ⟨.ref s.heap.objs.size, upd H s.heap.objs.size (.rng 0 j), I.laid (t' := s.toks + 1 + 1) (fun b o e => Heap.get?_push_of_some _ e) (Nat.le_refl _) ?_, rfl, q _ (I.hok.fresh (Nat.le_refl _))⟩
  exact ⟨s.toks, t, s.toks + 1, Heap.get?_push_size _ rfl⟩
theorem call_listRng (hc : X.calm = true) : CallR X (.type "list") (fun xs H Q => ∃ (p : Addr) (n : Nat), xs = [.ref p] ∧ H p = some (.rng 0 (n : Int)) ∧ n ≤ 1000 ∧ ∀ q, H q = none → Q (.ref q) (upd H q (.lst ((List.range n).map fun i : Nat => V.int (i : Int))))) := by
  intro pins s σ H xs us Q I r h
  obtain ⟨p, n, e, hk, hn, q⟩ := h
  subst e
  obtain ⟨u, eu, rx⟩ := vals1 r
  subst eu
  obtain rfl : u = Value.ref p := rx
  obtain ⟨t1, t2, t3, ho⟩ := (show ObjOk X.prog X.w H s.heap p (.rng 0 (n : Int)) from I.hok p _ hk)
  refine call_list_range (n := n) (I.ok.hd hc) ho (small_one (by omega) (by omega) (by omega) (by omega)) (by rw [rangeSize_one]; split <;> omega) (by omega) fun h' tk items cap hkeep hS hacc => ?_
  refine ⟨.ref s.heap.objs.size, upd H s.heap.objs.size (.lst ((List.range n).map fun i : Nat => V.int (i : Int))), I.laid hkeep (Nat.le_refl _) (show ObjOk X.prog X.w _ _ _ (.lst ((List.range n).map fun i : Nat => V.int (i : Int))) from ⟨?_, items.toList, cap, ?_, ?_⟩), rfl, q _ (I.hok.fresh (Nat.le_refl _))⟩
  · rw [List.length_map, List.length_range]; exact Nat.le_trans hn (by decide)
  · have el : items.toList.length = n := by rw [Array.length_toList]; exact hacc.1
    refine vals_of_at (by rw [List.length_map, List.length_range, el]) fun j x z h1 h2 => ?_
    obtain ⟨t, e⟩ := hacc.2 j z (by rw [← Array.getElem?_toList]; exact h2)
    have hj : j < n := by rw [← el]; exact (List.getElem?_eq_some_iff.mp h2).1
    rw [List.getElem?_map, List.getElem?_range hj] at h1
    cases h1
    exact ⟨t, by rw [e]; simp⟩
  · rw [Array.toArray_toList]; exact hS
end
end My
namespace My
open PySem L2 PyProof.Rows
/-! ### == by an own __eq__, whatever it answers -/
section
variable {X : Cx}
theorem op_eqOwn {CX : CXT} {k : Nat} {C f : Addr} {fd : FuncData} {ps : List Str} {sp : Sp} {E : XK} (F : FnOk X.prog X.w X.K X.mg X.base CX k f fd ps sp) (hr : Room k X.A)
    (hs : PySem.W.findIn X.K (.ref C) "__eq__" = some (some (.ref f))) (hf : PySem.W.isFn X.K (.ref f) = true) (hb : Binds X.K fd ps []) (hx : Passes CX X E) :
    OpR X (compareOp .Eq) (fun x y H Q => ∃ a b dx dy fs gs, x = .ref a ∧ y = .ref b ∧ H a = some (.ins C dx fs) ∧ H b = some (.ins C dy gs) ∧ sp [x, y] H (fun v H' => ∃ c, v = .bl c ∧ Q (.bl c) H') E) := by
  intro pins s σ H x y v u Q I rx ry h
  obtain ⟨a, b, dx, dy, fs, gs, rfl, rfl, ha, hb', hsp⟩ := h
  cases rx
  cases ry
  show wpAny (model X.prog X.w) X.A (richCompare .Eq (.ref a) (.ref b)) (EP X pins σ Q) X.xe s
  obtain ⟨_, J, _⟩ := ins_get I.hok ha
  obtain ⟨_, J', _⟩ := ins_get I.hok hb'
  obtain ⟨_, J, _⟩ := J.look
  obtain ⟨_, J', _⟩ := J'.look
  obtain ⟨m, hF⟩ := I.fr
  refine PySem.W.cmp_K (op := .Eq) (tb := .ref C) hr.units0 hF I.ok.mod.kin J J'.type (by simp [PySem.W.notFirst]) hs hf ?_
  have vals : Vals [V.ref a, V.ref b] [Value.ref a, Value.ref b] := .cons rfl (.cons rfl .nil)
  have e0 : Env0 X.prog X.w X.K X.mg X.base X.A X.stack s H := I.env0
  have hl := F.len _ _ _ _ hsp
  refine wpAny_call (codeAny_mono (F.run X.A X.stack s H ⟨[.ref a, .ref b], []⟩ [.ref a, .ref b] [.ref a, .ref b] _ E hr e0 (by
    have bd := hb s [.ref a, .ref b] I.kIn (by simpa using hl)
    simpa using bd) vals hsp) fun r s' hq => ?_)
  cases r with
  | error e => exact hx pins σ H s e s' I hq
  | ok fl =>
    cases fl with
    | ret w =>
      obtain ⟨z, H', I', rz, c, ez, qz⟩ := I.after hq
      subst ez
      cases rz
      exact ⟨.bl c, H', I', rfl, qz⟩
    | next => exact False.elim hq
    | brk => exact False.elim hq
    | cont => exact False.elim hq
end
end My
namespace My
open PySem L2 PyProof.Rows PySem.W
/-! ### != of instances with an own __eq__ and the object's __ne__ -/
section
variable {prog : Program} {w : World} {A : Around} {E : Value → Shared → Prop} {s : Shared} {K : PySem.W.Frag} {x y C L f : Addr} {h₀ : Heap} {m : Str → Option Value} {ox : Obj} {od : Option Obj}
theorem check_ne {Q : Unit → Shared → Prop} (X : K.In s.heap) (I : PySem.W.InstAt s.heap x ox C od) (hm : PySem.W.mroIn K C (.type "object") = some true) (hq : Q () s) :
    wpAny (model prog w) A (checkBuiltinCall "object.__ne__" ⟨[.ref x, .ref y], []⟩) Q E s := by
  have L1 := PySem.W.looks_mroIn (M := model prog w) X hm
  simp only [checkBuiltinCall, F.cmpKind_ne, F.cmpSplit_ne]
  refine wpAny_bind ?_
  unfold isInstance
  refine wpAny_bind (I.type.here (L1.here ?_))
  simp only [Bool.not_true, Bool.false_eq_true, if_false]
  exact wpAny_pure hq
theorem entry_ne {Q : Fin → Shared → Prop} (hu : A.units < cLine) (X : K.In s.heap) (I : PySem.W.InstAt s.heap x ox C od) (hs : PySem.W.findIn K (.ref C) "__eq__" = some (some (.ref f))) (hf : PySem.W.isFn K (.ref f) = true)
    (hcall : wpAny (model prog w) A (call (.ref f) [.ref x, .ref y]) (fun v s' => ∃ b, v = .bool b ∧ Q (.done (.ret (.bool (!b)))) s') E s) :
    wpAny (model prog w) A (Builtin.«object.__ne__» ⟨[.ref x, .ref y], []⟩) Q E s := by
  unfold Builtin.«object.__ne__»
  repeat (first
    | with_reducible refine wpAny_cRoomFor hu ?_
    | (refine wpAny_bind (m := callSpecialIfBound? (.ref x) (Str.ofString "__eq__") [.ref y])
        (PySem.W.ifBound_K X I hs hf (wpAny_mono hcall (fun r s' hr => by
          obtain ⟨b, rfl, hq⟩ := hr
          repeat (first | exact hq | exact wpAny_pure hq | exact wpAny_truthy_bool hq | (refine wpAny_bind (m := truthy (.bool _)) (wpAny_truthy_bool ?_)) | wp_step)) fun _ _ e => e)))
    | wp_step)
theorem try_ne {Q : Option Value → Shared → Prop} (hu : A.units + 1 < cLine) (X : K.In s.heap) (I : PySem.W.InstAt s.heap x ox C od) (hm : PySem.W.mroIn K C (.type "object") = some true) (hn : PySem.W.findIn K (.ref C) "__ne__" = some (some (.builtin "object.__ne__")))
    (hs : PySem.W.findIn K (.ref C) "__eq__" = some (some (.ref f))) (hf : PySem.W.isFn K (.ref f) = true)
    (hcall : wpAny (model prog w) A.in1 (call (.ref f) [.ref x, .ref y]) (fun v s' => ∃ b, v = .bool b ∧ Q (some (.bool (!b))) s') E s) :
    wpAny (model prog w) A (tryCompare (.ref x) "__ne__" (.ref y)) Q E s := by
  have S := F.cmp_object.ne
  have one : wpAny (model prog w) A (callSpecialIfBound? (.ref x) "__ne__" [.ref y]) (fun r s' => ∃ b, r = some (.bool b) ∧ Q (some (.bool b)) s') E s := by
    simp only [callSpecialIfBound?, bindSpecialIfBound?]
    refine wpAny_holding (wpAny_bind (wpAny_bind (wpAny_bind (I.type.here ((PySem.W.looks_findIn X hn).here ?_)))))
    simp only [S.bind]
    refine wpAny_bind (wpAny_askSetting (wpAny_ite ?_))
    have fin : wpAny (model prog w) A (call (.builtin "object.__ne__") ([.ref x] ++ [.ref y]) >>= fun v => pure (some v)) (fun r s' => ∃ b, r = some (.bool b) ∧ Q (some (.bool b)) s') E s := by
      refine wpAny_bind (wpAny_call (codeAny_call_builtin S.plain F.cmpEntry_ne (check_ne X I hm (entry_ne (A := A.in1) hu X I hs hf (wpAny_mono hcall (fun v s' hv => ?_) fun _ _ e => e)))))
      obtain ⟨b, rfl, hq⟩ := hv
      exact ⟨b, rfl, wpAny_pure ⟨_, rfl, hq⟩⟩
    split
    · exact wpAny_bind (wpAny_pure (wpAny_pure fin))
    · exact wpAny_tryCatch (wpAny_bind (wpAny_pure (wpAny_pure fin)))
  unfold tryCompare
  refine wpAny_bind (wpAny_mono one (fun v s' hv => ?_) fun _ _ e => e)
  obtain ⟨b, rfl, hq⟩ := hv
  exact wpAny_pure hq
theorem ne_own {Q : Value → Shared → Prop} {oy : Obj} {odY : Option Obj} (hu : A.units + 1 < cLine) (X : K.In s.heap) (I : PySem.W.InstAt s.heap x ox C od) (J : PySem.W.InstAt s.heap y oy C odY) (hm : PySem.W.mroIn K C (.type "object") = some true) (hn : PySem.W.findIn K (.ref C) "__ne__" = some (some (.builtin "object.__ne__")))
    (hs : PySem.W.findIn K (.ref C) "__eq__" = some (some (.ref f))) (hf : PySem.W.isFn K (.ref f) = true)
    (hcall : wpAny (model prog w) A.in1 (call (.ref f) [.ref x, .ref y]) (fun v s' => ∃ b, v = .bool b ∧ Q (.bool (!b)) s') E s) :
    wpAny (model prog w) A (richCompare .NotEq (.ref x) (.ref y)) Q E s := by
  unfold richCompare
  simp only [oneThing_ref]
  refine wpAny_holding ?_
  refine wpAny_bind (wpAny_cRoomFor (Nat.lt_of_succ_lt hu) ?_)
  rw [cmpInfo_NotEq]
  dsimp only
  refine wpAny_bind (I.type.here (wpAny_bind (J.type.here ?_)))
  rw [show (Value.ref C != Value.ref C) = false from by simp]
  simp only [Bool.false_eq_true, if_false]
  refine wpAny_bind (wpAny_pure ?_)
  simp only [Bool.false_eq_true, if_false]
  refine wpAny_bind (try_ne hu X I hm hn hs hf (wpAny_mono hcall (fun v s' hv => ?_) fun _ _ e => e))
  obtain ⟨b, rfl, hq⟩ := hv
  exact ⟨b, rfl, wpAny_pure hq⟩
end
section
variable {X : Cx}
theorem op_neOwn {CX : CXT} {k : Nat} {C f : Addr} {fd : FuncData} {ps : List Str} {sp : Sp} {E : XK} (F : FnOk X.prog X.w X.K X.mg X.base CX k f fd ps sp) (hr : Room (k + 1) X.A) (hm : PySem.W.mroIn X.K C (.type "object") = some true) (hn : PySem.W.findIn X.K (.ref C) "__ne__" = some (some (.builtin "object.__ne__")))
    (hs : PySem.W.findIn X.K (.ref C) "__eq__" = some (some (.ref f))) (hf : PySem.W.isFn X.K (.ref f) = true) (hb : Binds X.K fd ps []) (hx : Passes CX X E) :
    OpR X (compareOp .NotEq) (fun x y H Q => ∃ a b dx dy fs gs, x = .ref a ∧ y = .ref b ∧ H a = some (.ins C dx fs) ∧ H b = some (.ins C dy gs) ∧ sp [x, y] H (fun v H' => ∃ c, v = .bl c ∧ Q (.bl (!c)) H') E) := by
  intro pins s σ H x y v u Q I rx ry h
  obtain ⟨a, b, dx, dy, fs, gs, rfl, rfl, ha, hb', hsp⟩ := h
  cases rx
  cases ry
  show wpAny (model X.prog X.w) X.A (richCompare .NotEq (.ref a) (.ref b)) (EP X pins σ Q) X.xe s
  obtain ⟨_, J, _⟩ := ins_get I.hok ha
  obtain ⟨_, J', _⟩ := ins_get I.hok hb'
  obtain ⟨_, J, _⟩ := J.look
  obtain ⟨_, J', _⟩ := J'.look
  have hu : X.A.units + 1 < cLine := hu_of hr
  refine ne_own hu I.kIn J J' hm hn hs hf ?_
  have vals : Vals [V.ref a, V.ref b] [Value.ref a, Value.ref b] := .cons rfl (.cons rfl .nil)
  have e0 : Env0 X.prog X.w X.K X.mg X.base X.A.in1 X.stack s H := I.env0.in1
  have hl := F.len _ _ _ _ hsp
  refine wpAny_call (codeAny_mono (F.run X.A.in1 X.stack s H ⟨[.ref a, .ref b], []⟩ [.ref a, .ref b] [.ref a, .ref b] _ E hr.in1 e0 (by
    have bd := hb s [.ref a, .ref b] I.kIn (by simpa using hl)
    simpa using bd) vals hsp) fun r s' hq => ?_)
  cases r with
  | error e => exact hx pins σ H s e s' I hq
  | ok fl =>
    cases fl with
    | ret w =>
      obtain ⟨z, H', I', rz, c, ez, qz⟩ := I.after hq
      subst ez
      cases rz
      exact ⟨c, rfl, .bl (!c), H', I', rfl, qz⟩
    | next => exact False.elim hq
    | brk => exact False.elim hq
    | cont => exact False.elim hq
/-- == of an instance with an own __eq__ and a dict -/
theorem op_eqDict {CX : CXT} {k : Nat} {C f : Addr} {fd : FuncData} {ps : List Str} {sp : Sp} {E : XK} (F : FnOk X.prog X.w X.K X.mg X.base CX k f fd ps sp) (hr : Room k X.A)
    (hs : PySem.W.findIn X.K (.ref C) "__eq__" = some (some (.ref f))) (hf : PySem.W.isFn X.K (.ref f) = true) (hnf : PySem.W.notFirst X.K C (.type "dict") = true) (hb : Binds X.K fd ps []) (hx : Passes CX X E) :
    OpR X (compareOp .Eq) (fun x y H Q => ∃ a d dx fs kvs, x = .ref a ∧ y = .ref d ∧ H a = some (.ins C dx fs) ∧ H d = some (.dK kvs) ∧ sp [x, y] H (fun v H' => ∃ c, v = .bl c ∧ Q (.bl c) H') E) := by
  intro pins s σ H x y v u Q I rx ry h
  obtain ⟨a, b, dx, fs, kvs, rfl, rfl, ha, hb', hsp⟩ := h
  cases rx
  cases ry
  show wpAny (model X.prog X.w) X.A (richCompare .Eq (.ref a) (.ref b)) (EP X pins σ Q) X.xe s
  obtain ⟨_, J, _⟩ := ins_get I.hok ha
  obtain ⟨_, J, _⟩ := J.look
  obtain ⟨_, _, _, _, ob, es, ep, e, ⟨hcls, _⟩, _⟩ := (show ObjOk X.prog X.w H s.heap b (.dK kvs) from I.hok b _ hb')
  have hty : PySem.W.Looks (model X.prog X.w) s.heap (typeOf (.ref b)) (.type "dict") := hcls ▸ (PySem.W.Looks.ld e).andThen .now
  obtain ⟨m, hF⟩ := I.fr
  refine PySem.W.cmp_K (op := .Eq) (tb := .type "dict") hr.units0 hF I.ok.mod.kin J hty hnf hs hf ?_
  have vals : Vals [V.ref a, V.ref b] [Value.ref a, Value.ref b] := .cons rfl (.cons rfl .nil)
  have e0 : Env0 X.prog X.w X.K X.mg X.base X.A X.stack s H := I.env0
  have hl := F.len _ _ _ _ hsp
  refine wpAny_call (codeAny_mono (F.run X.A X.stack s H ⟨[.ref a, .ref b], []⟩ [.ref a, .ref b] [.ref a, .ref b] _ E hr e0 (by
    have bd := hb s [.ref a, .ref b] I.kIn (by simpa using hl)
    simpa using bd) vals hsp) fun r s' hq => ?_)
  cases r with
  | error e => exact hx pins σ H s e s' I hq
  | ok fl =>
    cases fl with
    | ret w =>
      obtain ⟨z, H', I', rz, c, ez, qz⟩ := I.after hq
      subst ez
      cases rz
      exact ⟨.bl c, H', I', rfl, qz⟩
    | next => exact False.elim hq
    | brk => exact False.elim hq
    | cont => exact False.elim hq
def tMethKK (C : Addr) (m : Str) (sp : Sp) (gV : List V → List V → List V) (E : XK) (ta : TE) (tk : TA) : TE := fun σ H Q => ta σ H fun x H1 => ∃ a dx fs, x = .ref a ∧ H1 a = some (.ins C dx fs) ∧ fs.lookup m = none ∧ tk σ H1 fun zs H2 => sp (gV [x] zs) H2 Q E
/-- o.m(a=.., b=..) -/
theorem pe_methKK {CX : CXT} {k : Nat} {f C : Addr} {fd : FuncData} {ps ks : List Str} {sp : Sp} {E : XK} {m : Str} {pos apos : Pos} {o : Expr} {kws : List Keyword} {ta : TE} {tk : TA} {g : List Value → List Value → List Value} {gV : List V → List V → List V} {pl : Sem Bool} (he : PE X o ta) (c : Cls X.K C) (hm : Meth X.K C m f) (F : FnOk X.prog X.w X.K X.mg X.base CX k f fd ps sp) (hr : Room k X.A) (hb : KBinds X.K fd ps ks g gV) (hx : Passes CX X E)
    (hkw : PK X kws tk) (hall : (backToKw pos (keywordEach kws X.env)).all (·.1.isSome) = true := by rfl) (hks : (backToKw pos (keywordEach kws X.env)).filterMap (·.1) = ks := by rfl)
    (hpl : ((backTo pos (starEach [] X.env)).any (·.1) || (backToKw pos (keywordEach kws X.env)).any (·.1.isNone)) = false := by rfl)
    (ht : eval (.Call (.Attribute o m apos) [] kws pos) X.env = (do
      let ov ← eval o X.env
      standAt apos.atName
      let (f, first) ← holding [ov] (getMethod ov m pl)
      callWith pos f first (backTo pos (starEach [] X.env)) (backToKw pos (keywordEach kws X.env))) := by rfl) :
    PE X (.Call (.Attribute o m apos) [] kws pos) (tMethKK C m sp gV E ta tk) := by
  refine ⟨fun pins s σ H Q I h => ?_⟩
  refine PySem.W.methodCall_KW (pl := pl) (thn (he.run pins s σ H _ I h) fun u s1 ⟨x, H1, I1, rx, a, dx, fs, ex, ea, l, q⟩ => ?_) ht
  subst ex
  obtain rfl : u = Value.ref a := rx
  refine getmeth_ok I1 ea c hm l ?_
  refine PySem.W.callWith_KW0 (first := [.ref a]) (h₀ := X.base) I.ok.mod.kin hm.kp hall (thn (hkw.run pos pins s1 σ H1 _ I1 q) fun ws s2 ⟨zs, H2, I2, rz, q2⟩ => ⟨I2.kIn, ?_⟩) hpl
  rw [hks]
  exact run_fnk (us := [.ref a]) (vs := [.ref a]) F hr hb hx I2 (.cons rfl .nil) rz q2
end
end My
/-! enumerate(t), t a tuple -/
namespace My
open PySem PySem.Spec PyProof.Rows L2
open AutoSeq1 (wpAny_loadPart')
theorem enum_new_tup (q : Addr) (ys : Array Value) (m : Nat) (dc : Option Addr) (sl : Array (Option Value)) :
    Meets (Builtin.«enumerate.__new__» ⟨[.type "enumerate", .ref q], []⟩) (fun _ R s => s.heap.get? q = some { cls := .type "tuple", dict := dc, data := .seq ys m, slots := sl } ∧
      R (.ok (.ret (.ref (s.heap.push { cls := .type "tuple_iterator", data := .fields #[.ref q, .int 0 0] }).objs.size)))
        { s with heap := (s.heap.push { cls := .type "tuple_iterator", data := .fields #[.ref q, .int 0 0] }).push { cls := .type "enumerate", data := .fields #[.none, .bool false, .ref s.heap.objs.size, rawInt 0, .none, .none] } }) :=
  .of_wp fun prog w A R s k => by
    obtain ⟨hh, g, dr, tk, os⟩ := s
    obtain ⟨kq, k⟩ := k
    have hsub := sub_enumerate
    have hT : Heap.IsTuple (Shared.heap ⟨hh, g, dr, tk, os⟩) q ys := ⟨_, kq, rfl, m, rfl⟩
    wp_walk using wpAny_loadPart' kq
    refine wpAny_stack_any fun _ => wpAny_pure ?_
    split
    · rename_i c _ _ _ _ _
      cases (c == Value.type "enumerate") <;>
        (wp_walk using wpAny_loadPart' kq, wpAny_pyIter_tuple hT
         exact ⟨_, rfl, k⟩)
    · wp_walk using wpAny_loadPart' kq, wpAny_pyIter_tuple hT
      exact ⟨_, rfl, k⟩
section
variable {prog : Program} {w : World} {A : Around} {E : Value → Shared → Prop} {s : Shared}
theorem call_enum_tup {q : Addr} {ys : Array Value} {Q : Value → Shared → Prop} (hT : s.heap.IsTuple q ys)
    (k : ∀ h', IsEnum h' (s.heap.objs.size + 1) s.heap.objs.size 0 .none → h'.IsTupleIter s.heap.objs.size q 0 → h'.objs.size = s.heap.objs.size + 2 →
      (∀ b o, s.heap.get? b = some o → h'.get? b = some o) → Q (.ref (s.heap.objs.size + 1)) { s with heap := h' }) :
    wpAny (model prog w) A (call (.type "enumerate") [.ref q]) Q E s := by
  obtain ⟨⟨cl, dc, dt, sl⟩, kq, ec, m, ed⟩ := hT
  cases (show cl = .type "tuple" from ec)
  cases (show dt = .seq ys m from ed)
  refine callType_new F.called_enumerate (by decide) (F.typeCall_enumerate_1 _) (F.newCall_enumerate_1 _) (fun obj => F.args_object_init_2 obj _) F.entry_enumerate_new
    (enum_new_tup q ys m dc sl) ⟨kq, ?_⟩
  have z1 : (s.heap.push { cls := .type "tuple_iterator", data := .fields #[.ref q, .int 0 0] }).objs.size = s.heap.objs.size + 1 := Heap.size_push ..
  show _ ∧ _
  rw [z1]
  have he : IsEnum ((s.heap.push { cls := .type "tuple_iterator", data := .fields #[.ref q, .int 0 0] }).push
      { cls := .type "enumerate", data := .fields #[.none, .bool false, .ref s.heap.objs.size, rawInt 0, .none, .none] }) (s.heap.objs.size + 1) s.heap.objs.size 0 .none := by
    have z2 := Heap.get?_push_size (s.heap.push { cls := .type "tuple_iterator", data := .fields #[.ref q, .int 0 0] })
      (o := { cls := .type "enumerate", data := .fields #[.none, .bool false, .ref s.heap.objs.size, rawInt 0, .none, .none] }) rfl
    rwa [z1] at z2
  exact ⟨⟨_, he, rfl⟩, k _ he ⟨_, Heap.get?_push_of_some _ (Heap.get?_push_size _ rfl), rfl, rfl⟩ (by rw [Heap.size_push, z1]) fun b o x => Heap.get?_push_of_some _ (Heap.get?_push_of_some _ x)⟩
end
/-- the tuple at a, each item in a new pair -/
def Ity (K : PySem.W.Frag) (a : Addr) : It :=
  ⟨fun i H => ∃ (xs : List V) (x : V), SqT K H a xs ∧ xs[i]? = some x, fun i H v H' => ∃ T x, v = .ref T ∧ H T = none ∧ H' = upd H T (.tup [.int (i : Nat), x]) ∧ ∀ xs, SqT K H a xs → xs[i]? = some x, fun i H => ∃ xs : List V, SqT K H a xs ∧ xs.length = i⟩
theorem walk_enumT {K : PySem.W.Frag} {a : Addr} {xs : List V} : Walk (Ity K a) xs.length (fun H => SqT K H a xs) (YPair (fun i => some (.int (i : Nat))) (fun i => xs[i]?)) := by
  refine ⟨fun i _ hi q => ⟨xs, xs[i], q, List.getElem?_eq_getElem hi⟩, fun _ q => ⟨xs, q, rfl⟩, fun i H v H' _ q y => ?_⟩
  obtain ⟨T, x, y1, y2, y3, y4⟩ := y
  exact ⟨T, .int (i : Nat), x, y1, y2, y3, rfl, y4 xs q⟩
theorem turn_enumT {P : Program} {w : World} {K : PySem.W.Frag} {elts : List Expr} {kk : Nat} {tpos : Pos} (a e it : Addr) (nai : a ≠ it) (nea : e ≠ a) :
    Turn P w K (.Tuple elts kk tpos) (Ity K a) [e, it] e (fun i h => (∃ old, IsEnum h e it ((i : Nat) : Int) old) ∧ h.IsTupleIter it a i ∧ e ≠ it) where
  mem := by simp
  obj := fun i h st b hb => by
    obtain ⟨⟨old, he⟩, ⟨o, ho, hc, hd⟩, _⟩ := st
    rcases (show b = e ∨ b = it by simpa using hb) with z | z
    · subst z; exact ⟨_, he, fun v q => nomatch q⟩
    · subst z; exact ⟨o, ho, fun v q => by rw [hd] at q; cases q⟩
  keep := fun i h h' st k => let ⟨⟨old, he⟩, hi, hne⟩ := st; ⟨⟨old, k e (by simp) _ he⟩, hi.at fun o q => k it (by simp) o q, hne⟩
  item := by
    intro X hP hw hK hc i pins s σ H E I hf st hg
    subst hP hw hK
    obtain ⟨⟨old, he⟩, hit, hne⟩ := st
    obtain ⟨xs, x, hq, hx⟩ := hg
    obtain ⟨its, rv, p, hz⟩ := I.tuple hq
    obtain ⟨u, hu, ru⟩ := rv.get hx
    have le : e < s.heap.objs.size := Heap.lt_size he
    have li : it < s.heap.objs.size := by obtain ⟨_, q, _⟩ := hit; exact Heap.lt_size q
    have small : i < its.toArray.size := by
      have := (List.getElem?_eq_some_iff.mp hu).1
      simpa using this
    refine wpAny_pyNext_enum_itemD (Draws.tuple (A := X.A.in1) (I.ok.hd hc) it a nai its.toArray) he ⟨hit, (show s.heap.IsTuple a its.toArray from p)⟩ small hne (by simp [hne, nea]) fun x' h' tk hx' ho hst hT hsz hk => ?_
    have ex : x' = u := by
      have : its[i]? = some x' := by simpa using hx'
      rw [hu] at this
      exact (Option.some.inj this).symm
    subst ex
    obtain ⟨hst1, hst2⟩ := hst
    refine ⟨_, rfl, wpAny_letOwnedTupleGo_enum (s := { s with heap := h', toks := tk + 1 }) ho fun h2 he2 sb => ?_⟩
    have gT : h2.get? s.heap.objs.size = some { cls := .type "tuple", data := .seq #[.int i tk, x'] } := (sb.2 _ (Nat.ne_of_gt le)).trans hT
    have okT : ObjOk X.prog X.w (upd H s.heap.objs.size (.tup [.int (i : Nat), x])) h2 s.heap.objs.size (.tup [.int (i : Nat), x]) :=
      ⟨by show 2 ≤ sizeLine; decide, [.int i tk, x'], .cons ⟨_, rfl⟩ (.cons ru .nil), ⟨_, gT, rfl, _, rfl⟩⟩
    have I2 : Inv X pins σ (upd H s.heap.objs.size (.tup [.int (i : Nat), x])) { s with heap := h2, toks := tk + 1 } :=
      I.turnedNew (t' := tk + 1) (ch := [e, it]) (fun b ob hb q => (sb.2 b (fun z => hb (by simp [z]))).trans (hk b ob (fun z => hb (by simp [z])) (fun z => hb (by simp [z])) q)) hf (Nat.le_refl _) okT
    refine ⟨.ref s.heap.objs.size, _, I2, rfl, ⟨_, x, rfl, I.hok.fresh (Nat.le_refl _), rfl, fun ys hy => by rw [I.tuple_inj hy hq]; exact hx⟩, ⟨⟨x', ?_⟩, hst1.at fun o q => (sb.2 it (Ne.symm hne)).trans q, hne⟩, fun b hb => ?_⟩
    · rw [show ((i + 1 : Nat) : Int) = (i : Int) + 1 by omega]
      exact he2
    · have lb : b < s.heap.objs.size := by
        rcases (show b = e ∨ b = it by simpa using hb) with z | z
        · rw [z]; exact le
        · rw [z]; exact li
      rw [upd_ne (Nat.ne_of_lt lb)]
      exact (hf b hb).1
  done := by
    intro X hP hw hK hc i pins s σ H E I hf st hg
    subst hP hw hK
    obtain ⟨⟨old, he⟩, hit, hne⟩ := st
    obtain ⟨xs, hq, hx⟩ := hg
    obtain ⟨its, rv, p, hz⟩ := I.tuple hq
    obtain ⟨f0, f1, f2, f3, f4, f5⟩ := hf it (by simp)
    have hl := rv.length
    have hsz : i = its.toArray.size := by
      rw [List.size_toArray]
      omega
    rw [hsz] at hit
    exact wpAny_pyNext_enum_endD (Draws.tuple (A := X.A.in1) (I.ok.hd hc) it a nai its.toArray) he ⟨hit, (show s.heap.IsTuple a its.toArray from p)⟩ fun h' eb => ⟨rfl, I.turned (t' := s.toks) (fun b o hb e => eb b o hb e) f0 f1 f3 f4 f5⟩
  self := fun A i s Q E st h => let ⟨⟨_, he⟩, _⟩ := st; wpAny_pyIter_enum he h
def iEnumT (K : PySem.W.Frag) (ta : TA) : TI := fun σ H R => ta σ H fun vs H1 => ∃ a xs, vs = [.ref a] ∧ SqT K H1 a xs ∧ R (Ity K a) H1
theorem pi_enumT {X : Cx} {e : Expr} {ta : TA} {p pos tpos : Pos} {elts : List Expr} {kk : Nat} (hg : Gl X "enumerate") (hm : X.mg "enumerate" = none) (ha : PA X [e] ta) (hs : starEach [e] X.env = [(false, eval e X.env)] := by rfl) :
    PI X (.Tuple elts kk tpos) (.Call (.Name "enumerate" p) [e] [] pos) (iEnumT X.K ta) := by
  constructor
  intro pins s σ H R I h
  refine Call_ (ld_blt I hg hm boot_enumerate (PyProof.Rows.callWith_type1 (thn (ha.run pos pins s σ H _ I h) fun us s1 ⟨vs, H1, I1, r1, q1⟩ => ?_) hs rfl))
  obtain ⟨a, xs, rfl, hq, q⟩ := q1
  obtain rfl := Vals.ref1 r1
  obtain ⟨its, rv, p', hz⟩ := I1.tuple hq
  have la : a < s1.heap.objs.size := by obtain ⟨_, z, _⟩ := p'; exact Heap.lt_size z
  refine call_enum_tup (show s1.heap.IsTuple a its.toArray from p') fun h' he hit hsz hk => wpAny_pyIter_enum he ?_
  have I2 : Inv X pins σ H1 { s1 with heap := h' } := I1.kept (t' := s1.toks) hk
  refine ⟨s1.heap.objs.size + 1, [s1.heap.objs.size + 1, s1.heap.objs.size], _, _, H1, rfl, I2, turn_enumT a (s1.heap.objs.size + 1) s1.heap.objs.size (Nat.ne_of_lt la) (Nat.ne_of_gt (Nat.lt_succ_of_lt la)), ⟨⟨.none, he⟩, hit, Nat.succ_ne_self _⟩, fun b hb => ?_, q⟩
  have hle : s1.heap.objs.size ≤ b := by
    rcases (show b = s1.heap.objs.size + 1 ∨ b = s1.heap.objs.size by simpa using hb) with z | z
    · rw [z]; exact Nat.le_succ _
    · rw [z]; exact Nat.le_refl _
  exact I1.fpOk hle (I1.hok.fresh hle)
end My
namespace My
open PySem PySem.W L2 L2.DX PyProof.Rows
/-! ### d.items() of a dict by texts, sorted -/
section
variable {X : Cx}
def rItemsK : V → List V → Hp → VK → Prop := fun x xs H Q => ∃ (a : Addr) (kvs : List (Key × V)), x = .ref a ∧ xs = [] ∧ H a = some (.dK kvs) ∧ ∀ p, H p = none → Q (.ref p) (upd H p (itemsO p a))
theorem mt_itemsK : MtR X "dict.items" rItemsK := by
  intro pins s σ H x xs v us Q I rx rxs h
  obtain ⟨d, kvs, rfl, rfl, hd0, q⟩ := h
  cases rx
  cases rxs
  obtain ⟨_, hd, vs, rel, dof⟩ := dk_of I.hok hd0
  obtain ⟨es, ep, raw, _, _⟩ := PySem.Heap.DictOf.raw dof
  exact DT.callItems (es := es) (ep := ep) hd raw ⟨.ref s.heap.objs.size, upd H s.heap.objs.size (itemsO s.heap.objs.size d), I.laid (t' := s.toks) (fun b u e => Heap.get?_push_of_some _ e) (Nat.le_refl _) (itemsO_ok (Heap.get?_push_size _ rfl)), rfl, q _ (I.hok.fresh (Nat.le_refl _))⟩
/-- an entry: a text and a number -/
abbrev entSI (e : Str × Int) : Key × V := (Sum.inr e.1, .int e.2)
abbrev encSI (e : Str × Int) : PyData := .tuple [.str e.1, .int e.2]
theorem kv_at : ∀ {kvs : List (Key × V)} {vs : List (Key × Value)}, KV kvs vs → ∀ {j : Nat} {p : Key × V}, kvs[j]? = some p → ∃ q, vs[j]? = some q ∧ p.1 = q.1 ∧ RelV p.2 q.2
  | _, _, .nil, _, _, h => by simp at h
  | _, _, .cons r _, 0, _, h => by
    cases h
    exact ⟨_, rfl, r⟩
  | _, _, .cons _ t, j + 1, p, h => by
    obtain ⟨q, h1, h2⟩ := kv_at t (j := j) (by simpa using h)
    exact ⟨q, by simpa using h1, h2⟩
theorem eachIs_of {α β : Type} {R : α → β → Prop} : ∀ {as : List α} {bs : List β}, as.length = bs.length → (∀ (j : Nat) (a : α) (b : β), as[j]? = some a → bs[j]? = some b → R a b) → PySem.W.EachIs R as bs
  | [], [], _, _ => .nil
  | [], _ :: _, h, _ => by simp at h
  | _ :: _, [], h, _ => by simp at h
  | a :: as, b :: bs, h, k => .cons (k 0 a b rfl rfl) (eachIs_of (by simpa using h) fun j x y hx hy => k (j + 1) x y (by simpa using hx) (by simpa using hy))
theorem encSI_alike (kvs : List (Str × Int)) : AllAlike (kvs.map encSI) := by
  intro d hd d' hd'
  obtain ⟨e, _, rfl⟩ := List.mem_map.mp hd
  obtain ⟨e', _, rfl⟩ := List.mem_map.mp hd'
  rfl
theorem encSI_sortable (kvs : List (Str × Int)) : Sortable (kvs.map encSI) := .tuples fun b => ⟨_, _, rfl⟩
theorem eachIs_refs {β : Type} {as : List Addr} {bs : List β} : ∀ {out : List Value} {cs : List β}, PySem.W.EachIs (fun v b => ∃ (j : Nat) (x : Addr), v = Value.ref x ∧ as[j]? = some x ∧ bs[j]? = some b) out cs →
    ∃ ts : List Addr, out = ts.map Value.ref ∧ Paired (fun (x : Addr) (b : β) => ∃ j : Nat, as[j]? = some x ∧ bs[j]? = some b) ts cs
  | _, _, .nil => ⟨[], rfl, .nil⟩
  | _, _, .cons h t => by
    obtain ⟨j, x, rfl, h1, h2⟩ := h
    obtain ⟨ts, rfl, hp⟩ := eachIs_refs t
    exact ⟨x :: ts, rfl, .cons ⟨j, h1, h2⟩ hp⟩
theorem paired_imp {α β : Type} {F G : α → β → Prop} (h : ∀ a b, F a b → G a b) : ∀ {l1 : List α} {l2 : List β}, Paired F l1 l2 → Paired G l1 l2
  | _, _, .nil => .nil
  | _, _, .cons a r => .cons (h _ _ a) (paired_imp h r)
theorem vals_refs : ∀ ts : List Addr, Vals (ts.map V.ref) (ts.map Value.ref)
  | [] => .nil
  | _ :: r => .cons rfl (vals_refs r)
/-- the told list is new, its pairs too -/
def rSortItK : List V → Hp → VK → Prop := fun vs H Q => ∃ (p a : Addr) (kvs : List (Str × Int)), vs = [.ref p] ∧ H p = some (itemsO p a) ∧ H a = some (.dK (kvs.map entSI)) ∧ kvs.length ≤ 100000 ∧
  ∀ (H' : Hp) (l : Addr) (ts : List Addr), (∀ b o, H b = some o → H' b = some o) → H l = none → H' l = some (.lst (ts.map V.ref)) → Paired (fun t (e : Str × Int) => H' t = some (.tup [.str e.1, .int e.2])) ts (kvs.mergeSort (dataLe false encSI)) → Q (.ref l) H'
theorem cr_sortItK (hc : X.calm = true) (hu : X.A.units + 64 < cLine) : CallR X (.builtin "sorted") rSortItK := by
  intro pins s σ H xs us Q I r h
  obtain ⟨p, a, kvs, rfl, hp, ha, hlen, q⟩ := h
  obtain rfl := Vals.ref1 r
  have vw : s.heap.IsItemsView p a := by
    have z : ObjOk X.prog X.w H s.heap p (itemsO p a) := I.hok p _ hp
    exact z.1
  obtain ⟨_, hd, vs, rel, dof⟩ := dk_of I.hok ha
  obtain ⟨es, ep, raw, hsz, hent⟩ := PySem.Heap.DictOf.raw dof
  have l1 : vs.length = kvs.length := by
    have := Paired.length rel
    rw [List.length_map] at this
    exact this.symm
  have small : kvs.length ≤ sizeLine := Nat.le_trans hlen (by decide)
  refine DT.sortedI (es := es) (ep := ep) (I.ok.hd hc) vw raw (by rw [hsz, l1]; exact small) fun h' tk as kpt hlt hl mde => ?_
  have lak : as.length = kvs.length := by rw [hl, hsz, l1]
  have nod : as.Nodup := List.Pairwise.imp (fun h => Nat.ne_of_lt h) mde.rise
  have pr : ∀ (j : Nat) (b : Addr), as[j]? = some b → ∃ (e : Str × Int) (t t' : Tok), kvs[j]? = some e ∧ h'.get? b = some { cls := .type "tuple", data := .seq #[Value.str e.1 t, Value.int e.2 t'] } := fun j b ej => by
    obtain ⟨en, ee, gh⟩ := mde.pairs j b ej
    have hj2 : j < es.size := (Array.getElem?_eq_some_iff.mp ee).1
    have hj3 : j < kvs.length := by rw [← l1, ← hsz]; exact hj2
    obtain ⟨⟨k, v⟩, g1, g2, g3⟩ := kv_at rel (j := j) (p := entSI kvs[j]) (by rw [List.getElem?_map, List.getElem?_eq_getElem hj3]; rfl)
    obtain ⟨m1, m2⟩ := hent j hj2 k v g1
    have e1 : es[j] = en := (Array.getElem?_eq_some_iff.mp ee).2
    rw [e1] at m1 m2
    have g2' : k = Sum.inr kvs[j].1 := g2.symm
    subst g2'
    obtain ⟨t', ev⟩ : ∃ t', v = Value.int kvs[j].2 t' := g3
    rcases keyIs_shape (show keyIs (Sum.inr kvs[j].1) en.key = true from m1) with ⟨i, t, z, _⟩ | ⟨x, t, z, ek⟩
    · cases z
    · have ex : kvs[j].1 = x := Sum.inr.inj z
      refine ⟨kvs[j], t, t', List.getElem?_eq_getElem hj3, ?_⟩
      rw [gh, ek, m2, ev, ex]
  have gl : (h'.push { cls := .type "list", data := .seq (as.map Value.ref).toArray }).get? h'.objs.size = some (seqObj "list" (as.map Value.ref).toArray 0) := Heap.get?_push_size _ rfl
  have far : ∀ b o, h'.get? b = some o → b ≠ h'.objs.size := fun b o e => Nat.ne_of_lt (Heap.lt_size e)
  have kp : ∀ b o, h'.get? b = some o → (h'.push { cls := .type "list", data := .seq (as.map Value.ref).toArray }).get? b = some o := fun b o e => Heap.get?_push_of_some _ e
  generalize h'.push { cls := .type "list", data := .seq (as.map Value.ref).toArray } = h2 at gl kp ⊢
  have at_ : ∀ (j : Nat) (v : Value) (e : Str × Int), (as.map Value.ref)[j]? = some v → kvs[j]? = some e → ∃ b, v = .ref b ∧ as[j]? = some b := fun j v e hv _ => by
    rw [List.getElem?_map] at hv
    cases z : as[j]? with
    | none => rw [z] at hv; cases hv
    | some b => rw [z] at hv; exact ⟨b, (Option.some.inj hv).symm, rfl⟩
  refine list_sort_data (s := { s with heap := h2, toks := tk }) (R := fun v e => ∃ (j : Nat) (x : Addr), v = Value.ref x ∧ as[j]? = some x ∧ kvs[j]? = some e) (enc := encSI) (bs := kvs) gl (eachIs_of (by rw [List.length_map]; exact lak) fun j v e hv ee => ?_) (eachIs_of (by rw [List.length_map]; exact lak) fun j v e hv ee => ?_) (encSI_alike kvs) (encSI_sortable kvs) small (fun b _ => ?_) fun out ho1 ho2 => ?_
  · obtain ⟨b, e1, e2⟩ := at_ j v e hv ee
    exact ⟨j, b, e1, e2, ee⟩
  · obtain ⟨b, rfl, e2⟩ := at_ j v e hv ee
    obtain ⟨e', t, t', g1, g2⟩ := pr j b e2
    rw [ee] at g1
    cases g1
    exact ⟨[] ++ ([] ++ []), .tuple (kp _ _ g2) rfl rfl (.cons (.str _ _) (.cons (.int _ _) .nil)), by simp⟩
  · show X.A.units + 1 + 1 + 1 < cLine
    omega
  obtain ⟨ts, rfl, hts⟩ := eachIs_refs ho2
  show EP X pins σ Q (.ref h'.objs.size) { s with heap := sortedHeap h2 h'.objs.size (as.map Value.ref) (ts.map Value.ref).toArray, toks := tk }
  have kF : ∀ b o, b ≠ h'.objs.size → h2.get? b = some o → (sortedHeap h2 h'.objs.size (as.map Value.ref) (ts.map Value.ref).toArray).get? b = some o := fun b o hb e => (PyProof.Rows.sortedHeap_old hb (Heap.lt_size e)).trans e
  have kS : ∀ b o, s.heap.get? b = some o → (sortedHeap h2 h'.objs.size (as.map Value.ref) (ts.map Value.ref).toArray).get? b = some o := fun b o e => kF b o (far _ _ (kpt b o e)) (kp b o (kpt b o e))
  obtain ⟨eF, heF⟩ := PyProof.Rows.sortedHeap_at (vs := as.map Value.ref) (out := (ts.map Value.ref).toArray) gl
  generalize sortedHeap h2 h'.objs.size (as.map Value.ref) (ts.map Value.ref).toArray = hz at kF kS heF ⊢
  have free0 : H h'.objs.size = none := I.hok.fresh (Nat.le_of_lt hlt)
  have htl : (ts.map V.ref).length ≤ sizeLine := by
    rw [List.length_map] at ho1 ⊢
    rw [ho1]
    exact small
  have I2 : Inv X pins σ (upd H h'.objs.size (.lst (ts.map V.ref))) { s with heap := hz, toks := tk } :=
    (I.kept (t' := tk) kS).take (h' := hz) (t' := tk) (fun b ob _ e => e) (I.fpOk (Nat.le_of_lt hlt) free0) ⟨htl, ts.map Value.ref, eF, vals_refs ts, heF⟩
  obtain ⟨H2, I3, g, qt⟩ := takeT (P := fun b vs => ∃ (j : Nat) (e : Str × Int), as[j]? = some b ∧ kvs[j]? = some e ∧ vs = [.str e.1, .int e.2]) I as _ I2 nod fun b hb => by
    obtain ⟨j, ej⟩ := List.mem_iff_getElem?.mp hb
    obtain ⟨e, t, t', ee, gh⟩ := pr j b ej
    have big : s.heap.objs.size ≤ b := Nat.le_of_lt (mde.above b hb)
    refine ⟨big, by rw [upd_ne (far _ _ gh)]; exact I.hok.fresh big, [.str e.1, .int e.2], ⟨j, e, ej, ee, rfl⟩, fun H3 => ⟨(by show 2 ≤ sizeLine; decide), [Value.str e.1 t, Value.int e.2 t'], .cons ⟨t, rfl⟩ (.cons ⟨t', rfl⟩ .nil), ⟨_, kF _ _ (far _ _ gh) (kp _ _ gh), rfl, 0, rfl⟩⟩⟩
  refine ⟨.ref h'.objs.size, H2, I3, rfl, q H2 h'.objs.size ts (fun b o e => g b o (by rw [upd_ne (ne_of_none e free0)]; exact e)) free0 (g _ _ upd_same) (paired_imp (fun x e hx => ?_) hts)⟩
  obtain ⟨i, i1, i2⟩ := hx
  obtain ⟨vs', ⟨j, e', j1, j2, ev⟩, hH⟩ := qt x (List.mem_of_getElem? i1)
  have eqi : i = j := (List.getElem?_inj (List.getElem?_eq_some_iff.mp i1).1 nod).mp (i1.trans j1.symm)
  subst eqi
  rw [i2] at j2
  cases j2
  rw [ev] at hH
  exact hH
end
end My
namespace My
open PySem PySem.W L2 L2.DX PyProof.Rows
section
variable {X : Cx}
theorem dp_at {K : PySem.W.Frag} {H : Hp} : ∀ {ys : List V} {ds : List PyData}, DpAll K H ys ds → ∀ {j : Nat} {y : V} {d : PyData}, ys[j]? = some y → ds[j]? = some d → Dp K H y d
  | _, _, .nil, _, _, _, h, _ => by simp at h
  | _, _, .cons p _, 0, _, _, h, k => by
    cases h
    cases k
    exact p
  | _, _, .cons _ t, j + 1, _, _, h, k => dp_at t (j := j) (by simpa using h) (by simpa using k)
theorem dp_len {K : PySem.W.Frag} {H : Hp} : ∀ {ys : List V} {ds : List PyData}, DpAll K H ys ds → ys.length = ds.length
  | _, _, .nil => rfl
  | _, _, .cons _ t => congrArg Nat.succ (dp_len t)
theorem vals_at : ∀ {ys : List V} {us : List Value}, Vals ys us → ∀ {j : Nat} {u : Value}, us[j]? = some u → ∃ y, ys[j]? = some y ∧ RelV y u
  | _, _, .nil, _, _, h => by simp at h
  | _, _, .cons r _, 0, _, h => by
    cases h
    exact ⟨_, rfl, r⟩
  | _, _, .cons _ t, j + 1, _, h => by
    obtain ⟨y, h1, h2⟩ := vals_at t (j := j) (by simpa using h)
    exact ⟨y, by simpa using h1, h2⟩
theorem out_vals {ys : List V} {ds : List PyData} : ∀ {out : List Value} {cs : List PyData}, PySem.W.EachIs (fun v d => ∃ (j : Nat) (y : V), ys[j]? = some y ∧ ds[j]? = some d ∧ RelV y v) out cs →
    ∃ zs : List V, Vals zs out ∧ Paired (fun (z : V) (d : PyData) => ∃ j : Nat, ys[j]? = some z ∧ ds[j]? = some d) zs cs
  | _, _, .nil => ⟨[], .nil, .nil⟩
  | _, _, .cons h t => by
    obtain ⟨j, y, h1, h2, h3⟩ := h
    obtain ⟨zs, g1, g2⟩ := out_vals t
    exact ⟨y :: zs, .cons h3 g1, .cons ⟨j, h1, h2⟩ g2⟩
theorem vals_len : ∀ {ys : List V} {us : List Value}, Vals ys us → ys.length = us.length
  | _, _, .nil => rfl
  | _, _, .cons _ t => congrArg Nat.succ (vals_len t)
/-- sorted(xs), data of one shape: the items are set in sequence by what they are -/
def rSortD (K : PySem.W.Frag) : List V → Hp → VK → Prop := fun vs H Q => ∃ (a : Addr) (ys : List V) (ds : List PyData), vs = [.ref a] ∧ SqL K H a ys ∧ DpAll K H ys ds ∧ AllAlike ds ∧ Sortable ds ∧ (∀ d ∈ ds, d.depth ≤ 8) ∧ ys.length ≤ 100000 ∧
  ∀ (zs : List V) (p : Addr), Paired (fun (z : V) (d : PyData) => ∃ j : Nat, ys[j]? = some z ∧ ds[j]? = some d) zs (ds.mergeSort (dataLe false id)) → H p = none → Q (.ref p) (upd H p (.lst zs))
theorem cr_sortD (hu : X.A.units + 64 < cLine) : CallR X (.builtin "sorted") (rSortD X.K) := by
  intro pins s σ H xs us Q I r h
  obtain ⟨a, ys, ds, rfl, hs, hd, hal, hk, hdp, hlen, q⟩ := h
  obtain rfl := Vals.ref1 r
  obtain ⟨its, rv, pl, _⟩ := I.list hs
  have li : its.length = ds.length := by rw [← vals_len rv]; exact dp_len hd
  have small : ds.length ≤ sizeLine := by rw [← dp_len hd]; exact Nat.le_trans hlen (by decide)
  refine sorted_data (R := fun v d => ∃ (j : Nat) (y : V), ys[j]? = some y ∧ ds[j]? = some d ∧ RelV y v) (enc := id) (bs := ds) pl.isList (eachIs_of li fun j v d hv he => ?_) (eachIs_of li fun j v d hv he => ?_) (by rw [List.map_id]; exact hal) (by rw [List.map_id]; exact hk) small (fun d hdm => ?_) fun out ho1 ho2 => ?_
  · obtain ⟨y, g1, g2⟩ := vals_at rv hv
    exact ⟨j, y, g1, he, g2⟩
  · obtain ⟨y, g1, g2⟩ := vals_at rv hv
    exact Dp.reads I d y v (dp_at hd g1 he) g2
  · have := hdp d hdm
    show X.A.units + 2 + d.depth < cLine
    omega
  obtain ⟨zs, hz, hp⟩ := out_vals ho2
  obtain ⟨eF, heF⟩ := PyProof.Rows.sortedAll_at s.heap its out.toArray
  have hzl : zs.length ≤ sizeLine := by rw [vals_len hz, ho1]; exact small
  exact ⟨.ref (s.heap.objs.size + 1), upd H (s.heap.objs.size + 1) (.lst zs), I.laid (t' := s.toks) (fun _ _ => PyProof.Rows.sortedAll_old) (Nat.le_succ _) ⟨hzl, out, eF, hz, heF⟩, rfl, q zs _ hp (I.hok.fresh (Nat.le_succ _))⟩
end
end My
namespace My
open PySem L2 PyProof.Rows
theorem bl_is1 {x : Bool} {Q : VK} {H : Hp} (h : x = true) (q : Q (.bl true) H) : Q (.bl x) H := by
  rw [h]
  exact q
/-! ### a list that nobody asks for any more is forgotten -/
section
variable {X : Cx} {pins : List (Addr × Obj)} {σ : L2.St} {H1 H2 : Hp} {s : Shared} {D : Addr} {xs : List V}
theorem inv_drop (I : Inv X pins σ H1 s) (e : H1 = upd H2 D (.lst xs)) (n : H2 D = none) : Inv X pins σ H2 s := by
  subst e
  have off : ∀ b, upd H2 D (.lst xs) b = none → H2 b = none := fun b h => by
    by_cases hb : b = D
    · rw [hb]; exact n
    · rw [upd_ne hb] at h; exact h
  have back : ∀ b o, o ≠ HO.lst xs → upd H2 D (.lst xs) b = some o → H2 b = some o := fun b o ho h => by
    by_cases hb : b = D
    · subst hb
      rw [upd_same] at h
      exact absurd (Option.some.inj h).symm ho
    · rw [upd_ne hb] at h; exact h
  refine ⟨I.ok, I.os, I.bare, ?_, I.loc, I.cell, off _ I.free, fun x c h => off _ (I.freeC x c h), fun p hp => ?_, ?_, I.len⟩
  · have u := I.base
    refine ⟨u.keep, u.slot, fun b o h1 h2 h3 => off _ (u.free b o h1 h2 h3), u.there, fun b ys h => back _ _ (by intro z; cases z) (u.tups b ys h), fun b o v h => back _ _ (by intro z; cases z) (u.frzs b o v h), fun b ps h => ?_⟩
    obtain ⟨more, h⟩ := u.tbls b ps h
    exact ⟨more, back _ _ (by intro z; cases z) h⟩
  · obtain ⟨a, b, c⟩ := I.pin p hp
    exact ⟨a, off _ b, c⟩
  · intro a o h
    have ha : a ≠ D := fun z => by rw [z, n] at h; cases h
    refine (I.hok a o (by rw [upd_ne ha]; exact h)).stay (fun _ _ _ z => z) (fun b h => back _ _ (by intro z; cases z) h) (fun b ys h => back _ _ (by intro z; cases z) h)
theorem pe_drop {e : Expr} {te : TE} (he : PE X e te) : PE X e (fun σ H Q => te σ H fun v H1 => ∃ D xs H2, H1 = upd H2 D (.lst xs) ∧ H2 D = none ∧ Q v H2) := by
  refine ⟨fun pins s σ H Q I h => ?_⟩
  exact wpAny_mono (he.run pins s σ H _ I h) (fun u s1 ⟨v, H1, I1, r, D, xs, H2, e, n, q⟩ => ⟨v, H2, inv_drop I1 e n, r, q⟩) fun _ _ h => h
theorem ix_seqK {K : PySem.W.Frag} (h : X.K = K) : IxR X (rIx K) := h ▸ ix_seq
end
end My
namespace My
open PySem L2 PyProof.Rows
/-! ### contracts of defs that are called where nothing is being shown -/
structure FnG (P : Program) (w : World) (K : PySem.W.Frag) (mg : Str → Option Value) (base : Heap) (k : Nat) (f : Addr) (fd : FuncData) (ps : List Str) (sp : Sp) : Prop where
  len : ∀ vs H Q E, sp vs H Q E → vs.length = ps.length
  run : ∀ (A : Around) (outer : List Env) (s : Shared) (H : Hp) (args : Args) (us : List Value) (vs : List V) (Q : VK) (E : XK), Room k A → A.guards = some [] → Env0 P w K mg base A outer s H → BindsTo s fd args (ps.zip us) → Vals vs us → sp vs H Q E →
    codeAny (model P w) A (.call (.ref f) args) (CR CX0 outer P w H s Q E) s
section
variable {P : Program} {w : World} {K : PySem.W.Frag} {mg : Str → Option Value} {base : Heap}
theorem FnG.ofOk {k : Nat} {f : Addr} {fd : FuncData} {ps : List Str} {sp : Sp} (F : FnOk P w K mg base CX0 k f fd ps sp) : FnG P w K mg base k f fd ps sp :=
  ⟨F.len, fun A outer s H args us vs Q E hr _ he hb hv hs => F.run A outer s H args us vs Q E hr he hb hv hs⟩
theorem FnG.ofBody {x qual : Str} {st : Stmt} {f : Addr} {fd : FuncData} {N ps : List Str} {k : Nat} {sp : Sp} (F : Fun K x qual st f fd) (S : FnScope N ps (defScope st)) (len : ∀ vs H Q E, sp vs H Q E → vs.length = ps.length)
    (body : ∀ (cdv : Value) (A : Around) (outer : List Env) (s : Shared) (H : Hp) (vs : List V) (Q : VK) (E : XK), Room k (A.deeper (envOfC qual (defScope st) s.heap.objs.size f cdv)) → A.guards = some [] → sp vs H Q E →
      ∃ t, PSs (cxOf CX0 P w K mg base N qual (defScope st) f cdv A outer s H E).nox (defBody st) t ∧ t { nx := fun _ H' => Q .non H', rt := Q } (start N vs) H) : FnG P w K mg base (k + 1) f fd ps sp := by
  obtain ⟨oc, od, kV, doc, pm, an, cdv, ct, osl, rfl, lk, hcd⟩ := F.ex
  constructor
  · exact len
  intro A outer s H args us vs Q E room quiet env bound rel want
  have many := len _ _ _ _ want
  have inK : K.In s.heap := env.mod.kin.keeps (fun b o e => (env.bs b o e).1)
  have unlimited : s.heap.NoLimit := env.mod.nolimit.keeps (fun b o e => (env.bs b o e).1)
  have kinds : ∀ y ∈ ps.zip us, (defScope st).names.lookup y.1 = some .local ∨ ((defScope st).names.lookup y.1 = some .cell ∧ ((cellsFrom (s.heap.objs.size + 1) (defScope st).names []).lookup y.1).isSome = true) := by
    rintro ⟨n, v⟩ hy
    exact (S.par n (List.of_mem_zip hy).1).imp id (fun q => ⟨q, PySem.W.cellsFrom_some _ _ _ (.inl q)⟩)
  refine codeAny_call_function room.depth (inK _ _ lk) rfl S.co S.gen rfl (PySem.W.codeRec_of inK hcd) (bound _ _ _ _ (wpAny_newFunctionEnv_cells S.kind kinds ?_))
  rintro env' rfl s1 x
  obtain ⟨t, ht, hq⟩ := body cdv A outer s H vs Q E (room.deeper _) quiet want
  have I := inv_start (CX := CX0) (E := E) S room.hd env many rel x
  refine ⟨unlimited.keeps x.toInCall.keep, codeAny_func (wpAny_mono (ht.nox.run [] s1 (start N vs) H _ I hq) ?_ (fun _ _ h => h))⟩
  intro fl s' hs
  cases fl with
  | ret u =>
    obtain ⟨v, σ', H', J, rv, q⟩ := hs
    exact ⟨v, H', J.os, J.bare, J.base, J.hok, rv, q⟩
  | next =>
    obtain ⟨σ', H', J, q⟩ := hs
    exact ⟨V.non, H', J.os, J.bare, J.base, J.hok, (rfl : RelV V.non Value.none), q⟩
  | brk => exact hs.elim fun _ h => h.elim fun _ h => h.2.elim
  | cont => exact hs.elim fun _ h => h.elim fun _ h => h.2.elim
end
section
variable {X : Cx} {k : Nat} {f : Addr} {fd : FuncData} {ps ks : List Str} {sp : Sp} {ds : List Value} {x : Str} {p pos : Pos} {e : Expr} {es : List Expr} {kws : List Keyword} {t tk : TA} {g : List Value → List Value → List Value} {gV : List V → List V → List V}
theorem run_fnG {pins : List (Addr × Obj)} {σ : L2.St} {H : Hp} {s : Shared} {Q : VK} {us ws : List Value} {vs zs : List V} (F : FnG X.prog X.w X.K X.mg X.base k f fd ps sp) (hr : Room k X.A) (quiet : X.A.guards = some []) (hb : KBinds X.K fd ps ks g gV)
    (I : Inv X pins σ H s) (r : Vals vs us) (rz : Vals zs ws) (h : sp (gV vs zs) H Q E0) : wpAny (model X.prog X.w) X.A (call (.ref f) us (ks.zip ws)) (EP X pins σ Q) X.xe s := by
  have r2 := hb.rel r rz
  have many : (g us ws).length = ps.length := r2.length.symm.trans (F.len _ _ _ _ h)
  refine wpAny_call (codeAny_mono (F.run X.A X.stack s H _ _ _ Q E0 hr quiet I.env0 (hb.to s us ws I.kIn many) r2 h) ?_)
  rintro (e | fl) s' hq
  · exact False.elim hq
  cases fl with
  | ret u => exact I.after hq
  | next | brk | cont => exact hq.elim
/-- arguments by place alone -/
theorem KBinds.none {K : PySem.W.Frag} {fd : FuncData} {ps : List Str} (b : Binds K fd ps []) : KBinds K fd ps [] (fun us _ => us) (fun vs _ => vs) := by
  refine ⟨fun s us ws X hl => ?_, fun r _ => r⟩
  have := b s us X (by rw [List.append_nil]; exact hl)
  rw [List.append_nil] at this
  exact this
theorem pe_callG (F : FnG X.prog X.w X.K X.mg X.base k f fd ps sp) (hr : Room k X.A) (quiet : X.A.guards = some []) (hg : Gl X x) (hm : X.mg x = some (.ref f)) (hk : PySem.W.keepIn X.K (.ref f) = true) (hb : Binds X.K fd ps [])
    (ha : PA X (e :: es) t) (hdb : (x == ("__debug__" : Str)) = false := by decide) (he : starEach (e :: es) X.env = (false, eval e X.env) :: starEach es X.env := by rfl) (hpl : (backTo pos (starEach es X.env)).any (·.1) = false := by rfl) :
    PE X (.Call (.Name x p) (e :: es) [] pos) (tCall sp [] E0 t) := by
  constructor
  intro pins s σ H Q I h
  refine wpAny_Call_Name_kw (ld_glob I hg hm (PySem.W.callWith_K (h₀ := X.base) I.ok.mod.kin hk (thn (ha.run pos pins s σ H _ I h) ?_) he hpl) hdb)
  rintro us s1 ⟨vs, H1, I1, r, q⟩
  refine ⟨I1.kIn, ?_⟩
  have q' : sp vs H1 Q E0 := by
    have q2 : sp (vs ++ []) H1 Q E0 := q
    rwa [List.append_nil] at q2
  exact run_fnG (ws := []) (zs := []) F hr quiet (KBinds.none hb) I1 r .nil q'
end
/-! ### a law whose promise is kept where nothing is being shown -/
theorem quiet_caller : callerA.guards = some [] := rfl
/-- from an abstract heap in which at most the script is told -/
theorem law_from {P : Program} {w : World} {K : PySem.W.Frag} {mg mb : Str → Option Value} {k : Nat} {fa a : Addr} {fd : FuncData} {x : Str} {sp : Sp} {s₁ : Shared} {vs : List Value} {H : Hp}
    (inK : K.In s₁.heap) (main : s₁.heap.Ns mainGlobals mg) (bui : s₁.heap.Ns builtinsNs mb) (same : ∀ x : Str, x ≠ "__name__" → mb x = bootBuiltins x) (lim : s₁.heap.NoLimit) (gens : s₁.gens = #[])
    (at_a : s₁.heap.get? a = some { cls := .type "list", data := .seq vs.toArray }) (room : Room k callerA)
    (F : ∀ base : Heap, K.In base → base.Ns mainGlobals mg → FnG P w K mg base k fa fd [x] sp) (bound : ∀ (s : Shared) (u : Value), BindsTo s fd ⟨[u], []⟩ [(x, u)])
    (only : Only H) (hok : HOk P w H s₁.heap) (isA : ∀ b, H b ≠ none → b = a) (notK : H a ≠ none → K.lookup a = none) (want : sp [.ref a] H (fun v _ => v = .bl true) fun _ _ _ => False) :
    codeAny (model P w) callerA (.call (.ref fa) ⟨[.ref a], []⟩) (fun r s' => r = .ok (.ret (.bool true)) ∧ OldK s₁.heap s'.heap ∧ s'.os = s₁.os ∧ AllBare s'.gens) s₁ := by
  have free : ∀ b, b ≠ a → H b = none := by
    intro b hb
    cases q : H b with
    | none => rfl
    | some u => exact absurd (isA b (fun z => by rw [z] at q; cases q)) hb
  have shown : ∀ {b : Addr} {o : Obj}, s₁.heap.get? b = some o → H b = none → (hidT s₁.heap H).get? b = some o := fun e n => hidT_get e n
  have names : ∀ {b : Addr} {m : Str → Option Value}, s₁.heap.Ns b m → (hidT s₁.heap H).Ns b m := by
    rintro b m ⟨o, es, ep, e, d, r⟩
    refine ⟨o, es, ep, shown e (free b ?_), d, r⟩
    rintro rfl
    rw [at_a] at e
    cases e
    exact nomatch d
  have inHid : K.In (hidT s₁.heap H) := by
    intro b o e
    refine shown (inK b o e) ?_
    cases q : H b with
    | none => rfl
    | some u =>
      have ne : H b ≠ none := fun z => by rw [z] at q; cases q
      have eb := isA b ne
      subst eb
      rw [notK ne] at e
      cases e
  obtain ⟨mc, l1, l2⟩ := lim
  have env : Env0 P w K mg (hidT s₁.heap H) callerA [] s₁ H := {
    frames := rfl
    mod := ⟨inHid, names main, ⟨mb, names bui, same⟩, ⟨mc, names l1, l2⟩⟩
    bs := fun _ _ e => of_hidT e
    bsz := Nat.le_of_eq (hidT_size _ _)
    funs := trivial
    frf := fun b hb => nomatch (show b ∈ ([] : List Addr) from hb)
    hok := hok
    bare := .of_eq gens }
  refine codeAny_mono ((F _ inHid (names main)).run callerA [] s₁ H ⟨[.ref a], []⟩ [.ref a] [.ref a] _ _ room quiet_caller env (bound s₁ (.ref a)) (.cons rfl .nil) want) ?_
  rintro (e | fl) s' h
  · exact False.elim h
  cases fl with
  | next | brk | cont => exact False.elim h
  | ret u =>
    obtain ⟨v, H', os, bare, un, hok', rel, q⟩ := h
    cases (show v = .bl true from q)
    cases (show u = Value.bool true from rel)
    refine ⟨rfl, .of_keep ?_, os, bare⟩
    intro b o e
    rcases only b with z | ⟨ob, xs, z⟩
    · exact un.keep b o e z (fun m => nomatch (show b ∈ ([] : List Addr) from m)) (fun m => nomatch m)
    · have z2 := un.frzs b ob _ z
      have e1 := (hok b _ z).1
      rw [e] at e1
      cases e1
      exact (hok' b _ z2).1
theorem law_callG {P : Program} {w : World} {K : PySem.W.Frag} {mg mb : Str → Option Value} {k : Nat} {fa a : Addr} {fd : FuncData} {x : Str} {sp : Sp} {s₁ : Shared} {vs : List Value} {ns : List Int}
    (inK : K.In s₁.heap) (main : s₁.heap.Ns mainGlobals mg) (bui : s₁.heap.Ns builtinsNs mb) (same : ∀ x : Str, x ≠ "__name__" → mb x = bootBuiltins x) (lim : s₁.heap.NoLimit) (gens : s₁.gens = #[])
    (at_a : s₁.heap.get? a = some { cls := .type "list", data := .seq vs.toArray }) (hints : IntsAre vs ns) (short : ns.length ≤ sizeLine) (room : Room k callerA)
    (F : ∀ base : Heap, K.In base → base.Ns mainGlobals mg → FnG P w K mg base k fa fd [x] sp) (bound : ∀ (s : Shared) (u : Value), BindsTo s fd ⟨[u], []⟩ [(x, u)])
    (want : ∀ H : Hp, Only H → SqL K H a (ns.map V.int) → sp [.ref a] H (fun v _ => v = .bl true) fun _ _ _ => False) :
    codeAny (model P w) callerA (.call (.ref fa) ⟨[.ref a], []⟩) (fun r s' => r = .ok (.ret (.bool true)) ∧ OldK s₁.heap s'.heap ∧ s'.os = s₁.os ∧ AllBare s'.gens) s₁ := by
  have rel := vals_ints hints
  have many := hints.length
  have go := fun (H : Hp) (o : Only H) hok isA notK w => law_from (mb := mb) inK main bui same lim gens at_a room F bound (H := H) o hok isA notK w
  cases hk : K.lookup a with
  | some o =>
    have e := inK a o hk
    rw [at_a] at e
    cases e
    have nobody : Only (fun _ => none) := fun _ => .inl rfl
    refine go _ nobody (fun b u z => nomatch (show (none : Option HO) = some u from z)) (fun b z => absurd rfl z) (fun z => absurd rfl z) (want _ nobody (.inr ⟨_, vs.toArray, _, hk, rfl, rfl, rfl, ?_, ?_⟩))
    · rw [List.size_toArray, many]
      exact short
    · simpa using rel
  | none =>
    have key : ∃ H : Hp, H = fun b => if b = a then some (.frz { cls := .type "list", data := .seq vs.toArray } (.lst (ns.map V.int))) else none := ⟨_, rfl⟩
    obtain ⟨H, eH⟩ := key
    have there : H a = some (.frz { cls := .type "list", data := .seq vs.toArray } (.lst (ns.map V.int))) := by rw [eH]; exact if_pos rfl
    have else_ : ∀ b, b ≠ a → H b = none := fun b hb => by rw [eH]; exact if_neg hb
    have only : Only H := fun b => by
      by_cases hb : b = a
      · rw [hb]; exact .inr ⟨_, _, there⟩
      · exact .inl (else_ b hb)
    refine go H only (fun b u z => ?_) (fun b z => ?_) (fun _ => hk) (want H only (.inl (.inr ⟨_, there⟩)))
    · by_cases hb : b = a
      · subst hb
        rw [there] at z
        cases z
        exact ⟨at_a, by rw [List.length_map]; exact short, vs, _, rel, at_a⟩
      · rw [else_ b hb] at z
        cases z
    · by_cases hb : b = a
      · exact hb
      · exact absurd (else_ b hb) z
theorem walk_ofG {l : PySem.W.OpenLaw} {n k : Nat} {q : Program} {loose : List Str} {XP : (Str → Option Value) → Heap → Prop} {YP : World → Heap → Prop} {d : DefRec} {K : Params → PySem.W.Frag} {sp : World → Sp} {x : Str}
    (hn : l.most = some n) (hn2 : n ≤ sizeLine) (hdf : d.params.defaults = []) (room : Room k callerA) (hY : ∀ (w : World) (h : Heap), YP w h → (K w.params).In h)
    (F : ∀ (w : World) (mg : Str → Option Value) (fa : Addr) (h : Heap), (K w.params).In h → h.Ns mainGlobals mg → mg d.name = some (.ref fa) →
      ∃ fd : FuncData, (∀ (s : Shared) (u : Value), BindsTo s fd ⟨[u], []⟩ [(x, u)]) ∧ ∀ base : Heap, (K w.params).In base → base.Ns mainGlobals mg → FnG l.prog w (K w.params) mg base k fa fd [x] (sp w))
    (want : ∀ (w : World) (H : Hp) (a : Addr) (ns : List Int), ns.length ≤ n → Only H → SqL (K w.params) H a (ns.map V.int) → sp w [.ref a] H (fun v _ => v = .bl true) fun _ _ _ => False) :
    PySem.W.WalkO q loose XP YP l.row.toRowW d [] (fun f vs => PySem.call f vs) := by
  apply Att.attach_call hn hdf
  intro w s₀ s₁ mg mb fa o pm cd doc a vs ns G Y ho hd hcd hmg hobj hints hlen hg
  have inK := hY w _ Y
  obtain ⟨fd, bound, hF⟩ := F w mg fa _ inK G.T.g hmg
  exact law_callG inK G.T.g G.T.b G.T.builtins G.T.nolimit hg hobj hints (Nat.le_trans hlen hn2) room hF bound (fun H hO hS => want w H a ns hlen hO hS)
/-! ### repr of a list -/
section
variable {X : Cx}
theorem call_repr_data (quiet : X.A.guards = some []) (hu : X.A.units + 70 < cLine) : CallR X (.builtin "repr") (fun xs H Q => ∃ a d, xs = [.ref a] ∧ Dp X.K H (.ref a) d ∧ d.showable = true ∧ d.hasDict = false ∧ d.depth ≤ 60 ∧ d.shown.length ≤ sizeLine ∧ Q (.str d.shown) H) := by
  intro pins s σ H xs us Q I r h
  obtain ⟨a, d, rfl, hd, hs, hnd, hdp, hz, q⟩ := h
  obtain ⟨u, rfl, e⟩ := vals1 r
  cases e
  obtain ⟨as, rd⟩ := Dp.reads I d _ _ hd (rfl : RelV (.ref a) (.ref a))
  exact repr_of_reads' rd hs (PyData.noDict_hsm hnd) quiet (by omega) (fun _ _ e => e) (fun h' u tk hk => ⟨.str _, H, I.kept hk, ⟨_, rfl⟩, q⟩) hz
end
end My
namespace My
open PySem L2 PyProof.Rows
/-! ### the rules within a comprehension -/
section
variable {X : Cx} {K : PySem.W.Frag}
theorem ix_listK (h : X.K = K) : IxR X (rIxL K) := h ▸ ix_list
theorem ix_tupK (h : X.K = K) : IxR X (rIxT K) := h ▸ ix_tup
theorem pi_listK {tg l : Expr} {tl : TE} (h : X.K = K) (hl : PE X l tl) : PI X tg l (iList K tl) := h ▸ pi_list hl
theorem call_len_seqK (h : X.K = K) : CallR X (.builtin "len") (fun xs H Q => ∃ p ys, xs = [V.ref p] ∧ (SqL K H p ys ∨ SqT K H p ys) ∧ Q (.int (ys.length : Int)) H) := h ▸ call_len_seq
theorem op_in_seqK (h : X.K = K) : OpR X (compareOp .In) (rIn K false) := h ▸ op_in_seq
theorem op_notIn_seqK (h : X.K = K) : OpR X (compareOp .NotIn) (rIn K true) := h ▸ op_notIn_seq
end
theorem mt_indexK {X : Cx} {K : PySem.W.Frag} (h : X.K = K) : MtR X "list.index" (rIndex K) := h ▸ mt_index
theorem pe_bmK {X : Cx} {K : PySem.W.Frag} {o e : Expr} {es : List Expr} {to : TE} {t : TA} {name : Str} {apos cpos : Pos} {T id : String} {r : V → List V → Hp → VK → Prop} (h : X.K = K) (pa : PlainAttrs T) (slot : Slot T name id) (hty : typeOf (.builtin id) = pure (.type "method_descriptor")) (hm : MtR X id r) (ho : PE X o to) (ha : PA X (e :: es) t)
    (hbase : attributeBase o name X.env (eval o X.env) = eval o X.env := by rfl)
    (hfew : ((backTo cpos (starEach (e :: es) X.env)).all (fun x => !x.1) && (backToKw cpos (keywordEach [] X.env)).all (fun x => x.1.isSome)
      && decide ((e :: es).length + ([] : List Keyword).length + (if ([] : List Keyword).isEmpty then 0 else 1) < 30)) = true := by rfl)
    (hline : (apos.endLine == cpos.line) = true := by rfl) (hs : starEach (e :: es) X.env = (false, eval e X.env) :: starEach es X.env := by rfl) (hplain : (backTo cpos (starEach es X.env)).any (·.1) = false := by rfl) :
    PE X (.Call (.Attribute o name apos) (e :: es) [] cpos) (tBM K T r to t) := h ▸ pe_bm pa slot hty hm ho ha hbase hfew hline hs hplain
/-- a field, read within a comprehension -/
theorem pe_fldK {X : Cx} {K : PySem.W.Frag} {e : Expr} {ta : TE} {f : Str} {pos : Pos} (h : X.K = K) (he : PE X e ta) (hb : attributeBase e f X.env (eval e X.env) = eval e X.env := by rfl) : PE X (.Attribute e f pos) (tFld K ta f) := h ▸ pe_fld he hb
theorem pe_fldA {X : Cx} {e : Expr} {ta : TE} {f : Str} {pos : Pos} (he : PE X e ta) (hb : attributeBase e f X.env (eval e X.env) = eval e X.env := by rfl) : PE X (.Attribute e f pos) (tFld X.K ta f) := pe_fld he hb
/-! ### defs that may show a value (repr) -/
theorem hu70 {k : Nat} {A : Around} (h : Room k A) : A.units + 70 < cLine := by
  have := h.un
  omega
theorem u65 {k : Nat} {A : Around} (h : Room k A) : A.units + 65 < cLine := by
  have := h.un
  omega
section
variable {P : Program} {w : World} {K : PySem.W.Frag} {mg : Str → Option Value} {base : Heap}
def GoodG (P : Program) (w : World) (K : PySem.W.Frag) (mg : Str → Option Value) (base : Heap) (x : Str) (st : Stmt) (ps : List Str) (k : Nat) (sp : Sp) : Prop := ∃ (f : Addr) (fd : FuncData), FnG P w K mg base k f fd ps sp ∧ mg x = some (.ref f) ∧ PySem.W.keepIn K (.ref f) = true ∧ Binds K fd ps [] ∧ Fun K x x st f fd
theorem Def.goodG {x : Str} {st : Stmt} {ps : List Str} {k : Nat} {sp : Sp} (D : Def K mg x st ps) (h : ∀ f fd, Fun K x x st f fd → FnG P w K mg base k f fd ps sp) : GoodG P w K mg base x st ps k sp := by
  obtain ⟨f, fd, F, m, b⟩ := D
  exact ⟨f, fd, h f fd F, m, F.kp, b, F⟩
end
end My
set_option maxHeartbeats 4000000
/-! set(texts), sorted(set(texts)), len(set(texts)) -/
namespace My
open PySem PySem.Spec PyProof.Rows L2
/-- the text of an entry -/
def txtOf (e : Int × Value) : Str := match e.2 with | .str k _ => k | _ => Str.empty
def GoodT (w : World) (e : Int × Value) : Prop := ∃ k tk, e.2 = Value.str k tk ∧ e.1 = hashStr w k
/-- a set of texts: S its members, n their number -/
def SetTx (w : World) (h : Heap) (a : Addr) (S : Str → Bool) (n : Nat) : Prop :=
  ∃ o es ep t, h.get? a = some o ∧ o.ExactSet ∧ o.data = .set es ep t ∧ (∀ e ∈ es.toList, GoodT w e) ∧ (es.toList.map txtOf).Nodup ∧ (∀ k, S k = true ↔ k ∈ es.toList.map txtOf) ∧
    (es.size < scanBound ∧ t.fits es.size = true ∧ es.size = n) ∧ Ris t.place.toList ∧ (w.params.followText "set-order" = true ∨ t.led = true)
section
variable {P : Program} {w : World} {h h' : Heap} {a : Addr} {S : Str → Bool} {n : Nat}
theorem SetTx.at (R : SetTx w h a S n) (k : ∀ o, h.get? a = some o → h'.get? a = some o) : SetTx w h' a S n := by
  obtain ⟨o, es, ep, t, ho, r⟩ := R
  exact ⟨o, es, ep, t, k o ho, r⟩
theorem SetTx.congr {S' : Str → Bool} {m : Nat} (R : SetTx w h a S n) (e : ∀ k, S' k = S k) (em : n = m) : SetTx w h a S' m := by
  rw [show S' = S from funext e, ← em]
  exact R
theorem goodT_elems {l : List (Int × Value)} (g : ∀ e ∈ l, GoodT w e) : ElemsOf (PySem.strKind P w) l := fun e he => by
  obtain ⟨k, tk, g1, g2⟩ := g e he
  exact ⟨⟨k, by rw [g1]; exact strKind_is P w k tk, g2⟩, by rw [g1]; rfl⟩
theorem goodT_is {e : Int × Value} (g : GoodT w e) (k : Str) : (PySem.strKind P w).is k e.2 = true ↔ txtOf e = k := by
  obtain ⟨k0, tk, g1, _⟩ := g
  unfold txtOf
  rw [g1]
  constructor
  · intro q
    exact (PySem.strKind P w).inj _ _ _ (strKind_is P w k0 tk) q
  · intro q
    show (PySem.strKind P w).is k (.str k0 tk) = true
    rw [show k0 = k from q]
    exact strKind_is P w k tk
theorem goodT_mem {l : List (Int × Value)} (g : ∀ e ∈ l, GoodT w e) (k : Str) : k ∈ l.map txtOf ↔ ∃ e ∈ l, (PySem.strKind P w).is k e.2 = true := by
  rw [List.mem_map]
  exact ⟨fun ⟨e, he, q⟩ => ⟨e, he, (goodT_is (g e he) k).2 q⟩, fun ⟨e, he, q⟩ => ⟨e, he, (goodT_is (P := P) (g e he) k).1 q⟩⟩
theorem SetTx.setOf (R : SetTx w h a S n) : h.SetOf (PySem.strKind P w) a S n := by
  obtain ⟨o, es, ep, t, ho, hx, hd, g, nd, hm, ⟨hb, hf, hn⟩, _⟩ := R
  exact ⟨o, es, ep, t, ho, hx, hd, goodT_elems g, fun k => (hm k).trans (goodT_mem g k), hb, hf, hn⟩
end
section
variable {P : Program} {w : World} {A : Around} {E : Value → Shared → Prop} {s : Shared} {a : Addr} {S : Str → Bool} {n : Nat}
theorem tx_tail {g : Bool → Sem Unit} (hg : ∀ (b : Bool) (s₁ : Shared) (Q' : Unit → Shared → Prop), Q' () s₁ → wpAny (model P w) A (g b) Q' E s₁)
    {o : Obj} {es : Array (Int × Value)} {ep : Nat} {t : SetTable} (ho : s.heap.get? a = some o) (hex : o.ExactSet) (hd : o.data = .set es ep t)
    {es1 : Array (Int × Value)} {t2 : SetTable} {S' : Str → Bool} (g1 : ∀ e ∈ es1.toList, GoodT w e) (nd1 : (es1.toList.map txtOf).Nodup) (m1 : ∀ k, S' k = true ↔ k ∈ es1.toList.map txtOf)
    (room : es1.size < scanBound) (fit : t2.fits es1.size = true) (ris : Ris t2.place.toList) (led : w.params.followText "set-order" = true ∨ t2.led = true) {wasDummy : Bool} {R : Option Bool → Shared → Prop}
    (hR : ∀ h', Heap.SameBut a s.heap h' → SetTx w h' a S' es1.size → R (some true) { s with heap := h' }) :
    wpAny (model P w) A (do
        storeSet a es1 t2
        if (!wasDummy && t2.tooFull) = true then do
            g (relayAll t2 es1 (SetTable.grown es1.size)).2.2
            storeSet a (relayAll t2 es1 (SetTable.grown es1.size)).1 (relayAll t2 es1 (SetTable.grown es1.size)).2.1
            pure (some true)
          else pure (some true)) R E s := by
  refine wpAny_bind (wpAny_storeSet_of ho hd ?_ (fits_of_scanBound room))
  have st1 := store_at (es' := es1) (t' := t2) ho hd
  have same1 := Heap.SameBut.update s.heap a (Obj.putSet es1 t2)
  split
  · have p3 := relayAll_perm t2 es1 (SetTable.grown es1.size)
    have f3 := relayAll_fits t2 es1 (SetTable.grown es1.size)
    have r3 := relayAll_ris t2 es1 (SetTable.grown es1.size)
    have l3 := relayAll_led t2 es1 (SetTable.grown es1.size)
    generalize relayAll t2 es1 (SetTable.grown es1.size) = Z at p3 f3 r3 l3 ⊢
    obtain ⟨es2, t3, gave⟩ := Z
    dsimp only at p3 f3 r3 l3 ⊢
    have z2 : es2.size = es1.size := by rw [← Array.length_toList, p3.length_eq, Array.length_toList]
    have b2 : es2.size < scanBound := by rw [z2]; exact room
    refine wpAny_bind (hg _ _ _ (wpAny_bind (wpAny_storeSet_of st1 rfl ?_ (fits_of_scanBound b2))))
    have st2 := store_at (es' := es2) (t' := t3) st1 rfl
    exact wpAny_pure (hR _ (same1.trans (Heap.SameBut.update _ a _)) ⟨_, es2, _, t3, st2, hex, rfl, fun e he => g1 e (p3.mem_iff.mp he), (p3.map txtOf).nodup_iff.mpr nd1, fun k => (m1 k).trans (p3.map txtOf).mem_iff.symm, ⟨b2, f3, z2⟩, r3, led.imp id fun z => by rw [l3]; exact z⟩)
  · exact wpAny_pure (hR _ same1 ⟨_, es1, _, t2, st1, hex, rfl, g1, nd1, m1, ⟨room, fit, rfl⟩, ris, led⟩)
theorem tx_add {k : Str} {tk : Tok} {Q : Bool → Shared → Prop} (R : SetTx w s.heap a S n) (room : n + 1 < scanBound)
    (hQ : ∀ h', Heap.SameBut a s.heap h' → SetTx w h' a (fun j => S j || decide (j = k)) (if S k = true then n else n + 1) → Q (!S k) { s with heap := h' }) :
    wpAny (model P w) A (setAddHashed a (.str k tk) ((PySem.strKind P w).hash k)) Q E s := by
  obtain ⟨o, es, ep, t, ho, hex, hd, g, nd, hm, ⟨hb, hf, hn⟩, hr, hl⟩ := R
  have is_k : (PySem.strKind P w).is k (.str k tk) = true := strKind_is P w k tk
  have scan : (Value.str k tk).scannable = true := rfl
  have elems : ElemsOf (PySem.strKind P w) es.toList := goodT_elems g
  unfold setAddHashed setAddHashedIn
  refine wpAny_holding (wpAny_bind (wpAny_setState_of ho hd hf ?_))
  dsimp only
  rw [byScan_of scan hb elems]
  simp only [↓reduceIte]
  unfold setAddByScan
  refine wpAny_bind (wpAny_bind (wpAny_rule ?_))
  refine wpAny_bind (wpAny_setScan_of is_k ho hd hf elems ?_)
  cases at_ : List.findIdx? (fun e => (PySem.strKind P w).is k e.2) es.toList with
  | some j =>
    dsimp only
    obtain ⟨hj, pj, _⟩ := List.findIdx?_eq_some_iff_getElem.mp at_
    have inS : S k = true := (hm k).2 ((goodT_mem (P := P) g k).2 ⟨es.toList[j], List.getElem_mem hj, pj⟩)
    refine wpAny_pure (wpAny_pure ?_)
    have q := hQ s.heap (Heap.SameBut.refl a s.heap) ⟨o, es, ep, t, ho, hex, hd, g, nd, fun i => by
      rw [Bool.or_eq_true, decide_eq_true_eq, ← hm i]
      exact ⟨fun z => z.elim id (fun e => e ▸ inS), .inl⟩, ⟨hb, hf, by rw [if_pos inS]; exact hn⟩, hr, hl⟩
    rw [inS] at q
    exact q
  | none =>
    dsimp only
    have out : k ∉ es.toList.map txtOf := fun z => by
      obtain ⟨e, he, q⟩ := (goodT_mem (P := P) g k).1 z
      have c := List.findIdx?_eq_none_iff.mp at_ e he
      rw [q] at c
      cases c
    have noS : S k = false := by
      cases q : S k with
      | false => rfl
      | true => exact absurd ((hm k).1 q) out
    have gave_ : ∀ (b : Bool) {s₁ : Shared} {Q' : Unit → Shared → Prop}, Q' () s₁ → wpAny (model P w) A (match b with | true => rule "set.scan.the-table-gave-way" | false => pure ()) Q' E s₁ :=
      fun b s₁ Q' q => by cases b <;> first | exact wpAny_pure q | exact wpAny_rule q
    have p1 := layNew_perm t es ((PySem.strKind P w).hash k) (.str k tk)
    have f1 := layNew_fits t es ((PySem.strKind P w).hash k) (.str k tk)
    have r1 := layNew_ris t es ((PySem.strKind P w).hash k) (.str k tk) hr
    have l1 := layNew_led t es ((PySem.strKind P w).hash k) (.str k tk)
    generalize layNew t es ((PySem.strKind P w).hash k) (.str k tk) = Z at p1 f1 r1 l1 ⊢
    obtain ⟨es1, t1, wasDummy, gave⟩ := Z
    dsimp only at p1 f1 r1 l1 ⊢
    rw [Array.toList_push] at p1
    have pc : es1.toList.Perm (((PySem.strKind P w).hash k, Value.str k tk) :: es.toList) := p1.trans (List.perm_append_singleton _ _)
    have pk : (es1.toList.map txtOf).Perm (k :: es.toList.map txtOf) := pc.map txtOf
    have g1 : ∀ e ∈ es1.toList, GoodT w e := fun e he => by
      rcases List.mem_cons.mp (pc.mem_iff.mp he) with z | z
      · rw [z]; exact ⟨k, tk, rfl, rfl⟩
      · exact g e z
    have nd1 : (es1.toList.map txtOf).Nodup := pk.nodup_iff.mpr (List.nodup_cons.mpr ⟨out, nd⟩)
    have m1 : ∀ i, (S i || decide (i = k)) = true ↔ i ∈ es1.toList.map txtOf := fun i => by
      rw [Bool.or_eq_true, decide_eq_true_eq, hm i, pk.mem_iff, List.mem_cons]
      exact Or.comm
    have z1 : es1.size = n + 1 := by rw [← Array.length_toList, pc.length_eq, List.length_cons, Array.length_toList, hn]
    have b1 : es1.size < scanBound := by rw [z1]; exact room
    have led1 : w.params.followText "set-order" = true ∨ t1.led = true := hl.imp id fun z => by rw [l1]; exact z
    have fin : ∀ h', Heap.SameBut a s.heap h' → SetTx w h' a (fun j => S j || decide (j = k)) es1.size → Q true { s with heap := h' } := fun h' sb r => by
      have q := hQ h' sb
      rw [noS] at q
      rw [z1] at r
      exact q r
    refine wpAny_bind (gave_ _ ?_)
    split
    · refine wpAny_bind ?_
      rw [hashByValue_scannable 8 scan]
      refine wpAny_pure ?_
      refine tx_tail ?_ ho hex hd g1 nd1 m1 b1 ?_ ?_ ?_ ?_
      · intro b s₁ Q' q; cases b <;> first | exact wpAny_pure q | exact wpAny_rule q
      · first | (split <;> first | exact f1 | exact SetTable.fits_plain_off f1) | exact f1
      · first | (split <;> exact r1) | exact r1
      · first | (split <;> exact led1) | exact led1
      · intro h' sb r; dsimp only; exact wpAny_pure (fin h' sb r)
    · refine wpAny_bind (wpAny_pure ?_)
      simp only [↓reduceIte]
      refine tx_tail ?_ ho hex hd g1 nd1 m1 b1 f1 r1 led1 ?_
      · intro b s₁ Q' q; cases b <;> first | exact wpAny_pure q | exact wpAny_rule q
      · intro h' sb r; dsimp only; exact wpAny_pure (fin h' sb r)
end
end My
set_option maxHeartbeats 4000000
namespace My
open PySem PySem.Spec PyProof.Rows L2
abbrev hasT (xs : List Str) : Str → Bool := fun k => decide (k ∈ xs)
theorem hasT_snoc (xs : List Str) (x : Str) (k : Str) : hasT (xs ++ [x]) k = (hasT xs k || decide (k = x)) := by
  unfold hasT
  by_cases c : k = x
  · simp [c]
  · simp [c]
section
variable {prog : Program} {w : World} {A : Around} {R : Result → Shared → Prop} {I : Addr} {fp wr : List Addr} {G : Array GenState → Array GenState → Prop} {n : Nat} {Pw : Nat → Value → Prop} {St : Nat → Shared → Prop}
/-- the texts of an iterator put into a set -/
theorem put_texts (W : WalksS prog w A.in1 I fp wr G n Pw St) (a : Addr) (away : a ∉ fp) (xs : List Str) (size : xs.length = n) (few : n + 1 < scanBound)
    (reads : ∀ i v, Pw i v → ∃ t x, xs[i]? = some x ∧ v = .str x t) :
    ∀ (k i m : Nat) (s : Shared), n - i = k → i ≤ n → m ≤ i → St i s → SetTx w s.heap a (hasT (xs.take i)) m →
      (∀ s' m', Moved (a :: wr) G s s' → m' ≤ n → SetTx w s'.heap a (hasT xs) m' → R (.ok (.ret .none)) s') →
      codeAny (model prog w) A (.builtin "set.update.loop" ⟨[.ref a, .ref I], []⟩) R s := by
  have apart : a ∉ wr := fun z => away (W.sub _ z)
  have wider : ∀ b ∈ wr, b ∈ a :: wr := fun b hb => List.mem_cons_of_mem _ hb
  intro k
  induction k with
  | zero =>
    intro i m s hk hi hm hst hS hR
    obtain rfl : i = n := by omega
    rw [← size, List.take_length] at hS
    refine codeAny_builtin PyProof.Rows.F.entry_set_update_loop ?_
    rw [Around.under_plainId PyProof.Rows.F.plain_set_update_loop _]
    show wpAny _ A.in1 (pyNext (.ref I) >>= _) _ _ s
    refine wpAny_bind (W.done s _ _ hst fun s' hm' => ?_)
    show wpAny _ A.in1 (ret Value.none) _ _ s'
    exact wpAny_pure (hR s' m (hm'.mono wider) hm (hS.at fun o e => hm'.heap a _ apart e))
  | succ k ih =>
    intro i m s hk hi hm hst hS hR
    have hlt : i < n := by omega
    refine codeAny_builtin PyProof.Rows.F.entry_set_update_loop ?_
    rw [Around.under_plainId PyProof.Rows.F.plain_set_update_loop _]
    show wpAny _ A.in1 (pyNext (.ref I) >>= _) _ _ s
    refine wpAny_bind (W.item i s _ _ hlt hst fun v s' hPv hst' hm' => ?_)
    obtain ⟨t, x, hx, rfl⟩ := reads i v hPv
    have hS' : SetTx w s'.heap a (hasT (xs.take i)) m := hS.at fun o e => hm'.heap a _ apart e
    show wpAny _ A.in1 (holding [Value.str x t] (setAdd a (.str x t)) >>= _) _ _ s'
    refine wpAny_bind (wpAny_holding ?_)
    unfold setAdd
    refine wpAny_holding (wpAny_bind ((PySem.strKind prog w).pyHash (k := x) (strKind_is _ _ _ _) ?_))
    refine tx_add (P := prog) (s := { s' with toks := s'.toks + 1 }) hS' (by omega) fun h' sb hS2 => ?_
    have hS3 : SetTx w h' a (hasT (xs.take (i + 1))) (if hasT (xs.take i) x = true then m else m + 1) := by
      refine hS2.congr (fun k' => ?_) rfl
      rw [show xs.take (i + 1) = xs.take i ++ [x] by rw [List.take_succ, hx]; rfl, hasT_snoc]
    refine wpAny_pure ⟨plainId_quiet PyProof.Rows.F.plain_set_update_loop _, ih (i + 1) _ _ (by omega) hlt (by split <;> omega) (W.frame _ s' _ _ hst' (Nat.le_succ _) fun b hb o e => ?_) hS3 fun s'' m'' hm'' hle hS'' => ?_⟩
    · rw [sb.2 b (fun z : b = a => away (by rw [← z]; exact hb))]; exact e
    · refine hR s'' m'' (Moved.trans W.gtrans ((hm'.mono wider).then_heap (Nat.le_succ _) fun b o hb e => ?_) hm'') hle hS''
      rw [sb.2 b (fun z : b = a => hb (by rw [z]; exact List.mem_cons_self))]; exact e
end
def newSet (w : World) : Obj := { cls := .type "set", dict := none, data := .set #[] 0 (.fresh 0 0 (!w.params.followText "set-order")) }
theorem newSet_tx (w : World) {h : Heap} : SetTx w (h.push (newSet w)) h.objs.size (fun _ => false) 0 :=
  ⟨_, #[], 0, _, Heap.get?_push_size _ rfl, ⟨rfl, rfl, rfl⟩, rfl, (fun e he => by simp at he), (by simp), (fun k => by simp), ⟨(by decide), (by rfl), rfl⟩, List.Pairwise.nil, by
    show _ ∨ (!w.params.followText "set-order") = true
    cases w.params.followText "set-order"
    · exact Or.inr rfl
    · exact Or.inl rfl⟩
section
variable {prog : Program} {w : World} {A : Around} {E : Value → Shared → Prop} {s : Shared}
theorem set_made (a : Value) {Q₁ : Value → Shared → Prop} (h : Q₁ (.ref s.heap.objs.size) { s with heap := s.heap.push (newSet w) }) :
    codeAny (model prog w) A (.call (.builtin "set.__new__") ⟨[.type "set", a], []⟩) (wants Q₁ E) s := by
  refine codeAny_of_tree ?_
  show wpAny _ A.in1 (do checkBuiltinCall "set.__new__" ⟨[.type "set", a], []⟩; again (.builtin "set.__new__" ⟨[.type "set", a], []⟩)) _ _ s
  refine wpAny_bind (wpAny_of_eq (PySem.F.newCall_set_1 a) (wpAny_pure ⟨plainId_quiet PySem.F.plain_set_new _, codeAny_builtin PySem.F.entry_set_new ?_⟩))
  rw [Around.under_plainId PySem.F.plain_set_new _]
  unfold Builtin.«set.__new__» Builtin.Frozenset.newClass
  have hsub := sub_set_self
  obtain ⟨hp, g, d, tk, os⟩ := s
  dsimp only
  wp_walk
  refine wpAny_askSetting (wpAny_pure ?_)
  dsimp only
  simp only [newObj]
  exact wpAny_bind (wpAny_alloc (wpAny_pure (wpAny_pure h)))
set_option maxHeartbeats 3200000 in
theorem set_of_list {q : Addr} {ys : Array Value} {xs : List Str} {Q : Value → Shared → Prop}
    (calm : A.handled = none) (hq : s.heap.IsList q ys) (hx : PyProof.Rows.StrsAre ys.toList xs) (few : xs.length + 1 < scanBound)
    (k : ∀ (h' : Heap) (tk m : Nat), m ≤ xs.length → SetTx w h' s.heap.objs.size (hasT xs) m →
      (∀ b o, b < s.heap.objs.size → s.heap.get? b = some o → h'.get? b = some o) → Q (.ref s.heap.objs.size) { s with heap := h', toks := tk }) :
    wpAny (model prog w) A (call (.type "set") [.ref q]) Q E s := by
  obtain ⟨c, tl, hmro⟩ := PySem.F.called_set.mro
  have hmade := PySem.F.called_set.made
  have hsub := PySem.F.called_set.sub
  refine wpAny_call (codeAny_of_tree ?_)
  show wpAny _ _ (callAny (.type "set") _) _ _ _
  refine wpAny_pure ⟨Code.quiet_builtin _ (by decide +kernel), codeAny_builtin PySem.F.entry_type_call ?_⟩
  rw [Around.under_plain (weight_type_call_type "set" [.ref q] []) rfl]
  have h1 := PySem.F.called_set.notType
  have h2 := PySem.F.called_set.canCreate
  have hct := PySem.F.typeCall_set_1 (.ref q)
  repeat (any_goals (first | assumption | wp_step))
  refine codeAny_mono (set_made (w := w) (.ref q) (E := E) (Q₁ := fun obj s₁ => obj = .ref s.heap.objs.size ∧ s₁ = { s with heap := s.heap.push (newSet w) }) ⟨rfl, rfl⟩) fun r s₁ hr => ?_
  cases r with
  | error e => exact hr
  | ok fl =>
    cases fl with
    | ret obj =>
      obtain ⟨rfl, rfl⟩ := hr
      have hS : (s.heap.push (newSet w)).get? s.heap.objs.size = some (newSet w) := Heap.get?_push_size _ rfl
      have hT : Shared.TypeIs { s with heap := s.heap.push (newSet w) } (.ref s.heap.objs.size) "set" := ⟨_, hS, rfl⟩
      have hli := PySem.F.called_set.init.lookup
      have hbi := PySem.F.called_set.init.bind (.ref s.heap.objs.size)
      repeat (any_goals (first | assumption | wp_step))
      refine codeAny_mono (codeAny_call_builtin (R := wants (fun r s₂ => r = .none ∧ ∃ h' tk m, s₂ = { s with heap := h', toks := tk } ∧ m ≤ xs.length ∧
          SetTx w h' s.heap.objs.size (hasT xs) m ∧
          (∀ b o, b < s.heap.objs.size → s.heap.get? b = some o → h'.get? b = some o)) E) PySem.F.called_set.init.plain PySem.F.entry_set_init (check_set_init_1 hT ?_)) fun r₂ s₂ hr₂ => ?_
      · obtain ⟨ol, hol, hcl, nl, hdl⟩ := hq
        obtain ⟨ocls, odict, odata, oslots⟩ := ol
        simp only at hcl hdl
        subst hcl; subst hdl
        have hol' : (s.heap.push (newSet w)).get? q = some { cls := .type "list", dict := odict, data := .seq ys nl, slots := oslots } := Heap.get?_push_of_some _ hol
        have hsls := PySem.F.sub_list_set
        have hslf := PySem.F.sub_list_frozenset
        have hne : (Value.type "list" == Value.type "dict") = false := by decide
        have hl1 : (s.heap.push (newSet w)).IsList q ys := ⟨_, hol', rfl, nl, rfl⟩
        unfold Builtin.«set.__init__» noKeywords Builtin.Frozenset.updateFrom
        generalize hPI : pyIter = PI
        wp_walk
        subst hPI
        refine wpAny_pyIter_list hl1 (wpAny_bind (wpAny_runValue ?_))
        have qS : q < s.heap.objs.size := Heap.lt_size hol
        have calm3 : A.in1.in1.in1.handled = none := by simp [calm]
        have z1 : (s.heap.push (newSet w)).objs.size = s.heap.objs.size + 1 := Heap.size_push ..
        have qI : q ≠ (s.heap.push (newSet w)).objs.size := by
          rw [z1]; exact Nat.ne_of_lt (Nat.lt_succ_of_lt qS)
        have away : s.heap.objs.size ∉ [(s.heap.push (newSet w)).objs.size, q] := by
          rw [z1]; simp only [List.mem_cons, List.mem_singleton, List.not_mem_nil, or_false, not_or]
          exact ⟨Nat.ne_of_lt (Nat.lt_succ_self _), Nat.ne_of_gt qS⟩
        have sz : xs.length = ys.size := by rw [← StrsAre.len_eq hx, Array.length_toList]
        have rd : ∀ (i : Nat) (v : Value), ys[i]? = some v → ∃ t x, xs[i]? = some x ∧ v = .str x t := fun i v hv => by
          obtain ⟨t, e⟩ := SS.strs_at hx i v (by rw [Array.getElem?_toList]; exact hv)
          have hi : i < xs.length := by rw [sz]; exact (Array.getElem?_eq_some_iff.mp hv).1
          exact ⟨t, xs[i], List.getElem?_eq_getElem hi, by rw [e, List.getD_eq_getElem?_getD, List.getElem?_eq_getElem hi]; rfl⟩
        refine put_texts ((Walks.list calm3 _ q qI ys).toS) s.heap.objs.size
          away xs sz (by omega) rd (ys.size - 0) 0 0 _ rfl (Nat.zero_le _) (Nat.zero_le _)
          ⟨⟨_, Heap.get?_push_size _ rfl, rfl, rfl⟩, (hl1.push _)⟩ ?start ?end_
        case start =>
          exact (SetTx.congr (newSet_tx w) (fun k => by simp [hasT]) rfl).at fun o e => Heap.get?_push_of_some _ e
        case end_ =>
          intro s' m hm hle hS'
          obtain ⟨h', g', d', tk', os'⟩ := s'
          cases (show g' = s.gens from hm.gens)
          cases (show d' = s.drawn from hm.drawn)
          cases (show os' = s.os from hm.os)
          show wpAny _ _ _ _ _ _
          refine wpAny_pure ?_
          show wpAny _ _ (ret Value.none) _ _ _
          refine wpAny_pure ⟨rfl, h', tk', m, rfl, by rw [sz]; exact hle, hS', fun b o hb e => ?_⟩
          have b1 : b ≠ s.heap.objs.size := Nat.ne_of_lt hb
          have b2 : b ≠ (s.heap.push (newSet w)).objs.size := by
            rw [z1]; exact Nat.ne_of_lt (Nat.lt_succ_of_lt hb)
          exact hm.heap b o (by simp only [List.mem_cons, List.mem_singleton, List.not_mem_nil, or_false, not_or]; exact ⟨b1, b2⟩) (Heap.get?_push_of_some _ (Heap.get?_push_of_some _ e))
      · cases r₂ with
        | error e => exact hr₂
        | ok fl₂ =>
          cases fl₂ with
          | ret r =>
            obtain ⟨rfl, h', tk, m, rfl, hle, hS', keep⟩ := hr₂
            repeat (any_goals (first | assumption | wp_step))
            exact k _ _ m hle hS' keep
          | _ => exact hr₂.elim
    | _ => exact hr.elim
set_option maxHeartbeats 3200000 in
theorem set_of_tuple {q : Addr} {ys : Array Value} {xs : List Str} {Q : Value → Shared → Prop}
    (calm : A.handled = none) (hq : s.heap.IsTuple q ys) (hx : PyProof.Rows.StrsAre ys.toList xs) (few : xs.length + 1 < scanBound)
    (k : ∀ (h' : Heap) (tk m : Nat), m ≤ xs.length → SetTx w h' s.heap.objs.size (hasT xs) m →
      (∀ b o, b < s.heap.objs.size → s.heap.get? b = some o → h'.get? b = some o) → Q (.ref s.heap.objs.size) { s with heap := h', toks := tk }) :
    wpAny (model prog w) A (call (.type "set") [.ref q]) Q E s := by
  obtain ⟨c, tl, hmro⟩ := PySem.F.called_set.mro
  have hmade := PySem.F.called_set.made
  have hsub := PySem.F.called_set.sub
  refine wpAny_call (codeAny_of_tree ?_)
  show wpAny _ _ (callAny (.type "set") _) _ _ _
  refine wpAny_pure ⟨Code.quiet_builtin _ (by decide +kernel), codeAny_builtin PySem.F.entry_type_call ?_⟩
  rw [Around.under_plain (weight_type_call_type "set" [.ref q] []) rfl]
  have h1 := PySem.F.called_set.notType
  have h2 := PySem.F.called_set.canCreate
  have hct := PySem.F.typeCall_set_1 (.ref q)
  repeat (any_goals (first | assumption | wp_step))
  refine codeAny_mono (set_made (w := w) (.ref q) (E := E) (Q₁ := fun obj s₁ => obj = .ref s.heap.objs.size ∧ s₁ = { s with heap := s.heap.push (newSet w) }) ⟨rfl, rfl⟩) fun r s₁ hr => ?_
  cases r with
  | error e => exact hr
  | ok fl =>
    cases fl with
    | ret obj =>
      obtain ⟨rfl, rfl⟩ := hr
      have hS : (s.heap.push (newSet w)).get? s.heap.objs.size = some (newSet w) := Heap.get?_push_size _ rfl
      have hT : Shared.TypeIs { s with heap := s.heap.push (newSet w) } (.ref s.heap.objs.size) "set" := ⟨_, hS, rfl⟩
      have hli := PySem.F.called_set.init.lookup
      have hbi := PySem.F.called_set.init.bind (.ref s.heap.objs.size)
      repeat (any_goals (first | assumption | wp_step))
      refine codeAny_mono (codeAny_call_builtin (R := wants (fun r s₂ => r = .none ∧ ∃ h' tk m, s₂ = { s with heap := h', toks := tk } ∧ m ≤ xs.length ∧
          SetTx w h' s.heap.objs.size (hasT xs) m ∧
          (∀ b o, b < s.heap.objs.size → s.heap.get? b = some o → h'.get? b = some o)) E) PySem.F.called_set.init.plain PySem.F.entry_set_init (check_set_init_1 hT ?_)) fun r₂ s₂ hr₂ => ?_
      · obtain ⟨ol, hol, hcl, nl, hdl⟩ := hq
        obtain ⟨ocls, odict, odata, oslots⟩ := ol
        simp only at hcl hdl
        subst hcl; subst hdl
        have hol' : (s.heap.push (newSet w)).get? q = some { cls := .type "tuple", dict := odict, data := .seq ys nl, slots := oslots } := Heap.get?_push_of_some _ hol
        have hsls := PySem.F.sub_tuple_set
        have hslf := PySem.F.sub_tuple_frozenset
        have hne : (Value.type "tuple" == Value.type "dict") = false := by decide
        have hl1 : (s.heap.push (newSet w)).IsTuple q ys := ⟨_, hol', rfl, nl, rfl⟩
        unfold Builtin.«set.__init__» noKeywords Builtin.Frozenset.updateFrom
        generalize hPI : pyIter = PI
        wp_walk
        subst hPI
        refine wpAny_pyIter_tuple hl1 (wpAny_bind (wpAny_runValue ?_))
        have qS : q < s.heap.objs.size := Heap.lt_size hol
        have calm3 : A.in1.in1.in1.handled = none := by simp [calm]
        have z1 : (s.heap.push (newSet w)).objs.size = s.heap.objs.size + 1 := Heap.size_push ..
        have qI : q ≠ (s.heap.push (newSet w)).objs.size := by
          rw [z1]; exact Nat.ne_of_lt (Nat.lt_succ_of_lt qS)
        have away : s.heap.objs.size ∉ [(s.heap.push (newSet w)).objs.size, q] := by
          rw [z1]; simp only [List.mem_cons, List.mem_singleton, List.not_mem_nil, or_false, not_or]
          exact ⟨Nat.ne_of_lt (Nat.lt_succ_self _), Nat.ne_of_gt qS⟩
        have sz : xs.length = ys.size := by rw [← StrsAre.len_eq hx, Array.length_toList]
        have rd : ∀ (i : Nat) (v : Value), ys[i]? = some v → ∃ t x, xs[i]? = some x ∧ v = .str x t := fun i v hv => by
          obtain ⟨t, e⟩ := SS.strs_at hx i v (by rw [Array.getElem?_toList]; exact hv)
          have hi : i < xs.length := by rw [sz]; exact (Array.getElem?_eq_some_iff.mp hv).1
          exact ⟨t, xs[i], List.getElem?_eq_getElem hi, by rw [e, List.getD_eq_getElem?_getD, List.getElem?_eq_getElem hi]; rfl⟩
        refine put_texts ((Walks.tuple calm3 _ q qI ys).toS) s.heap.objs.size
          away xs sz (by omega) rd (ys.size - 0) 0 0 _ rfl (Nat.zero_le _) (Nat.zero_le _)
          ⟨⟨_, Heap.get?_push_size _ rfl, rfl, rfl⟩, (hl1.push _)⟩ ?start ?end_
        case start =>
          exact (SetTx.congr (newSet_tx w) (fun k => by simp [hasT]) rfl).at fun o e => Heap.get?_push_of_some _ e
        case end_ =>
          intro s' m hm hle hS'
          obtain ⟨h', g', d', tk', os'⟩ := s'
          cases (show g' = s.gens from hm.gens)
          cases (show d' = s.drawn from hm.drawn)
          cases (show os' = s.os from hm.os)
          show wpAny _ _ _ _ _ _
          refine wpAny_pure ?_
          show wpAny _ _ (ret Value.none) _ _ _
          refine wpAny_pure ⟨rfl, h', tk', m, rfl, by rw [sz]; exact hle, hS', fun b o hb e => ?_⟩
          have b1 : b ≠ s.heap.objs.size := Nat.ne_of_lt hb
          have b2 : b ≠ (s.heap.push (newSet w)).objs.size := by
            rw [z1]; exact Nat.ne_of_lt (Nat.lt_succ_of_lt hb)
          exact hm.heap b o (by simp only [List.mem_cons, List.mem_singleton, List.not_mem_nil, or_false, not_or]; exact ⟨b1, b2⟩) (Heap.get?_push_of_some _ (Heap.get?_push_of_some _ e))
      · cases r₂ with
        | error e => exact hr₂
        | ok fl₂ =>
          cases fl₂ with
          | ret r =>
            obtain ⟨rfl, h', tk, m, rfl, hle, hS', keep⟩ := hr₂
            repeat (any_goals (first | assumption | wp_step))
            exact k _ _ m hle hS' keep
          | _ => exact hr₂.elim
    | _ => exact hr.elim
end
end My
namespace My
open PySem PySem.W L2 PyProof.Rows
/-! ### told lists: texts with numbers, rising by the texts -/
theorem strict_ext {α : Type} {r : α → α → Prop} (irr : ∀ a, ¬ r a a) (tr : ∀ a b c, r a b → r b c → r a c) : ∀ {a b : List α}, a.Pairwise r → b.Pairwise r → (∀ x, x ∈ a ↔ x ∈ b) → a = b
  | [], [], _, _, _ => rfl
  | [], y :: ys, _, _, h => absurd ((h y).mpr List.mem_cons_self) (by simp)
  | x :: xs, [], _, _, h => absurd ((h x).mp List.mem_cons_self) (by simp)
  | x :: xs, y :: ys, hx, hy, h => by
    have hx' := List.pairwise_cons.mp hx
    have hy' := List.pairwise_cons.mp hy
    have e : x = y := by
      rcases List.mem_cons.mp ((h x).mp List.mem_cons_self) with z | z
      · exact z
      · rcases List.mem_cons.mp ((h y).mpr List.mem_cons_self) with z2 | z2
        · exact z2.symm
        · exact absurd (tr _ _ _ (hx'.1 y z2) (hy'.1 x z)) (irr x)
    subst e
    refine congrArg (x :: ·) (strict_ext irr tr hx'.2 hy'.2 fun z => ?_)
    constructor
    · intro hz
      rcases List.mem_cons.mp ((h z).mp (List.mem_cons_of_mem _ hz)) with q | q
      · exact absurd (by rw [q] at hz; exact hx'.1 x hz) (irr x)
      · exact q
    · intro hz
      rcases List.mem_cons.mp ((h z).mpr (List.mem_cons_of_mem _ hz)) with q | q
      · exact absurd (by rw [q] at hz; exact hy'.1 x hz) (irr x)
      · exact q
def sLt (x y : Str) : Prop := x.cps.toList < y.cps.toList
instance (x y : Str) : Decidable (sLt x y) := by unfold sLt; exact inferInstance
theorem sLt_irr (x : Str) : ¬ sLt x x := List.lt_irrefl _
theorem sLt_trans {x y z : Str} (h : sLt x y) (k : sLt y z) : sLt x z := List.lt_trans h k
theorem sLt_total (x y : Str) : sLt x y ∨ x = y ∨ sLt y x := by
  by_cases h : sLt x y
  · exact .inl h
  · by_cases k : sLt y x
    · exact .inr (.inr k)
    · exact .inr (.inl (str_of_cps (List.le_antisymm (List.not_lt.mp k) (List.not_lt.mp h))))
theorem dataLt_si (x x' : Str) (y y' : Int) : dataLt (.tuple [.str x, .int y]) (.tuple [.str x', .int y']) = decide (sLt x x' ∨ (x = x' ∧ y < y')) := by
  rw [dataLt_pair (by simp [alike]) (by simp [alike]), dataLt_str, dataLt_int]
  have e1 : PyData.eqv (.str x) (.str x') = decide (x = x') := by
    by_cases h : x = x'
    · subst h; simp [PyData.eqv]
    · simp [PyData.eqv, h]
  have e2 : PyData.eqv (.int y) (.int y') = decide (y = y') := by
    by_cases h : y = y'
    · subst h; simp [PyData.eqv]
    · simp [PyData.eqv, h]
  rw [e1, e2]
  by_cases h : x = x'
  · subst h
    have n := sLt_irr x
    by_cases h2 : y = y'
    · subst h2
      simp [n]
    · simp [h2, n]
  · by_cases h3 : sLt x x'
    · have h4 := h3
      unfold sLt at h4
      simp [h, h3, h4]
    · have h4 := h3
      unfold sLt at h4
      simp [h, h3, h4]
abbrev leSI (e f : Str × Int) : Bool := decide (sLt e.1 f.1 ∨ (e.1 = f.1 ∧ e.2 ≤ f.2))
theorem dataLe_si : dataLe false encSI = leSI := by
  funext e f
  show (!dataLt (.tuple [.str f.1, .int f.2]) (.tuple [.str e.1, .int e.2])) = _
  rw [dataLt_si]
  by_cases h : sLt f.1 e.1 ∨ (f.1 = e.1 ∧ f.2 < e.2)
  · have h' : ¬ (sLt e.1 f.1 ∨ (e.1 = f.1 ∧ e.2 ≤ f.2)) := by
      rintro (z | ⟨z, z2⟩)
      · rcases h with k | ⟨k, k2⟩
        · exact sLt_irr _ (sLt_trans z k)
        · rw [k] at z; exact sLt_irr _ z
      · rcases h with k | ⟨k, k2⟩
        · rw [z] at k; exact sLt_irr _ k
        · omega
    simp [h, leSI, h']
  · have h' : sLt e.1 f.1 ∨ (e.1 = f.1 ∧ e.2 ≤ f.2) := by
      rcases sLt_total e.1 f.1 with z | z | z
      · exact .inl z
      · refine .inr ⟨z, ?_⟩
        rcases Int.lt_or_le f.2 e.2 with k | k
        · exact absurd (.inr ⟨z.symm, k⟩) h
        · exact k
      · exact absurd (.inl z) h
    simp only [decide_eq_true h', leSI, decide_eq_false h, Bool.not_false]
theorem leSI_trans (a b c : Str × Int) (h : leSI a b = true) (k : leSI b c = true) : leSI a c = true := by
  have h1 := of_decide_eq_true h
  have k1 := of_decide_eq_true k
  refine decide_eq_true ?_
  rcases h1 with z | ⟨z, z2⟩
  · rcases k1 with w | ⟨w, w2⟩
    · exact .inl (sLt_trans z w)
    · rw [w] at z; exact .inl z
  · rcases k1 with w | ⟨w, w2⟩
    · rw [← z] at w; exact .inl w
    · exact .inr ⟨z.trans w, by omega⟩
theorem leSI_total (a b : Str × Int) : (leSI a b || leSI b a) = true := by
  rw [Bool.or_eq_true]
  rcases sLt_total a.1 b.1 with z | z | z
  · exact .inl (decide_eq_true (.inl z))
  · rcases Int.le_total a.2 b.2 with k | k
    · exact .inl (decide_eq_true (.inr ⟨z, k⟩))
    · exact .inr (decide_eq_true (.inr ⟨z.symm, k⟩))
  · exact .inr (decide_eq_true (.inl z))
/-- rising by the texts -/
def Told (M : List (Str × Int)) : Prop := M.Pairwise fun e f => sLt e.1 f.1
theorem told_of {L : List (Str × Int)} (hn : (L.map Prod.fst).Nodup) : Told (L.mergeSort (dataLe false encSI)) := by
  rw [dataLe_si]
  have hp : (L.mergeSort leSI).Perm L := List.mergeSort_perm _ _
  have hs := List.pairwise_mergeSort (le := leSI) leSI_trans leSI_total L
  have hn2 : ((L.mergeSort leSI).map Prod.fst).Nodup := ((hp.map Prod.fst).nodup_iff).mpr hn
  rw [List.Nodup, List.pairwise_map] at hn2
  refine (hs.and hn2).imp fun {e f} h => ?_
  rcases of_decide_eq_true h.1 with z | z
  · exact z
  · exact absurd z.1 h.2
theorem Told.unique {M N : List (Str × Int)} (h : Told M) (k : Told N) (e : ∀ x, x ∈ M ↔ x ∈ N) : M = N :=
  strict_ext (r := fun e f : Str × Int => sLt e.1 f.1) (fun a => sLt_irr _) (fun _ _ _ => sLt_trans) h k e
/-- texts alone -/
abbrev leS (x y : Str) : Bool := decide (x.cps.toList ≤ y.cps.toList)
theorem dataLe_s : dataLe false (fun x : Str => PyData.str x) = leS := dataLe_str fun x => x
theorem leS_trans (a b c : Str) (h : leS a b = true) (k : leS b c = true) : leS a c = true := decide_eq_true (List.le_trans (of_decide_eq_true h) (of_decide_eq_true k))
theorem leS_total (a b : Str) : (leS a b || leS b a) = true := by
  rw [Bool.or_eq_true]
  rcases List.le_total a.cps.toList b.cps.toList with z | z
  · exact .inl (decide_eq_true z)
  · exact .inr (decide_eq_true z)
theorem texts_of {L : List Str} (hn : L.Nodup) : (L.mergeSort leS).Pairwise sLt := by
  have hp : (L.mergeSort leS).Perm L := List.mergeSort_perm _ _
  have hs := List.pairwise_mergeSort (le := leS) leS_trans leS_total L
  refine (hs.and ((hp.nodup_iff).mpr hn)).imp fun {x y} h => ?_
  rcases sLt_total x y with z | z | z
  · exact z
  · exact absurd z h.2
  · exact absurd z (List.not_lt.mpr (of_decide_eq_true h.1))
end My
set_option maxHeartbeats 4000000
namespace My
open PySem PySem.Spec PyProof.Rows L2
/-! ### sorted(a set of texts), len of it -/
def textIn : Value → Str | .str x _ => x | _ => Str.empty
theorem each_text : ∀ l : List Value, (∀ v ∈ l, ∃ k tk, v = Value.str k tk) → PySem.W.EachIs (fun v b => ∃ t, v = Value.str b t) l (l.map textIn)
  | [], _ => .nil
  | v :: l, h => by
    obtain ⟨k, tk, rfl⟩ := h v List.mem_cons_self
    exact .cons ⟨tk, rfl⟩ (each_text l fun u hu => h u (List.mem_cons_of_mem _ hu))
theorem vals_text : ∀ {out : List Value} {M : List Str}, PySem.W.EachIs (fun v b => ∃ t, v = Value.str b t) out M → Vals (M.map V.str) out
  | _, _, .nil => .nil
  | _, _, .cons h t => .cons (show RelV _ _ from h) (vals_text t)
section
variable {P : Program} {w : World} {A : Around} {E : Value → Shared → Prop} {s : Shared} {a : Addr} {S : Str → Bool} {n : Nat}
theorem sorted_texts {Q : Value → Shared → Prop} (R : SetTx w s.heap a S n) (calm : A.handled = none) (small : n ≤ 100000) (hu : A.units + 64 < cLine)
    (hQ : ∀ s' p (out : Array Value) (c : Nat) (M : List Str), (∀ b o, s.heap.get? b = some o → s'.heap.get? b = some o) → s'.gens = s.gens → s'.os = s.os → s.heap.objs.size ≤ p →
      s'.heap.get? p = some (seqObj "list" out c) → Vals (M.map V.str) out.toList → M.Pairwise sLt → (∀ k, k ∈ M ↔ S k = true) → M.length = n → Q (.ref p) s') :
    wpAny (model P w) A (call (.builtin "sorted") [.ref a]) Q E s := by
  obtain ⟨o, es, ep, t, ho, hex, hd, g, nd, hm, ⟨hb, hf, hn⟩, hr, hl⟩ := R
  have line : n ≤ sizeLine := Nat.le_trans small (by decide)
  refine Calls.call_function_entry kind_sorted plain_sorted entry_sorted (args_sorted1 _) ?_
  unfold Builtin.«sorted»
  refine wpAny_bind (m := checkCount "sorted" 1 1 _) (wpAny_pure ?_)
  refine wpAny_bind (collect_set (A := A.in1) calm ⟨o, ho, hex.1, hd⟩ hf hb hr hl fun s1 vs k1 hz g1 o1 pm => ?_)
  have many : vs.length = n := by rw [pm.length_eq, List.length_map, Array.length_toList]; exact hn
  have each := each_text vs fun v hv => by
    obtain ⟨e, he, q⟩ := List.mem_map.mp (pm.mem_iff.mp hv)
    obtain ⟨k, tk, h1, _⟩ := g e he
    exact ⟨k, tk, by rw [← q]; exact h1⟩
  have pk : (vs.map textIn).Perm (es.toList.map txtOf) := by
    have q := pm.map textIn
    rw [List.map_map] at q
    exact q
  have nd2 : (vs.map textIn).Nodup := pk.nodup_iff.mpr nd
  refine wpAny_bind (wpAny_newList ?_ (by rw [many]; exact line))
  have laid : (s1.heap.push (seqObj "list" vs.toArray 0)).get? s1.heap.objs.size = some (seqObj "list" vs.toArray 0) := Heap.get?_push_size _ rfl
  refine wpAny_bind (wpAny_holding (PySem.W.list_sort_data (s := { s1 with heap := s1.heap.push (seqObj "list" vs.toArray 0) }) (enc := PyData.str) (bs := vs.map textIn) laid each (each.mono fun v b ⟨t, e⟩ => ⟨[], by rw [e]; exact .str _ _, by simp⟩) ?_ ?_ ?_ ?_ fun out len outs => ?_))
  · intro d hd d' hd'
    obtain ⟨x, _, rfl⟩ := List.mem_map.mp hd
    obtain ⟨y, _, rfl⟩ := List.mem_map.mp hd'
    rfl
  · exact .others (enc := PyData.str) fun b => ⟨fun z => (by cases z), fun xs z => (by cases z)⟩
  · rw [List.length_map, many]; exact line
  · intro b _
    show A.units + 1 + 1 + 0 < cLine
    omega
  · obtain ⟨c, hc⟩ := sortedHeap_at (vs := vs) (out := out.toArray) laid
    rw [show PySem.W.dataLe false PyData.str = leS from dataLe_s] at outs
    have pn : ((vs.map textIn).mergeSort leS).Perm (es.toList.map txtOf) := (List.mergeSort_perm _ _).trans pk
    refine wpAny_pure ⟨_, rfl, hQ _ s1.heap.objs.size out.toArray c ((vs.map textIn).mergeSort leS) (fun b u e => ?_) g1 o1 hz hc (by simpa using vals_text outs) (texts_of nd2) (fun k => by rw [pn.mem_iff, ← hm k]) ?_⟩
    · have q := k1 b u e
      have hlt := Heap.lt_size q
      show (sortedHeap (s1.heap.push (seqObj "list" vs.toArray 0)) s1.heap.objs.size vs out.toArray).get? b = some u
      rw [sortedHeap_old (Nat.ne_of_lt hlt) (by rw [size_push']; exact Nat.lt_succ_of_lt hlt)]
      exact Heap.get?_push_of_some _ q
    · rw [pn.length_eq, List.length_map, Array.length_toList]; exact hn
end
/-- a set of texts in the heap -/
def TxO (w : World) (a : Addr) (S : Str → Bool) (n : Nat) : HO := .ext fun h => SetTx w h a S n
section
variable {X : Cx}
theorem txO_new {w : World} {P : Program} {H : Hp} {h : Heap} {a : Addr} {S : Str → Bool} {n : Nat} (R : SetTx w h a S n) : ObjOk P w H h a (TxO w a S n) := by
  have ⟨o, _, _, _, ho, _⟩ := R
  exact ⟨R, ⟨o, ho⟩, fun _ _ p k => SetTx.at p k⟩
theorem txO_get {pins : List (Addr × Obj)} {σ : L2.St} {H : Hp} {s : Shared} {a : Addr} {S : Str → Bool} {n : Nat} (I : Inv X pins σ H s) (ha : H a = some (TxO X.w a S n)) : SetTx X.w s.heap a S n := (I.hok a _ ha).1
/-- sorted(found) -/
def rSortTx (w : World) : List V → Hp → VK → Prop := fun vs H Q => ∃ (a : Addr) (S : Str → Bool) (n : Nat), vs = [V.ref a] ∧ H a = some (TxO w a S n) ∧ n ≤ 100000 ∧
  ∀ (M : List Str) (p : Addr), M.Pairwise sLt → (∀ k : Str, k ∈ M ↔ S k = true) → M.length = n → H p = none → Q (.ref p) (upd H p (.lst (M.map V.str)))
theorem cr_sortTx (hc : X.calm = true) (hu : X.A.units + 64 < cLine) : CallR X (.builtin "sorted") (rSortTx X.w) := by
  intro pins s σ H vs us Q I r h
  obtain ⟨a, S, n, rfl, ha, small, q⟩ := h
  have R := txO_get I ha
  rw [Vals.ref1 r]
  refine sorted_texts R (I.ok.hd hc) small hu fun s' p out c M k g o hp hg hv hs hm hl => ?_
  have line : (M.map V.str).length ≤ sizeLine := by rw [List.length_map, hl]; exact Nat.le_trans small (by decide)
  have free : H p = none := I.hok.fresh hp
  have J : Inv X pins σ (upd H p (.lst (M.map V.str))) { s with heap := s'.heap, gens := s'.gens, drawn := s'.drawn, toks := s'.toks } :=
    I.call (ch := []) (Un.laid k hp free) (I.hok.laid k hp ⟨line, out.toList, c, hv, hg⟩) (by rw [g]; exact I.bare) (fun _ z => nomatch z)
  have same : s' = { s with heap := s'.heap, gens := s'.gens, drawn := s'.drawn, toks := s'.toks } := by
    cases s'
    cases s
    cases o
    rfl
  rw [same]
  exact ⟨.ref p, _, J, rfl, q M p hs hm hl free⟩
/-- len(found) -/
theorem cr_lenTx : CallR X (.builtin "len") (fun vs H Q => ∃ (a : Addr) (S : Str → Bool) (n : Nat), vs = [V.ref a] ∧ H a = some (TxO X.w a S n) ∧ n ≤ 100000 ∧ Q (.int (n : Int)) H) := by
  intro pins s σ H vs us Q I r h
  obtain ⟨a, S, n, rfl, ha, small, q⟩ := h
  obtain ⟨o, es, ep, t, ho, hex, hd, _, _, _, ⟨_, hf, hn⟩, _⟩ := txO_get I ha
  rw [Vals.ref1 r]
  exact call_len_set ho hex hd hf (by rw [hn]; omega) ⟨.int (n : Int), H, I.tok _, ⟨_, by rw [hn]⟩, q⟩
end
end My
set_option maxHeartbeats 4000000
namespace My
open PySem PySem.Spec PyProof.Rows L2
/-! ### sets of whole numbers -/
def inI (xs : List Int) : Int → Bool := fun j => decide (j ∈ xs)
section
variable {prog : Program} {w : World} {A : Around} {E : Value → Shared → Prop} {s : Shared}
theorem set_of_ints {q : Addr} {ys : Array Value} {xs : List Int} {Q : Value → Shared → Prop}
    (calm : A.handled = none) (hq : s.heap.IsList q ys) (hx : PyProof.Rows.IntsAre ys.toList xs) (few : xs.length + 1 < scanBound)
    (k : ∀ (h' : Heap) (tk m : Nat), m ≤ xs.length → SetR w h' s.heap.objs.size (inI xs) m →
      (∀ b o, b < s.heap.objs.size → s.heap.get? b = some o → h'.get? b = some o) → Q (.ref s.heap.objs.size) { s with heap := h', toks := tk }) :
    wpAny (model prog w) A (call (.type "set") [.ref q]) Q E s := by
  obtain ⟨c, tl, hmro⟩ := PySem.F.called_set.mro
  have hmade := PySem.F.called_set.made
  have hsub := PySem.F.called_set.sub
  refine wpAny_call (codeAny_of_tree ?_)
  show wpAny _ _ (callAny (.type "set") _) _ _ _
  refine wpAny_pure ⟨Code.quiet_builtin _ (by decide +kernel), codeAny_builtin PySem.F.entry_type_call ?_⟩
  rw [Around.under_plain (weight_type_call_type "set" [.ref q] []) rfl]
  have h1 := PySem.F.called_set.notType
  have h2 := PySem.F.called_set.canCreate
  have hct := PySem.F.typeCall_set_1 (.ref q)
  repeat (any_goals (first | assumption | wp_step))
  refine codeAny_mono (set_made (w := w) (.ref q) (E := E) (Q₁ := fun obj s₁ => obj = .ref s.heap.objs.size ∧ s₁ = { s with heap := s.heap.push (newSet w) }) ⟨rfl, rfl⟩) fun r s₁ hr => ?_
  cases r with
  | error e => exact hr
  | ok fl =>
    cases fl with
    | ret obj =>
      obtain ⟨rfl, rfl⟩ := hr
      have hS : (s.heap.push (newSet w)).get? s.heap.objs.size = some (newSet w) := Heap.get?_push_size _ rfl
      have hT : Shared.TypeIs { s with heap := s.heap.push (newSet w) } (.ref s.heap.objs.size) "set" := ⟨_, hS, rfl⟩
      have hli := PySem.F.called_set.init.lookup
      have hbi := PySem.F.called_set.init.bind (.ref s.heap.objs.size)
      repeat (any_goals (first | assumption | wp_step))
      refine codeAny_mono (codeAny_call_builtin (R := wants (fun r s₂ => r = .none ∧ ∃ h' tk m, s₂ = { s with heap := h', toks := tk } ∧ m ≤ xs.length ∧
          SetR w h' s.heap.objs.size (inI xs) m ∧
          (∀ b o, b < s.heap.objs.size → s.heap.get? b = some o → h'.get? b = some o)) E) PySem.F.called_set.init.plain PySem.F.entry_set_init (check_set_init_1 hT ?_)) fun r₂ s₂ hr₂ => ?_
      · obtain ⟨ol, hol, hcl, nl, hdl⟩ := hq
        obtain ⟨ocls, odict, odata, oslots⟩ := ol
        simp only at hcl hdl
        subst hcl; subst hdl
        have hol' : (s.heap.push (newSet w)).get? q = some { cls := .type "list", dict := odict, data := .seq ys nl, slots := oslots } := Heap.get?_push_of_some _ hol
        have hsls := PySem.F.sub_list_set
        have hslf := PySem.F.sub_list_frozenset
        have hne : (Value.type "list" == Value.type "dict") = false := by decide
        have hl1 : (s.heap.push (newSet w)).IsList q ys := ⟨_, hol', rfl, nl, rfl⟩
        unfold Builtin.«set.__init__» noKeywords Builtin.Frozenset.updateFrom
        generalize hPI : pyIter = PI
        wp_walk
        subst hPI
        refine wpAny_pyIter_list hl1 (wpAny_bind (wpAny_runValue ?_))
        have qS : q < s.heap.objs.size := Heap.lt_size hol
        have calm3 : A.in1.in1.in1.handled = none := by simp [calm]
        have z1 : (s.heap.push (newSet w)).objs.size = s.heap.objs.size + 1 := Heap.size_push ..
        have qI : q ≠ (s.heap.push (newSet w)).objs.size := by
          rw [z1]; exact Nat.ne_of_lt (Nat.lt_succ_of_lt qS)
        have away : s.heap.objs.size ∉ [(s.heap.push (newSet w)).objs.size, q] := by
          rw [z1]; simp only [List.mem_cons, List.mem_singleton, List.not_mem_nil, or_false, not_or]
          exact ⟨Nat.ne_of_lt (Nat.lt_succ_self _), Nat.ne_of_gt qS⟩
        have sz : ys.size = xs.length := by
          have q := PyProof.Rows.IntsAre.length hx
          rw [Array.length_toList] at q
          exact q
        have rd : ∀ (i : Nat) (v : Value), ys[i]? = some v → ∃ k t, xs[i]? = some k ∧ v = .int k t := fun i v hv => by
          have hi : i < xs.length := by rw [← sz]; exact (Array.getElem?_eq_some_iff.mp hv).1
          obtain ⟨t, e⟩ := PyProof.Rows.IntsAre.int_at hx i v (by rw [Array.getElem?_toList]; exact hv)
          refine ⟨xs[i], t, List.getElem?_eq_getElem hi, ?_⟩
          rw [e, List.getD_eq_getElem?_getD, List.getElem?_eq_getElem hi] <;> rfl
        refine L2.set_update_ints ((Walks.list calm3 _ q qI ys).toS) s.heap.objs.size
          away xs sz few rd (ys.size - 0) 0 _ (by omega) (Nat.zero_le _)
          ⟨⟨_, Heap.get?_push_size _ rfl, rfl, rfl⟩, (hl1.push _)⟩ ?start ?end_
        case start =>
          exact ⟨0, Nat.le_refl 0, setR_new_at (Heap.get?_push_of_some _ hS)⟩
        case end_ =>
          intro s' m hm hle hS'
          obtain ⟨h', g', d', tk', os'⟩ := s'
          cases (show g' = s.gens from hm.gens)
          cases (show d' = s.drawn from hm.drawn)
          cases (show os' = s.os from hm.os)
          show wpAny _ _ _ _ _ _
          refine wpAny_pure ?_
          show wpAny _ _ (ret Value.none) _ _ _
          refine wpAny_pure ⟨rfl, h', tk', m, rfl, by rw [← sz]; exact hle, hS', fun b o hb e => ?_⟩
          have b1 : b ≠ s.heap.objs.size := Nat.ne_of_lt hb
          have b2 : b ≠ (s.heap.push (newSet w)).objs.size := by
            rw [z1]; exact Nat.ne_of_lt (Nat.lt_succ_of_lt hb)
          exact hm.heap b o (by simp only [List.mem_cons, List.mem_singleton, List.not_mem_nil, or_false, not_or]; exact ⟨b1, b2⟩) (Heap.get?_push_of_some _ (Heap.get?_push_of_some _ e))
      · cases r₂ with
        | error e => exact hr₂
        | ok fl₂ =>
          cases fl₂ with
          | ret r =>
            obtain ⟨rfl, h', tk, m, rfl, hle, hS', keep⟩ := hr₂
            repeat (any_goals (first | assumption | wp_step))
            exact k _ _ m hle hS' keep
          | _ => exact hr₂.elim
    | _ => exact hr.elim
set_option maxHeartbeats 3200000 in

theorem ints_many {w : World} {h : Heap} {a : Addr} {xs : List Int} {n : Nat} (R : SetR w h a (inI xs) n) (D : List Int) (hD : D.Nodup) (hm : ∀ k, k ∈ D ↔ k ∈ xs) : D.length = n := by
  obtain ⟨o, es, ep, t, _, _, _, _, nd, hS, _, _, hn, _⟩ := R
  have p : D.Perm (es.toList.map keyOf) := (List.perm_ext_iff_of_nodup hD nd).mpr fun k => by
    rw [hm, ← hS k]
    unfold inI
    rw [decide_eq_true_iff]
  rw [p.length_eq, List.length_map, Array.length_toList, hn]
end
def InO (w : World) (a : Addr) (S : Int → Bool) (n : Nat) : HO := .ext fun h => SetR w h a S n
section
variable {X : Cx}
theorem inO_new {w : World} {P : Program} {H : Hp} {h : Heap} {a : Addr} {S : Int → Bool} {n : Nat} (R : SetR w h a S n) : ObjOk P w H h a (InO w a S n) := by
  have ⟨o, _, _, _, ho, _⟩ := R
  exact ⟨R, ⟨o, ho⟩, fun _ _ p k => SetR.at p k⟩
theorem inO_get {pins : List (Addr × Obj)} {σ : L2.St} {H : Hp} {s : Shared} {a : Addr} {S : Int → Bool} {n : Nat} (I : Inv X pins σ H s) (ha : H a = some (InO X.w a S n)) : SetR X.w s.heap a S n := (I.hok a _ ha).1
def rSetIn (K : PySem.W.Frag) (w : World) : List V → Hp → VK → Prop := fun vs H Q => ∃ (l : Addr) (xs : List Int), vs = [V.ref l] ∧ SqL K H l (xs.map V.int) ∧ xs.length ≤ 1000 ∧
  ∀ (p : Addr) (n : Nat), (∀ D : List Int, D.Nodup → (∀ k, k ∈ D ↔ k ∈ xs) → D.length = n) → n ≤ xs.length → H p = none → Q (.ref p) (upd H p (InO w p (inI xs) n))
theorem cr_setIn (hc : X.calm = true) : CallR X (.type "set") (rSetIn X.K X.w) := by
  intro pins s σ H vs us Q I r h
  obtain ⟨l, xs, rfl, hq, small, q⟩ := h
  rw [Vals.ref1 r]
  have few : xs.length + 1 < scanBound := by unfold scanBound; omega
  obtain ⟨its, rv, pl, hz⟩ := I.list hq
  exact set_of_ints (I.ok.hd hc) pl.isList (by simpa using ints_of_vals rv) few fun h' tk m hle R keep =>
    ⟨.ref _, upd H s.heap.objs.size (InO X.w s.heap.objs.size (inI xs) m), I.laid (t' := tk) (fun b u e => keep b u (Heap.lt_size e) e) (Nat.le_refl _) (inO_new R), rfl, q _ m (ints_many R) hle (I.hok.fresh (Nat.le_refl _))⟩
def rSortIn (w : World) : List V → Hp → VK → Prop := fun vs H Q => ∃ (a : Addr) (S : Int → Bool) (n : Nat), vs = [V.ref a] ∧ H a = some (InO w a S n) ∧ n < 64 ∧
  ∀ (M : List Int) (p : Addr), M.Pairwise (· < ·) → (∀ k : Int, k ∈ M ↔ S k = true) → M.length = n → H p = none → Q (.ref p) (upd H p (.lst (M.map V.int)))
theorem cr_sortIn (hc : X.calm = true) : CallR X (.builtin "sorted") (rSortIn X.w) := by
  intro pins s σ H vs us Q I r h
  obtain ⟨a, S, n, rfl, ha, small, q⟩ := h
  have R := inO_get I ha
  rw [Vals.ref1 r]
  refine L2.sorted_set R (I.ok.hd hc) small fun s' p out c M k g o hp hg hv hs hm hl => ?_
  have line : (M.map V.int).length ≤ sizeLine := by rw [List.length_map, hl]; exact Nat.le_trans (Nat.le_of_lt small) (by decide)
  have free : H p = none := I.hok.fresh hp
  have J : Inv X pins σ (upd H p (.lst (M.map V.int))) { s with heap := s'.heap, gens := s'.gens, drawn := s'.drawn, toks := s'.toks } :=
    I.call (ch := []) (Un.laid k hp free) (I.hok.laid k hp ⟨line, out.toList, c, vals_of_ints hv, hg⟩) (by rw [g]; exact I.bare) (fun _ z => nomatch z)
  have same : s' = { s with heap := s'.heap, gens := s'.gens, drawn := s'.drawn, toks := s'.toks } := by
    cases s'
    cases s
    cases o
    rfl
  rw [same]
  exact ⟨.ref p, _, J, rfl, q M p hs hm hl free⟩
theorem cr_lenIn : CallR X (.builtin "len") (fun vs H Q => ∃ (a : Addr) (S : Int → Bool) (n : Nat), vs = [V.ref a] ∧ H a = some (InO X.w a S n) ∧ n ≤ 100000 ∧ Q (.int (n : Int)) H) := by
  intro pins s σ H vs us Q I r h
  obtain ⟨a, S, n, rfl, ha, small, q⟩ := h
  obtain ⟨o, es, ep, t, ho, hex, hd, _, _, _, _, hf, hn, _⟩ := inO_get I ha
  rw [Vals.ref1 r]
  exact call_len_set ho hex hd hf (by rw [hn]; omega) ⟨.int (n : Int), H, I.tok _, ⟨_, by rw [hn]⟩, q⟩
end
end My
/-! repr of whatever reads as data, and of a dict without items -/
namespace My
open PySem PySem.Spec PyProof.Rows L2
def Shows (K : PySem.W.Frag) (H : Hp) (v : V) (d : PyData) : Prop := Dp K H v d ∨ (d = .dict [] ∧ ∃ a, v = .ref a ∧ H a = some (.dK []))
section
variable {X : Cx}
theorem call_repr_any (quiet : X.A.guards = some []) (hu : X.A.units + 70 < cLine) : CallR X (.builtin "repr") (fun xs H Q => ∃ v d, xs = [v] ∧ Shows X.K H v d ∧ d.showable = true ∧ (d.hasDict = true → d = .dict []) ∧ d.depth ≤ 60 ∧ d.shown.length ≤ sizeLine ∧ Q (.str d.shown) H) := by
  intro pins s σ H xs us Q I r h
  obtain ⟨v, d, rfl, hd, hs, hnd, hdp, hz, q⟩ := h
  obtain ⟨u, rfl, e⟩ := vals1 r
  rcases hd with hd | ⟨rfl, a, rfl, ha⟩
  · have hn : d.hasDict = false := by
      cases c : d.hasDict with
      | false => rfl
      | true =>
        have := hnd c
        subst this
        cases hd
    cases v with
    | ref a =>
      cases e
      obtain ⟨as, rd⟩ := Dp.reads I d _ _ hd (rfl : RelV (.ref a) (.ref a))
      exact repr_of_reads' rd hs (PyData.noDict_hsm hn) quiet (by omega) (fun _ _ e => e) (fun h' u tk hk => ⟨.str _, H, I.kept hk, ⟨_, rfl⟩, q⟩) hz
    | non =>
      cases e
      cases hd
      exact PySem.P.repr_of_none ⟨.str _, H, I.tok _, ⟨_, rfl⟩, q⟩
    | bl b =>
      cases e
      cases hd
      have e2 : PyData.shown (.bool b) = (if b = true then Str.ofString "True" else Str.ofString "False") := by cases b <;> rfl
      rw [e2] at q
      exact PySem.P.repr_of_bool ⟨.str _, H, I.tok _, ⟨_, rfl⟩, q⟩
    | int i =>
      obtain ⟨t, rfl⟩ := e
      cases hd
      exact PySem.P.repr_of_int (by simpa [PyData.showable] using hs) ⟨.str _, H, I.tok _, ⟨_, rfl⟩, q⟩
    | str x =>
      obtain ⟨t, rfl⟩ := e
      cases hd
      exact PySem.P.repr_of_str ⟨.str _, H, I.tok _, ⟨_, rfl⟩, q⟩ (by simpa only [PyData.shown] using hz)
    | _ => cases hd
  · cases e
    obtain ⟨_, lo, vs, kv, o, es, ep, h1, h2, h3, _, h5, _⟩ := dk_of I.hok ha
    cases kv
    have hes : es.toList = [] := by
      cases hh : es.toList with
      | nil => rfl
      | cons a b =>
        rw [hh] at h5
        cases h5
    have rd : Reads s.heap (.ref a) (.dict []) (a :: [] ++ []) := .dict h1 h2.1 h3 (by rw [hes]; exact .nil) (by rw [hes]; exact .nil)
    refine repr_of_reads' rd hs (fun _ hm => ?_) quiet (by omega) (fun _ _ e => e) (fun h' u tk hk => ⟨.str _, H, I.kept hk, ⟨_, rfl⟩, q⟩) hz
    have := List.mem_singleton.mp hm
    rw [← this] at lo
    simp at lo
end
end My
namespace My
open PySem L2 PyProof.Rows
def topS (i : Nat) : Stmt := PySem.Challenge.pw_suretexts_k36_whole_sure_walks_by_standi.main.body.getD i (.Pass ⟨0, 0, 0, 0⟩)
abbrev sis_integer : Stmt := topS 11
theorem scis_integer : FnScope ["value"] ["value"] (defScope sis_integer) := ⟨rfl, rfl, rfl, by decide +kernel, rfl, by decide +kernel, by decide +kernel⟩
abbrev sis_count : Stmt := topS 12
theorem scis_count : FnScope ["value"] ["value"] (defScope sis_count) := ⟨rfl, rfl, rfl, by decide +kernel, rfl, by decide +kernel, by decide +kernel⟩
abbrev sis_between : Stmt := topS 13
theorem scis_between : FnScope ["value", "least", "most"] ["value", "least", "most"] (defScope sis_between) := ⟨rfl, rfl, rfl, by decide +kernel, rfl, by decide +kernel, by decide +kernel⟩
abbrev sis_below : Stmt := topS 14
theorem scis_below : FnScope ["value", "limit"] ["value", "limit"] (defScope sis_below) := ⟨rfl, rfl, rfl, by decide +kernel, rfl, by decide +kernel, by decide +kernel⟩
abbrev sis_listed : Stmt := topS 15
theorem scis_listed : FnScope ["value"] ["value"] (defScope sis_listed) := ⟨rfl, rfl, rfl, by decide +kernel, rfl, by decide +kernel, by decide +kernel⟩
abbrev sparts_in_turn : Stmt := topS 17
theorem scparts_in_turn : FnScope ["points", "steps", "ahead", "behind", "near", "far", "_", "left", "seen", "point", "parts"] ["points", "steps"] (defScope sparts_in_turn) := ⟨rfl, rfl, rfl, by decide +kernel, rfl, by decide +kernel, by decide +kernel⟩
abbrev s_left_from : Stmt := topS 18
theorem sc_left_from : FnScope ["ends", "point", "seen", "left", "trail", "here", "at", "end"] ["ends", "point", "seen"] (defScope s_left_from) := ⟨rfl, rfl, rfl, by decide +kernel, rfl, by decide +kernel, by decide +kernel⟩
abbrev sare_ties : Stmt := topS 23
theorem scare_ties : FnScope ["places", "value", "tie"] ["places", "value"] (defScope sare_ties) := ⟨rfl, rfl, rfl, by decide +kernel, rfl, by decide +kernel, by decide +kernel⟩
abbrev sneed_web : Stmt := topS 25
theorem scneed_web : FnScope ["web"] ["web"] (defScope sneed_web) := ⟨rfl, rfl, rfl, by decide +kernel, rfl, by decide +kernel, by decide +kernel⟩
abbrev sneed_place : Stmt := topS 26
theorem scneed_place : FnScope ["web", "place"] ["web", "place"] (defScope sneed_place) := ⟨rfl, rfl, rfl, by decide +kernel, rfl, by decide +kernel, by decide +kernel⟩
abbrev sare_numbers : Stmt := topS 27
theorem scare_numbers : FnScope ["web", "value", "tie"] ["web", "value"] (defScope sare_numbers) := ⟨rfl, rfl, rfl, by decide +kernel, rfl, by decide +kernel, by decide +kernel⟩
abbrev s_go_on : Stmt := topS 28
theorem sc_go_on : FnScope ["web", "value", "longest", "ties", "at"] ["web", "value", "longest"] (defScope s_go_on) := ⟨rfl, rfl, rfl, by decide +kernel, rfl, by decide +kernel, by decide +kernel⟩
abbrev sis_walk : Stmt := topS 29
theorem scis_walk : FnScope ["web", "value"] ["web", "value"] (defScope sis_walk) := ⟨rfl, rfl, rfl, by decide +kernel, rfl, by decide +kernel, by decide +kernel⟩
abbrev sneed_walk : Stmt := topS 30
theorem scneed_walk : FnScope ["web", "walk"] ["web", "walk"] (defScope sneed_walk) := ⟨rfl, rfl, rfl, by decide +kernel, rfl, by decide +kernel, by decide +kernel⟩
abbrev sleads : Stmt := topS 31
theorem scleads : FnScope ["web", "walk", "ties"] ["web", "walk"] (defScope sleads) := ⟨rfl, rfl, rfl, by decide +kernel, rfl, by decide +kernel, by decide +kernel⟩
abbrev sweb_steps : Stmt := topS 32
theorem scweb_steps : FnScope ["web", "tie", "near", "far"] ["web"] (defScope sweb_steps) := ⟨rfl, rfl, rfl, by decide +kernel, rfl, by decide +kernel, by decide +kernel⟩
abbrev s_need_without : Stmt := topS 34
theorem sc_need_without : FnScope ["web", "without"] ["web", "without"] (defScope s_need_without) := ⟨rfl, rfl, rfl, by decide +kernel, rfl, by decide +kernel, by decide +kernel⟩
abbrev sway : Stmt := topS 35
theorem scway : FnScope ["web", "near", "far", "without", "ties", "came_by", "line", "at", "place", "tie", "end"] ["web", "near", "far", "without"] (defScope sway) := ⟨rfl, rfl, rfl, by decide +kernel, rfl, by decide +kernel, by decide +kernel⟩
abbrev s_walk_back : Stmt := topS 36
theorem sc_walk_back : FnScope ["ties", "came_by", "near", "far", "back"] ["ties", "came_by", "near", "far"] (defScope s_walk_back) := ⟨rfl, rfl, rfl, by decide +kernel, rfl, by decide +kernel, by decide +kernel⟩
abbrev sparts_of : Stmt := topS 37
theorem scparts_of : FnScope ["web"] ["web"] (defScope sparts_of) := ⟨rfl, rfl, rfl, by decide +kernel, rfl, by decide +kernel, by decide +kernel⟩
abbrev sis_close : Stmt := topS 38
theorem scis_close : FnScope ["web"] ["web"] (defScope sis_close) := ⟨rfl, rfl, rfl, by decide +kernel, rfl, by decide +kernel, by decide +kernel⟩
abbrev sneed_close : Stmt := topS 39
theorem scneed_close : FnScope ["web"] ["web"] (defScope sneed_close) := ⟨rfl, rfl, rfl, by decide +kernel, rfl, by decide +kernel, by decide +kernel⟩
abbrev sneed_walk_of_close : Stmt := topS 40
theorem scneed_walk_of_close : FnScope ["web", "walk"] ["web", "walk"] (defScope sneed_walk_of_close) := ⟨rfl, rfl, rfl, by decide +kernel, rfl, by decide +kernel, by decide +kernel⟩
abbrev sroad_between : Stmt := topS 42
theorem scroad_between : FnScope ["web", "first", "last", "ties"] ["web", "first", "last"] (defScope sroad_between) := ⟨rfl, rfl, rfl, by decide +kernel, rfl, by decide +kernel, by decide +kernel⟩
abbrev sroad_around : Stmt := topS 43
theorem scroad_around : FnScope ["web", "walk", "tried", "j", "i", "ends", "road"] ["web", "walk"] (defScope sroad_around) := ⟨rfl, rfl, rfl, by decide +kernel, rfl, by decide +kernel, by decide +kernel⟩
abbrev sleads_around : Stmt := topS 44
theorem scleads_around : FnScope ["web", "walk", "value", "i", "j", "road", "ties", "ends"] ["web", "walk", "value"] (defScope sleads_around) := ⟨rfl, rfl, rfl, by decide +kernel, rfl, by decide +kernel, by decide +kernel⟩
abbrev sis_road_around : Stmt := topS 45
theorem scis_road_around : FnScope ["web", "walk", "value"] ["web", "walk", "value"] (defScope sis_road_around) := ⟨rfl, rfl, rfl, by decide +kernel, rfl, by decide +kernel, by decide +kernel⟩
abbrev sis_sure : Stmt := topS 46
theorem scis_sure : FnScope ["web", "walk"] ["web", "walk"] (defScope sis_sure) := ⟨rfl, rfl, rfl, by decide +kernel, rfl, by decide +kernel, by decide +kernel⟩
abbrev sgoes_on : Stmt := topS 47
theorem scgoes_on : FnScope ["web", "walk", "onward", "tie", "first"] ["web", "walk"] (defScope sgoes_on) := ⟨rfl, rfl, rfl, by decide +kernel, rfl, by decide +kernel, by decide +kernel⟩
abbrev scomes_from : Stmt := topS 48
theorem sccomes_from : FnScope ["web", "walk", "ahead", "tie", "last"] ["web", "walk"] (defScope scomes_from) := ⟨rfl, rfl, rfl, by decide +kernel, rfl, by decide +kernel, by decide +kernel⟩
abbrev s_law_pot : Stmt := topS 50
theorem sc_law_pot : FnScope ["_law_script", "_law_k", "_law_cell", "_law_mixed"] ["_law_script", "_law_k"] (defScope s_law_pot) := ⟨rfl, rfl, rfl, by decide +kernel, rfl, by decide +kernel, by decide +kernel⟩
abbrev s_law_draw : Stmt := topS 51
theorem sc_law_draw : FnScope ["_law_pot_here", "_law_size", "_law_digit"] ["_law_pot_here", "_law_size"] (defScope s_law_draw) := ⟨rfl, rfl, rfl, by decide +kernel, rfl, by decide +kernel, by decide +kernel⟩
abbrev s_law_pick : Stmt := topS 52
theorem sc_law_pick : FnScope ["_law_pot_here", "_law_some"] ["_law_pot_here", "_law_some"] (defScope s_law_pick) := ⟨rfl, rfl, rfl, by decide +kernel, rfl, by decide +kernel, by decide +kernel⟩
abbrev s_law_ties : Stmt := topS 53
theorem sc_law_ties : FnScope ["_law_pot_here", "_law_places", "_law_found", "_law_turn", "_law_at", "_law_place"] ["_law_pot_here"] (defScope s_law_ties) := ⟨rfl, rfl, rfl, by decide +kernel, rfl, by decide +kernel, by decide +kernel⟩
abbrev s_law_out : Stmt := topS 54
theorem sc_law_out : FnScope ["_law_ties_here", "_law_place", "_law_without", "_law_tie", "_law_ends"] ["_law_ties_here", "_law_place", "_law_without"] (defScope s_law_out) := ⟨rfl, rfl, rfl, by decide +kernel, rfl, by decide +kernel, by decide +kernel⟩
abbrev s_law_walk : Stmt := topS 55
theorem sc_law_walk : FnScope ["_law_pot_here", "_law_ties_here", "_law_most", "_law_found", "_law_turn", "_law_some"] ["_law_pot_here", "_law_ties_here", "_law_most"] (defScope s_law_walk) := ⟨rfl, rfl, rfl, by decide +kernel, rfl, by decide +kernel, by decide +kernel⟩
abbrev s_law_next : Stmt := topS 56
theorem sc_law_next : FnScope ["_law_walk_here", "_law_state", "_law_tie", "_law_read", "_law_many"] ["_law_walk_here", "_law_state", "_law_tie"] (defScope s_law_next) := ⟨rfl, rfl, rfl, by decide +kernel, rfl, by decide +kernel, by decide +kernel⟩
abbrev s_law_steps : Stmt := topS 57
theorem sc_law_steps : FnScope ["_law_places", "_law_ties_here", "_law_walk_here", "_law_found", "_law_left", "_law_here", "_law_tie", "_law_later", "_law_place"] ["_law_places", "_law_ties_here", "_law_walk_here"] (defScope s_law_steps) := ⟨rfl, rfl, rfl, by decide +kernel, rfl, by decide +kernel, by decide +kernel⟩
abbrev s_law_come : Stmt := topS 58
theorem sc_law_come : FnScope ["_law_steps_here", "_law_first", "_law_found", "_law_left", "_law_tie", "_law_later"] ["_law_steps_here", "_law_first"] (defScope s_law_come) := ⟨rfl, rfl, rfl, by decide +kernel, rfl, by decide +kernel, by decide +kernel⟩
abbrev s_law_is_sure : Stmt := topS 59
theorem sc_law_is_sure : FnScope ["_law_places", "_law_ties_here", "_law_walk_here", "_law_steps_here", "_law_come_here", "_law_here", "_law_within", "_law_one", "_law_tie", "_law_later"] ["_law_places", "_law_ties_here", "_law_walk_here"] (defScope s_law_is_sure) := ⟨rfl, rfl, rfl, by decide +kernel, rfl, by decide +kernel, by decide +kernel⟩
abbrev s_law_is_around : Stmt := topS 60
theorem sc_law_is_around : FnScope ["_law_ties_here", "_law_walk_here", "_law_told", "_law_i", "_law_j", "_law_road", "_law_near", "_law_far"] ["_law_ties_here", "_law_walk_here", "_law_told"] (defScope s_law_is_around) := ⟨rfl, rfl, rfl, by decide +kernel, rfl, by decide +kernel, by decide +kernel⟩
abbrev s_law_right : Stmt := topS 61
theorem sc_law_right : FnScope ["_law_pot_here", "_law_places", "_law_ties_here", "_law_web", "_law_walk_here", "_law_due", "_law_shown", "_law_told", "_law_behind", "_law_ahead", "_law_tie", "_law_ends"] ["_law_pot_here"] (defScope s_law_right) := ⟨rfl, rfl, rfl, by decide +kernel, rfl, by decide +kernel, by decide +kernel⟩
abbrev slaw : Stmt := topS 62
theorem sclaw : FnScope ["_law_script"] ["_law_script"] (defScope slaw) := ⟨rfl, rfl, rfl, by decide +kernel, rfl, by decide +kernel, by decide +kernel⟩
abbrev sWeb___init__ : Stmt := inClass (topS 24) 0
theorem scWeb___init__ : FnScope ["self", "places", "ties", "tie", "ends", "_"] ["self", "places", "ties"] (defScope sWeb___init__) := ⟨rfl, rfl, rfl, by decide +kernel, rfl, by decide +kernel, by decide +kernel⟩
abbrev sWeb___eq__ : Stmt := inClass (topS 24) 1
theorem scWeb___eq__ : FnScope ["self", "other"] ["self", "other"] (defScope sWeb___eq__) := ⟨rfl, rfl, rfl, by decide +kernel, rfl, by decide +kernel, by decide +kernel⟩
abbrev sWeb_places : Stmt := inClass (topS 24) 2
theorem scWeb_places : FnScope ["self"] ["self"] (defScope sWeb_places) := ⟨rfl, rfl, rfl, by decide +kernel, rfl, by decide +kernel, by decide +kernel⟩
abbrev sWeb_many : Stmt := inClass (topS 24) 3
theorem scWeb_many : FnScope ["self"] ["self"] (defScope sWeb_many) := ⟨rfl, rfl, rfl, by decide +kernel, rfl, by decide +kernel, by decide +kernel⟩
abbrev sWeb_ties : Stmt := inClass (topS 24) 4
theorem scWeb_ties : FnScope ["self"] ["self"] (defScope sWeb_ties) := ⟨rfl, rfl, rfl, by decide +kernel, rfl, by decide +kernel, by decide +kernel⟩
abbrev sWeb_ties_from : Stmt := inClass (topS 24) 5
theorem scWeb_ties_from : FnScope ["self", "place"] ["self", "place"] (defScope sWeb_ties_from) := ⟨rfl, rfl, rfl, by decide +kernel, rfl, by decide +kernel, by decide +kernel⟩
abbrev sWeb_ties_to : Stmt := inClass (topS 24) 6
theorem scWeb_ties_to : FnScope ["self", "place"] ["self", "place"] (defScope sWeb_ties_to) := ⟨rfl, rfl, rfl, by decide +kernel, rfl, by decide +kernel, by decide +kernel⟩
structure Bs (mg : Str → Option Value) : Prop where
  isinstance : mg "isinstance" = none
  int : mg "int" = none
  bool : mg "bool" = none
  list : mg "list" = none
  tuple : mg "tuple" = none
  len : mg "len" = none
  range : mg "range" = none
  abs : mg "abs" = none
  max : mg "max" = none
  divmod : mg "divmod" = none
  enumerate : mg "enumerate" = none
  sorted : mg "sorted" = none
  zip : mg "zip" = none
  all : mg "all" = none
  repr : mg "repr" = none
  set : mg "set" = none
structure Glo (mg : Str → Option Value) : Prop where
  MOST_PLACES : ∃ t, mg "MOST_PLACES" = some (.int 60 t)
  MOST_TIES : ∃ t, mg "MOST_TIES" = some (.int 80 t)
  LONGEST_WALK : ∃ t, mg "LONGEST_WALK" = some (.int 400 t)
structure WebK (K : PySem.W.Frag) (mg : Str → Option Value) (C : Addr) : Prop where
  cl : Cls K C
  nP : NoAttr K C "_places"
  nT : NoAttr K C "_ties"
  nF : NoAttr K C "_ties_from"
  nO : NoAttr K C "_ties_to"
  mgC : mg "Web" = some (.ref C)
  i1 : PySem.W.findIn K (.ref C) "__class__" = some (some (.builtin "object.__class__"))
  i2 : PySem.W.specialIn K (.builtin "object.__class__") "__get__" = some (some (.builtin "getset_descriptor.__get__"))
  i3 : PySem.W.takesIn K (.builtin "object.__class__") = some true
  i4 : PySem.W.mroIn K C (.type "object") = some true
  i5 : PySem.W.kitOne K (.ref C) (.ref C) = some true
  ne : PySem.W.findIn K (.ref C) "__ne__" = some (some (.builtin "object.__ne__"))
abbrev iv (L : List Nat) : List V := L.map fun n : Nat => V.int (n : Int)
theorem same_new {H : Hp} {p : Addr} (h : H p = none) (o : HO) : Same H (upd H p o) := fun b u q => by rw [upd_ne (ne_of_none q h)]; exact q
theorem iteNo {c A B : Prop} [Decidable c] (h : ¬ c) (b : B) : if decide c = true then A else B := by
  rw [decide_eq_false h]
  exact iteF b
theorem iteNot {c A B : Prop} [Decidable c] (h : ¬ c) (a : A) : if (!decide c) = true then A else B := by
  rw [decide_eq_false h]
  exact iteT a
theorem iteNot' {c A B : Prop} [Decidable c] (h : c) (b : B) : if (!decide c) = true then A else B := by
  rw [decide_eq_true h]
  exact iteF b
theorem iteNN {c A B : Prop} [Decidable c] (h : ¬ c) (b : B) : if (!!decide c) = true then A else B := by
  rw [decide_eq_false h]
  exact iteF b
theorem iv_at {L : List Nat} {j b : Nat} (h : L[j]? = some b) : atI (iv L) (j : Int) = some (.int (b : Int)) := by
  refine atI_nat ?_
  rw [iv, List.getElem?_map, h]
  rfl
theorem iv_app (L : List Nat) (n : Nat) : iv (L ++ [n]) = iv L ++ [V.int (n : Int)] := by
  unfold iv
  rw [List.map_append]
  rfl
theorem same_upd {H H' : Hp} {p : Addr} {o : HO} (h : Same H H') (np : H p = none) : Same H (upd H' p o) := fun b u q => by
  rw [upd_ne (ne_of_none q np)]
  exact h b u q
theorem iteYes {c A B : Prop} [Decidable c] (h : c) (a : A) : if decide c = true then A else B := by
  rw [decide_eq_true h]
  exact iteT a
theorem bl_true {c : Prop} [Decidable c] {Q : VK} {H : Hp} (h : c) (q : Q (.bl true) H) : Q (.bl (decide c)) H := by
  rw [decide_eq_true h]
  exact q
theorem int_eq {a b : Int} : V.int a = V.int b ↔ a = b := ⟨fun h => V.int.inj h, fun h => by rw [h]⟩
/-! ### lists of ints compared -/
abbrev iz (L : List Int) : List V := L.map V.int
theorem iv_iz (L : List Nat) : iv L = iz (L.map fun n : Nat => (n : Int)) := by
  unfold iv iz
  rw [List.map_map]
  rfl
abbrev dz (L : List Int) : PyData := .list (L.map PyData.int)
theorem dpAll_iz {K : PySem.W.Frag} {H : Hp} : ∀ L : List Int, DpAll K H (iz L) (L.map PyData.int)
  | [] => .nil
  | n :: r => .cons (.int n) (dpAll_iz r)
theorem dp_iz {K : PySem.W.Frag} {H : Hp} {p : Addr} {L : List Int} (h : H p = some (.lst (iz L))) : Dp K H (.ref p) (dz L) := .lst (SqL.of h) (dpAll_iz L)
theorem layAll_iz : ∀ L : List Int, PyData.canLayAll0 (L.map PyData.int) = true
  | [] => rfl
  | n :: r => by
    show (PyData.canLay0 (.int n) && PyData.canLayAll0 (r.map PyData.int)) = true
    rw [layAll_iz r]
    rfl
theorem depthAll_iz : ∀ L : List Int, PyData.depthAll (L.map PyData.int) = 0
  | [] => rfl
  | n :: r => by
    show max (PyData.depth (.int n)) (PyData.depthAll (r.map PyData.int)) = 0
    rw [depthAll_iz r]
    rfl
theorem shaped_iz (L : List Int) : SeqAt.shaped (dz L) = true := by
  unfold SeqAt.shaped
  have h1 : PyData.canLay0 (dz L) = true := by
    show PyData.canLay0 (.list (L.map PyData.int)) = true
    unfold PyData.canLay0
    exact layAll_iz L
  have h2 : PyData.depth (dz L) = 1 := by
    show PyData.depth (.list (L.map PyData.int)) = 1
    unfold PyData.depth
    rw [depthAll_iz]
  rw [h1, h2]
  rfl
theorem eqv_same (L : List Int) : PyData.eqv (dz L) (dz L) = true := by
  have h1 : PyData.canLay0 (dz L) = true := by
    show PyData.canLay0 (.list (L.map PyData.int)) = true
    unfold PyData.canLay0
    exact layAll_iz L
  exact SeqAt.eqv_refl _ h1
theorem eqv_empty (L : List Int) : PyData.eqv (dz L) (dz []) = decide (L = []) := by
  cases L with
  | nil => rfl
  | cons n r => rfl
theorem iteNb {x : Bool} {A B : Prop} (h : x = true) (b : B) : if (!x) = true then A else B := by
  rw [h]
  exact iteF b
theorem bl_is {x : Bool} {Q : VK} {H : Hp} (h : x = true) (q : Q (.bl true) H) : Q (.bl x) H := by
  rw [h]
  exact q
/-! ### webs in the heap -/
def Kept (a : Addr) (H H' : Hp) : Prop := ∀ b o, H b = some o → b ≠ a → H' b = some o
theorem Kept.trans {a : Addr} {H H1 H2 : Hp} (h : Kept a H H1) (h2 : Kept a H1 H2) : Kept a H H2 := fun b o e n => h2 b o (h b o e n) n
theorem Same.kept {a : Addr} {H H' : Hp} (h : Same H H') : Kept a H H' := fun b o e _ => h b o e
theorem paired_get {α β : Type} {F : α → β → Prop} : ∀ {l1 : List α} {l2 : List β} {i : Nat} {a : α}, Paired F l1 l2 → l1[i]? = some a → ∃ b, l2[i]? = some b ∧ F a b
  | _, _, _, _, .nil, h => by simp at h
  | _, _, 0, _, .cons r _, h => ⟨_, rfl, by cases h; exact r⟩
  | _, _, i + 1, _, .cons _ t, h => by
    obtain ⟨b, h1, h2⟩ := paired_get (i := i) t (by simpa using h)
    exact ⟨b, by simpa using h1, h2⟩
theorem paired_mono {α β : Type} {F G : α → β → Prop} (h : ∀ a b, F a b → G a b) : ∀ {l1 : List α} {l2 : List β}, Paired F l1 l2 → Paired G l1 l2
  | _, _, .nil => .nil
  | _, _, .cons a r => .cons (h _ _ a) (paired_mono h r)
theorem paired_len {α β : Type} {F : α → β → Prop} : ∀ {l1 : List α} {l2 : List β}, Paired F l1 l2 → l1.length = l2.length
  | _, _, .nil => rfl
  | _, _, .cons _ r => congrArg Nat.succ (paired_len r)
def TupAt (H : Hp) (p : Addr) (e : Nat × Nat) : Prop := H p = some (.tup [.int (e.1 : Int), .int (e.2 : Int)])
def TiesAt (H : Hp) (t : Addr) (ts : List (Nat × Nat)) : Prop := ∃ tas : List Addr, H t = some (.lst (tas.map V.ref)) ∧ Paired (TupAt H) tas ts
theorem TiesAt.same {H H' : Hp} {t : Addr} {ts : List (Nat × Nat)} (h : TiesAt H t ts) (s : Same H H') : TiesAt H' t ts := by
  obtain ⟨tas, h1, h2⟩ := h
  exact ⟨tas, s _ _ h1, paired_mono (fun p e hp => s _ _ hp) h2⟩
structure OkWeb (N : Nat) (ts : List (Nat × Nat)) : Prop where
  n0 : 0 < N
  n1 : N ≤ 60
  m : ts.length ≤ 80
  ok : ∀ e ∈ ts, e.1 < N ∧ e.2 < N
theorem bl_false {c : Prop} [Decidable c] {Q : VK} {H : Hp} (h : ¬ c) (q : Q (.bl false) H) : Q (.bl (decide c)) H := by
  rw [decide_eq_false h]
  exact q
/-! ### values of every kind -/
/-- a value, and what whole number it is -/
inductive Num (H : Hp) : V → Option Int → Prop where
  | int (n : Int) : Num H (.int n) (some n)
  | non : Num H .non none
  | bl (b : Bool) : Num H (.bl b) none
  | str (s : Str) : Num H (.str s) none
  | lst {a : Addr} {xs : List V} (h : H a = some (.lst xs)) : Num H (.ref a) none
  | tup {a : Addr} {xs : List V} (h : H a = some (.tup xs)) : Num H (.ref a) none
  | dK {a : Addr} {ks : List (Key × V)} (h : H a = some (.dK ks)) : Num H (.ref a) none
theorem Num.same {H H' : Hp} {v : V} {o : Option Int} (h : Num H v o) (s : Same H H') : Num H' v o := by
  cases h with
  | int n => exact .int n
  | non => exact .non
  | bl b => exact .bl b
  | str x => exact .str x
  | lst h => exact .lst (s _ _ h)
  | tup h => exact .tup (s _ _ h)
  | dK h => exact .dK (s _ _ h)
theorem Num.some_is {H : Hp} {v : V} {n : Int} (h : Num H v (some n)) : v = .int n := by cases h; rfl
def inR (n : Nat) (o : Option Int) : Bool := o.any fun i => decide (0 ≤ i) && decide (i < (n : Int))
/-- a value, and what it lists -/
inductive Val (H : Hp) : V → Option (List (Option Int)) → Prop where
  | int (n : Int) : Val H (.int n) none
  | non : Val H .non none
  | bl (b : Bool) : Val H (.bl b) none
  | str (s : Str) : Val H (.str s) none
  | dK {a : Addr} {ks : List (Key × V)} (h : H a = some (.dK ks)) : Val H (.ref a) none
  | lst {a : Addr} {xs : List V} {os : List (Option Int)} (h : H a = some (.lst xs)) (p : Paired (Num H) xs os) : Val H (.ref a) (some os)
  | tup {a : Addr} {xs : List V} {os : List (Option Int)} (h : H a = some (.tup xs)) (p : Paired (Num H) xs os) : Val H (.ref a) (some os)
theorem Val.same {H H' : Hp} {v : V} {o : Option (List (Option Int))} (h : Val H v o) (s : Same H H') : Val H' v o := by
  cases h with
  | int n => exact .int n
  | non => exact .non
  | bl b => exact .bl b
  | str x => exact .str x
  | lst h p => exact .lst (s _ _ h) (paired_mono (fun a b q => q.same s) p)
  | tup h p => exact .tup (s _ _ h) (paired_mono (fun a b q => q.same s) p)
  | dK h => exact .dK (s _ _ h)
theorem inR_lt {u n : Nat} (h : u < n) : inR n (some (u : Int)) = true := by
  show (decide (0 ≤ (u : Int)) && decide ((u : Int) < (n : Int))) = true
  rw [decide_eq_true (by omega), decide_eq_true (by omega)]
  rfl
/-- ties, in a list or in a tuple -/
def TiesS (H : Hp) (t : Addr) (ts : List (Nat × Nat)) : Prop := ∃ tas : List Addr, (H t = some (.lst (tas.map V.ref)) ∨ H t = some (.tup (tas.map V.ref))) ∧ Paired (TupAt H) tas ts
theorem TiesS.same {H H' : Hp} {t : Addr} {ts : List (Nat × Nat)} (h : TiesS H t ts) (s : Same H H') : TiesS H' t ts := by
  obtain ⟨tas, h1, h2⟩ := h
  exact ⟨tas, h1.imp (s _ _) (s _ _), paired_mono (fun p e hp => s _ _ hp) h2⟩
theorem TiesAt.s {H : Hp} {t : Addr} {ts : List (Nat × Nat)} (h : TiesAt H t ts) : TiesS H t ts := by
  obtain ⟨tas, h1, h2⟩ := h
  exact ⟨tas, .inl h1, h2⟩
theorem ties_num {H : Hp} : ∀ {tas : List Addr} {ts : List (Nat × Nat)}, Paired (TupAt H) tas ts → Paired (Num H) (tas.map V.ref) (tas.map fun _ => none)
  | _, _, .nil => .nil
  | _, _, .cons h r => .cons (.tup h) (ties_num r)
theorem TiesS.val {H : Hp} {t : Addr} {ts : List (Nat × Nat)} (h : TiesS H t ts) : ∃ os, Val H (.ref t) (some os) := by
  obtain ⟨tas, h1 | h1, h2⟩ := h
  · exact ⟨_, .lst h1 (ties_num h2)⟩
  · exact ⟨_, .tup h1 (ties_num h2)⟩
section
variable {P : Program} {w : World} {K : PySem.W.Frag} {mg : Str → Option Value} {base : Heap} {C : Addr}
def spis_integer (_ : PySem.W.Frag) (_ : Addr) : Sp := fun vs H Q _ => ∃ v o, vs = [v] ∧ Num H v o ∧ Q (.bl o.isSome) H
theorem okis_integer (D : Def K mg "is_integer" sis_integer ["value"]) (B : Bs mg) (Glb : Glo mg) (WK : WebK K mg C) :
    Good P w K mg base "is_integer" sis_integer ["value"] 1 (spis_integer K C) := by
  refine D.good fun f fd F => ?_
  refine F.ok scis_integer (fun vs H Q E h => ?_) (fun cdv A outer s H vs Q E hr h => ?_)
  · obtain ⟨v, o, rfl, hv, q⟩ := h
    first | rfl | (rcases h with ⟨_, _, rfl, _⟩ | ⟨_, rfl, _⟩ <;> rfl)
  obtain ⟨v, o, rfl, hv, q⟩ := h
  refine ⟨_, (pss_one (ps_ret (pe_and (pe_callB call_isi (by rfl) B.isinstance (by decide +kernel) (pa_cons (pv 0) (pa_cons (pe_bltn (v := .ty "int") (by rfl) B.int (by decide +kernel) rfl) pa_nil))) (pe_one (pe_not (pe_callB call_isi (by rfl) B.isinstance (by decide +kernel) (pa_cons (pv 0) (pa_cons (pe_bltn (v := .ty "bool") (by rfl) B.bool (by decide +kernel) rfl) pa_nil)))))))), ?_⟩
  cases hv with
  | int n => exact ⟨_, rfl, _, _, _, _, true, rfl, .ty _, .base (.int n), kit_ty (by decide +kernel), _, rfl, iteT ⟨_, rfl, _, _, _, _, false, rfl, .ty _, .base (.int n), kit_ty (by decide +kernel), _, rfl, q⟩⟩
  | non => exact ⟨_, rfl, _, _, _, _, false, rfl, .ty _, .base .non, kit_ty (by decide +kernel), _, rfl, iteF q⟩
  | bl b => exact ⟨_, rfl, _, _, _, _, true, rfl, .ty _, .base (.bl b), kit_ty (by decide +kernel), _, rfl, iteT ⟨_, rfl, _, _, _, _, true, rfl, .ty _, .base (.bl b), kit_ty (by decide +kernel), _, rfl, q⟩⟩
  | str x => exact ⟨_, rfl, _, _, _, _, false, rfl, .ty _, .base (.str x), kit_ty (by decide +kernel), _, rfl, iteF q⟩
  | lst h => exact ⟨_, rfl, _, _, _, _, false, rfl, .ty _, .base (.lst h), kit_ty (by decide +kernel), _, rfl, iteF q⟩
  | tup h => exact ⟨_, rfl, _, _, _, _, false, rfl, .ty _, .base (.tup h), kit_ty (by decide +kernel), _, rfl, iteF q⟩
  | dK h => exact ⟨_, rfl, _, _, _, _, false, rfl, .ty _, .base (.dK h), kit_ty (by decide +kernel), _, rfl, iteF q⟩
def spis_count (_ : PySem.W.Frag) (_ : Addr) : Sp := fun vs H Q _ => ∃ v o, vs = [v] ∧ Num H v o ∧ Q (.bl (o.any fun i => decide (0 ≤ i))) H
theorem okis_count (D : Def K mg "is_count" sis_count ["value"]) (B : Bs mg) (Glb : Glo mg) (WK : WebK K mg C)
    (his_integer : Good P w K mg base "is_integer" sis_integer ["value"] 1 (spis_integer K C)) :
    Good P w K mg base "is_count" sis_count ["value"] 2 (spis_count K C) := by
  refine D.good fun f fd F => ?_
  obtain ⟨fis_integer, dis_integer, Ois_integer, mis_integer, kis_integer, bis_integer, Fis_integer⟩ := his_integer
  refine F.ok scis_count (fun vs H Q E h => ?_) (fun cdv A outer s H vs Q E hr h => ?_)
  · obtain ⟨v, o, rfl, hv, q⟩ := h
    first | rfl | (rcases h with ⟨_, _, rfl, _⟩ | ⟨_, rfl, _⟩ <;> rfl)
  obtain ⟨v, o, rfl, hv, q⟩ := h
  refine ⟨_, (pss_one (ps_ret (pe_and (pe_call Ois_integer hr rfl mis_integer kis_integer bis_integer .nil pass0 (pa_cons (pv 0) pa_nil)) (pe_one (pe_cmpR op_ge (pv 0) pe_int (nomark _)))))), ?_⟩
  cases o with
  | none => exact ⟨_, rfl, v, none, rfl, hv, _, rfl, iteF q⟩
  | some n =>
    cases hv.some_is
    exact ⟨_, rfl, _, some n, rfl, hv, _, rfl, iteT ⟨_, rfl, _, _, rfl, rfl, q⟩⟩
def btwO (a b : Int) (o : Option Int) : Bool := o.any fun n => decide (a ≤ n) && decide (n ≤ b)
def spis_between (_ : PySem.W.Frag) (_ : Addr) : Sp := fun vs H Q _ => ∃ v o, ∃ a b : Int, vs = [v, .int a, .int b] ∧ Num H v o ∧ Q (.bl (btwO a b o)) H
theorem okis_between (D : Def K mg "is_between" sis_between ["value", "least", "most"]) (B : Bs mg) (Glb : Glo mg) (WK : WebK K mg C)
    (his_integer : Good P w K mg base "is_integer" sis_integer ["value"] 1 (spis_integer K C)) :
    Good P w K mg base "is_between" sis_between ["value", "least", "most"] 2 (spis_between K C) := by
  refine D.good fun f fd F => ?_
  obtain ⟨fis_integer, dis_integer, Ois_integer, mis_integer, kis_integer, bis_integer, Fis_integer⟩ := his_integer
  refine F.ok scis_between (fun vs H Q E h => ?_) (fun cdv A outer s H vs Q E hr h => ?_)
  · obtain ⟨v, o, a, b, rfl, hv, q⟩ := h
    first | rfl | (rcases h with ⟨_, _, rfl, _⟩ | ⟨_, rfl, _⟩ <;> rfl)
  obtain ⟨v, o, a, b, rfl, hv, q⟩ := h
  refine ⟨_, (pss_one (ps_ret (pe_and (pe_call Ois_integer hr rfl mis_integer kis_integer bis_integer .nil pass0 (pa_cons (pv 0) pa_nil)) (pe_one (pe_chain op_le op_le (pv 1) (pv 0) (pv 2)))))), ?_⟩
  refine ⟨_, rfl, v, o, rfl, hv, _, rfl, ?_⟩
  cases o with
  | none => exact iteF q
  | some n =>
    cases hv.some_is
    refine iteT ⟨_, rfl, _, rfl, _, _, rfl, rfl, _, rfl, ?_⟩
    replace q : Q (.bl (decide (a ≤ n) && decide (n ≤ b))) H := q
    by_cases h : a ≤ n
    · rw [decide_eq_true h, Bool.true_and] at q
      exact iteYes h ⟨_, rfl, _, _, rfl, rfl, q⟩
    · rw [decide_eq_false h, Bool.false_and] at q
      exact iteNo h q
def spis_below (_ : PySem.W.Frag) (_ : Addr) : Sp := fun vs H Q _ => ∃ v o, ∃ m : Nat, vs = [v, .int (m : Int)] ∧ Num H v o ∧ Q (.bl (inR m o)) H
theorem okis_below (D : Def K mg "is_below" sis_below ["value", "limit"]) (B : Bs mg) (Glb : Glo mg) (WK : WebK K mg C)
    (his_count : Good P w K mg base "is_count" sis_count ["value"] 2 (spis_count K C)) :
    Good P w K mg base "is_below" sis_below ["value", "limit"] 3 (spis_below K C) := by
  refine D.good fun f fd F => ?_
  obtain ⟨fis_count, dis_count, Ois_count, mis_count, kis_count, bis_count, Fis_count⟩ := his_count
  refine F.ok scis_below (fun vs H Q E h => ?_) (fun cdv A outer s H vs Q E hr h => ?_)
  · obtain ⟨v, o, m, rfl, hv, q⟩ := h
    first | rfl | (rcases h with ⟨_, _, rfl, _⟩ | ⟨_, rfl, _⟩ <;> rfl)
  obtain ⟨v, o, m, rfl, hv, q⟩ := h
  refine ⟨_, (pss_one (ps_ret (pe_and (pe_call Ois_count hr rfl mis_count kis_count bis_count .nil pass0 (pa_cons (pv 0) pa_nil)) (pe_one (pe_cmpR op_lt (pv 0) (pv 1) (nomark _)))))), ?_⟩
  refine ⟨_, rfl, v, o, rfl, hv, ?_⟩
  cases o with
  | none => exact ⟨_, rfl, iteF q⟩
  | some n =>
    cases hv.some_is
    refine ⟨_, rfl, ?_⟩
    replace q : Q (.bl (decide (0 ≤ n) && decide (n < (m : Int)))) H := q
    show if decide (0 ≤ n) = true then _ else _
    by_cases h : 0 ≤ n
    · rw [decide_eq_true h, Bool.true_and] at q
      exact iteYes h ⟨_, rfl, _, rfl, _, _, rfl, rfl, q⟩
    · rw [decide_eq_false h, Bool.false_and] at q
      exact iteNo h q
theorem isi_listed {v : V} {o : Option (List (Option Int))} {H : Hp} {tp : Addr} {Q : VK} (hv : Val H v o) (ntp : H tp = none) (q : Q (.bl o.isSome) (upd H tp (.tup [.ty "list", .ty "tuple"]))) : rIsiT K [v, .ref tp] (upd H tp (.tup [.ty "list", .ty "tuple"])) Q := by
  have no : ∀ {t : String} {x : V}, TyX K (upd H tp (.tup [.ty "list", .ty "tuple"])) x (.type t) → kitB t "list" = some false → kitB t "tuple" = some false → Q (.bl false) (upd H tp (.tup [.ty "list", .ty "tuple"])) → rIsiT K [x, .ref tp] (upd H tp (.tup [.ty "list", .ty "tuple"])) Q :=
    fun ty h1 h2 q => ⟨_, tp, [.ty "list", .ty "tuple"], _, [.type "list", .type "tuple"], false, rfl, upd_same, .cons (.ty _) (.cons (.ty _) .nil), ty, kitAny_cons (b := false) (kit_ty h1) (fun _ => kitAny_cons (b := false) (kit_ty h2) (fun _ => kitAny_nil) (fun h => by cases h)) (fun h => by cases h), q⟩
  cases hv with
  | lst ha _ => exact ⟨_, tp, [.ty "list", .ty "tuple"], .type "list", [.type "list", .type "tuple"], true, rfl, upd_same, .cons (.ty _) (.cons (.ty _) .nil), .base (.lst (same_new ntp _ _ _ ha)), kitAny_cons (b := true) (kit_ty (by decide +kernel)) (fun h => by cases h) (fun _ => rfl), q⟩
  | tup ha _ => exact ⟨_, tp, [.ty "list", .ty "tuple"], .type "tuple", [.type "list", .type "tuple"], true, rfl, upd_same, .cons (.ty _) (.cons (.ty _) .nil), .base (.tup (same_new ntp _ _ _ ha)), kitAny_cons (b := false) (kit_ty (by decide +kernel)) (fun _ => kitAny_cons (b := true) (kit_ty (by decide +kernel)) (fun h => by cases h) (fun _ => rfl)) (fun h => by cases h), q⟩
  | int n => exact no (.base (.int n)) (by decide +kernel) (by decide +kernel) q
  | non => exact no (.base .non) (by decide +kernel) (by decide +kernel) q
  | bl b => exact no (.base (.bl b)) (by decide +kernel) (by decide +kernel) q
  | str x => exact no (.base (.str x)) (by decide +kernel) (by decide +kernel) q
  | dK h => exact no (.base (.dK (same_new ntp _ _ _ h))) (by decide +kernel) (by decide +kernel) q
def spis_listed (_ : PySem.W.Frag) (_ : Addr) : Sp := fun vs H Q _ => ∃ v o, vs = [v] ∧ Val H v o ∧ ∀ H', Same H H' → Q (.bl o.isSome) H'
theorem okis_listed (D : Def K mg "is_listed" sis_listed ["value"]) (B : Bs mg) (Glb : Glo mg) (WK : WebK K mg C) :
    Good P w K mg base "is_listed" sis_listed ["value"] 1 (spis_listed K C) := by
  refine D.good fun f fd F => ?_
  refine F.ok scis_listed (fun vs H Q E h => ?_) (fun cdv A outer s H vs Q E hr h => ?_)
  · obtain ⟨v, o, rfl, hv, q⟩ := h
    first | rfl | (rcases h with ⟨_, _, rfl, _⟩ | ⟨_, rfl, _⟩ <;> rfl)
  obtain ⟨v, o, rfl, hv, q⟩ := h
  refine ⟨_, (pss_one (ps_ret (pe_callB call_isiT (by rfl) B.isinstance (by decide +kernel) (pa_cons (pv 0) (pa_cons (pe_tup (pa_cons (pe_bltn (v := .ty "list") (by rfl) B.list (by decide +kernel) rfl) (pa_cons (pe_bltn (v := .ty "tuple") (by rfl) B.tuple (by decide +kernel) rfl) pa_nil))) pa_nil))))), ?_⟩
  exact ⟨_, rfl, (by show 2 ≤ sizeLine; decide), fun tp ntp => isi_listed hv ntp (q _ (same_new ntp _))⟩
def spare_ties (_ : PySem.W.Frag) (_ : Addr) : Sp := fun vs H Q _ => ∃ N : Nat, ∃ t ts, vs = [.int (N : Int), .ref t] ∧ OkWeb N ts ∧ TiesS H t ts ∧ ∀ H', Same H H' → Q (.bl true) H'
theorem okare_ties (D : Def K mg "are_ties" sare_ties ["places", "value"]) (B : Bs mg) (Glb : Glo mg) (WK : WebK K mg C)
    (his_listed : Good P w K mg base "is_listed" sis_listed ["value"] 1 (spis_listed K C))
    (his_below : Good P w K mg base "is_below" sis_below ["value", "limit"] 3 (spis_below K C)) :
    Good P w K mg base "are_ties" sare_ties ["places", "value"] 4 (spare_ties K C) := by
  refine D.good fun f fd F => ?_
  obtain ⟨fis_listed, dis_listed, Ois_listed, mis_listed, kis_listed, bis_listed, Fis_listed⟩ := his_listed
  obtain ⟨fis_below, dis_below, Ois_below, mis_below, kis_below, bis_below, Fis_below⟩ := his_below
  refine F.ok scare_ties (fun vs H Q E h => ?_) (fun cdv A outer s H vs Q E hr h => ?_)
  · obtain ⟨N, t, ts, rfl, ho, hT, q⟩ := h
    first | rfl | (rcases h with ⟨_, _, rfl, _⟩ | ⟨_, rfl, _⟩ <;> rfl)
  obtain ⟨N, t, ts, rfl, ho, hT, q⟩ := h
  refine ⟨_, (pss_cons (ps_if (PW.pt (pw_or (pt_not (pt_val (pe_call Ois_listed (hr.mono (by decide)) rfl mis_listed kis_listed bis_listed .nil pass0 (pa_cons (pv 1) pa_nil)))) (pw_or1 (pt_cmpR op_gt (pe_callB call_len_seq (by rfl) B.len (by decide +kernel) (pa_cons (pv 1) pa_nil)) (pe_globI Glb.MOST_TIES) (nomark _)))))
    (pss_one (ps_ret pe_bl)) pss_nil)
  (pss_cons (ps_for PassesOwn.never rfl (pi_or (pi_list (pv 1)) (pi_tup (pv 1))) (pg_name (i := 2) scare_ties.nd rfl (by first | exact Or.inl rfl | exact Or.inr rfl))
    (pss_cons (ps_if (PW.pt (pw_or (pt_not (pt_val (pe_callB call_isi (by rfl) B.isinstance (by decide +kernel) (pa_cons (pv 2) (pa_cons (pe_bltn (v := .ty "tuple") (by rfl) B.tuple (by decide +kernel) rfl) pa_nil))))) (pw_or1 (pt_cmpR op_ne (pe_callB call_len_seq (by rfl) B.len (by decide +kernel) (pa_cons (pv 2) pa_nil)) pe_int (nomark _)))))
    (pss_one (ps_ret pe_bl)) pss_nil)
  (pss_one (ps_if (PW.pt (pw_or (pt_not (pt_val (pe_call Ois_below hr rfl mis_below kis_below bis_below .nil pass0 (pa_cons (pe_ix ix_tup (pv 2) pe_int (fun _ _ => rfl)) (pa_cons (pv 0) pa_nil))))) (pw_or1 (pt_not (pt_val (pe_call Ois_below hr rfl mis_below kis_below bis_below .nil pass0 (pa_cons (pe_ix ix_tup (pv 2) pe_int (fun _ _ => rfl)) (pa_cons (pv 0) pa_nil))))))))
    (pss_one (ps_ret pe_bl)) pss_nil))))
  (pss_one (ps_ret pe_bl)))), ?_⟩
  obtain ⟨os, hv⟩ := hT.val
  obtain ⟨tas, ht, hP⟩ := hT
  have hlen := paired_len hP
  have hm := ho.m
  refine ⟨_, rfl, _, _, rfl, hv, fun H1 hS1 => ⟨_, rfl, iteF ⟨_, rfl, _, _, rfl, (ht.imp (hS1 _ _) (hS1 _ _)).imp SqL.of SqT.of, _, _, rfl, rfl, _, rfl, iteNo (by rw [List.length_map]; omega) ?_⟩⟩⟩
  rcases ht with ht | ht
  · refine .inl ⟨_, rfl, t, rfl, ⟨_, SqL.of (hS1 _ _ ht)⟩, for_list (K := K) (a := t) (xs := tas.map V.ref) (fun i σ H' => Same H H' ∧ ∃ v, σ = [some (.int (N : Int)), some (.ref t), v]) ⟨hS1, none, rfl⟩ (fun i σ H' _ ⟨hS', _⟩ => SqL.of (hS' _ _ ht)) ?_ ?_⟩
    · rintro i x σ H2 hx ⟨hS2, v, rfl⟩
      rw [List.getElem?_map] at hx
      obtain ⟨p, hp, rfl⟩ : ∃ p, tas[i]? = some p ∧ x = V.ref p := by
        cases e : tas[i]? with
        | none => rw [e] at hx; cases hx
        | some p => rw [e] at hx; exact ⟨p, rfl, (Option.some.inj hx).symm⟩
      obtain ⟨⟨u, v⟩, he, hpe⟩ := paired_get hP hp
      have hp2 : H2 p = some (.tup [.int (u : Int), .int (v : Int)]) := hS2 _ _ hpe
      obtain ⟨hu, hv⟩ := ho.ok _ (List.mem_of_getElem? he)
      refine ⟨_, rfl, _, _, _, _, true, rfl, .ty _, .base (.tup hp2), kit_ty (by decide +kernel), _, rfl, iteF ⟨_, rfl, _, _, rfl, .inr (SqT.of hp2), rfl, _, rfl, iteNS rfl ?_⟩⟩
      refine ⟨_, rfl, _, _, _, .int (u : Int), rfl, rfl, SqT.of hp2, rfl, _, rfl, _, some (u : Int), N, rfl, .int _, _, rfl, iteNb (inR_lt hu) ⟨_, rfl, _, _, _, .int (v : Int), rfl, rfl, SqT.of hp2, rfl, _, rfl, _, some (v : Int), N, rfl, .int _, _, rfl, iteNb (inR_lt hv) ?_⟩⟩
      exact ⟨hS2, _, rfl⟩
    · rintro σ H2 ⟨hS2, v, rfl⟩
      exact q H2 hS2
  · refine .inr ⟨_, rfl, t, rfl, ⟨_, SqT.of (hS1 _ _ ht)⟩, for_tup (K := K) (a := t) (xs := tas.map V.ref) (fun i σ H' => Same H H' ∧ ∃ v, σ = [some (.int (N : Int)), some (.ref t), v]) ⟨hS1, none, rfl⟩ (fun i σ H' _ ⟨hS', _⟩ => SqT.of (hS' _ _ ht)) ?_ ?_⟩
    · rintro i x σ H2 hx ⟨hS2, v, rfl⟩
      rw [List.getElem?_map] at hx
      obtain ⟨p, hp, rfl⟩ : ∃ p, tas[i]? = some p ∧ x = V.ref p := by
        cases e : tas[i]? with
        | none => rw [e] at hx; cases hx
        | some p => rw [e] at hx; exact ⟨p, rfl, (Option.some.inj hx).symm⟩
      obtain ⟨⟨u, v⟩, he, hpe⟩ := paired_get hP hp
      have hp2 : H2 p = some (.tup [.int (u : Int), .int (v : Int)]) := hS2 _ _ hpe
      obtain ⟨hu, hv⟩ := ho.ok _ (List.mem_of_getElem? he)
      refine ⟨_, rfl, _, _, _, _, true, rfl, .ty _, .base (.tup hp2), kit_ty (by decide +kernel), _, rfl, iteF ⟨_, rfl, _, _, rfl, .inr (SqT.of hp2), rfl, _, rfl, iteNS rfl ?_⟩⟩
      refine ⟨_, rfl, _, _, _, .int (u : Int), rfl, rfl, SqT.of hp2, rfl, _, rfl, _, some (u : Int), N, rfl, .int _, _, rfl, iteNb (inR_lt hu) ⟨_, rfl, _, _, _, .int (v : Int), rfl, rfl, SqT.of hp2, rfl, _, rfl, _, some (v : Int), N, rfl, .int _, _, rfl, iteNb (inR_lt hv) ?_⟩⟩
      exact ⟨hS2, _, rfl⟩
    · rintro σ H2 ⟨hS2, v, rfl⟩
      exact q H2 hS2
end
end My
namespace My
open PySem L2 PyProof.Rows
/-! ### numbers of ties from a place -/
def frmN (ts : List (Nat × Nat)) (p : Nat) : Nat → List Nat
  | 0 => []
  | i + 1 => if (ts[i]?.map Prod.fst) = some p then frmN ts p i ++ [i] else frmN ts p i
abbrev frm (ts : List (Nat × Nat)) (p : Nat) : List Nat := frmN ts p ts.length
theorem frmN_len (ts : List (Nat × Nat)) (p : Nat) : ∀ i, (frmN ts p i).length ≤ i
  | 0 => by simp [frmN]
  | i + 1 => by
    have := frmN_len ts p i
    unfold frmN
    split
    · simp; omega
    · omega
theorem frmN_mem (ts : List (Nat × Nat)) (p x : Nat) : ∀ i, x ∈ frmN ts p i ↔ x < i ∧ ts[x]?.map Prod.fst = some p
  | 0 => by simp [frmN]
  | i + 1 => by
    have ih := frmN_mem ts p x i
    unfold frmN
    split
    · rename_i c
      rw [List.mem_append, ih, List.mem_singleton]
      constructor
      · rintro (⟨h1, h2⟩ | rfl)
        · exact ⟨by omega, h2⟩
        · exact ⟨by omega, c⟩
      · rintro ⟨h1, h2⟩
        by_cases z : x = i
        · exact .inr z
        · exact .inl ⟨by omega, h2⟩
    · rename_i c
      rw [ih]
      constructor
      · rintro ⟨h1, h2⟩
        exact ⟨by omega, h2⟩
      · rintro ⟨h1, h2⟩
        refine ⟨?_, h2⟩
        by_cases z : x = i
        · subst z; exact absurd h2 c
        · omega
theorem nodup_get {α : Type} {L : List α} {j k : Nat} {x : α} (hn : L.Nodup) (h1 : L[j]? = some x) (h2 : L[k]? = some x) : j = k :=
  (List.getElem?_inj (List.getElem?_eq_some_iff.mp h1).1 hn).mp (h1.trans h2.symm)
/-! ### new empty lists -/
def Fresh (H1 : Hp) (D : Addr) (n : Nat) (H' : Hp) : Prop := ∃ fas : List Addr, fas.length = n ∧ fas.Nodup ∧ (∀ x ∈ fas, H1 x = none ∧ x ≠ D) ∧ Same H1 H' ∧ H' D = some (.lst (fas.map V.ref)) ∧ ∀ x ∈ fas, H' x = some (.lst [])
theorem Fresh.zero {H1 : Hp} {D : Addr} (h : H1 D = none) : Fresh H1 D 0 (upd H1 D (.lst [])) :=
  ⟨[], rfl, by simp, fun x h => by simp at h, same_new h _, upd_same, fun x h => by simp at h⟩
theorem Fresh.step {H1 H2 : Hp} {D p : Addr} {n : Nat} (h : Fresh H1 D n H2) (nD : H1 D = none) (hn : n < 1000) (np : H2 p = none) :
    ∃ acc, upd H2 p (.lst []) D = some (.lst acc) ∧ acc.length < sizeLine ∧ Fresh H1 D (n + 1) (upd (upd H2 p (.lst [])) D (.lst (acc ++ [.ref p]))) := by
  obtain ⟨fas, h1, h2, h3, h4, h5, h6⟩ := h
  have hpD : D ≠ p := ne_of_none h5 np
  refine ⟨fas.map V.ref, by rw [upd_ne hpD]; exact h5, by rw [List.length_map, h1]; exact Nat.lt_trans hn (by decide), fas ++ [p], by simp [h1], ?_, ?_, ?_, by rw [upd_same, List.map_append]; rfl, ?_⟩
  · rw [List.nodup_append]
    refine ⟨h2, by simp, fun x hx y hy => ?_⟩
    rw [List.mem_singleton.mp hy]
    rintro rfl
    rw [h6 _ hx] at np
    cases np
  · intro x hx
    rcases List.mem_append.mp hx with z | z
    · exact h3 x z
    · rw [List.mem_singleton.mp z]
      exact ⟨h4.free np, hpD.symm⟩
  · intro b o e
    rw [upd_ne (ne_of_none e nD), upd_ne (ne_of_none (h4 _ _ e) np)]
    exact h4 _ _ e
  · intro x hx
    rcases List.mem_append.mp hx with z | z
    · rw [upd_ne (h3 x z).2, upd_ne (ne_of_none (h6 x z) np)]
      exact h6 x z
    · rw [List.mem_singleton.mp z, upd_ne hpD.symm, upd_same]
/-- rows: heaps that keep what H held, but for these lists -/
def KeptR (R : List Addr) (H H' : Hp) : Prop := ∀ b o, H b = some o → b ∉ R → H' b = some o
theorem KeptR.refl (R : List Addr) (H : Hp) : KeptR R H H := fun _ _ h _ => h
theorem KeptR.new {R : List Addr} {H H' : Hp} {p : Addr} {o : HO} (h : KeptR R H H') (np : H' p = none) : KeptR R H (upd H' p o) := fun b u e n => by
  have := h b u e n
  rw [upd_ne (ne_of_none this np)]
  exact this
theorem KeptR.put {R : List Addr} {H H' : Hp} {p : Addr} {o : HO} (h : KeptR R H H') (hp : p ∈ R) : KeptR R H (upd H' p o) := fun b u e n => by
  rw [upd_ne (fun z => n (by rw [z]; exact hp))]
  exact h b u e n
/-! ### webs -/
def wf (N : Nat) (tl fl ol : Addr) : List (Str × V) := putF "_ties_to" (.ref ol) (putF "_ties_from" (.ref fl) (putF "_ties" (.ref tl) (putF "_places" (.int (N : Int)) [])))
theorem wf_P (N : Nat) (tl fl ol : Addr) : (wf N tl fl ol).lookup ("_places" : Str) = some (.int (N : Int)) := by
  unfold wf
  rw [lookup_putF, if_neg (by decide +kernel), lookup_putF, if_neg (by decide +kernel), lookup_putF, if_neg (by decide +kernel), lookup_putF, if_pos rfl]
theorem wf_T (N : Nat) (tl fl ol : Addr) : (wf N tl fl ol).lookup ("_ties" : Str) = some (.ref tl) := by
  unfold wf
  rw [lookup_putF, if_neg (by decide +kernel), lookup_putF, if_neg (by decide +kernel), lookup_putF, if_pos rfl]
theorem wf_F (N : Nat) (tl fl ol : Addr) : (wf N tl fl ol).lookup ("_ties_from" : Str) = some (.ref fl) := by
  unfold wf
  rw [lookup_putF, if_neg (by decide +kernel), lookup_putF, if_pos rfl]
theorem wf_O (N : Nat) (tl fl ol : Addr) : (wf N tl fl ol).lookup ("_ties_to" : Str) = some (.ref ol) := by
  unfold wf
  rw [lookup_putF, if_pos rfl]
theorem wf_no (N : Nat) (tl fl ol : Addr) {m : Str} (h1 : ¬ m = "_ties_to") (h2 : ¬ m = "_ties_from") (h3 : ¬ m = "_ties") (h4 : ¬ m = "_places") : (wf N tl fl ol).lookup m = none := by
  unfold wf
  rw [lookup_putF, if_neg h1, lookup_putF, if_neg h2, lookup_putF, if_neg h3, lookup_putF, if_neg h4]
  all_goals rfl
theorem putF_len (f : Str) (v : V) : ∀ l : List (Str × V), (putF f v l).length ≤ l.length + 1
  | [] => by simp [putF]
  | (g, x) :: r => by
    have := putF_len f v r
    unfold putF
    split
    · simp
    · simp; omega
def RowsAt (H : Hp) (p : Addr) (N : Nat) (f : Nat → List Nat) : Prop := ∃ fas : List Addr, H p = some (.lst (fas.map V.ref)) ∧ fas.length = N ∧ ∀ j x, fas[j]? = some x → H x = some (.lst (iv (f j)))
theorem RowsAt.same {H H' : Hp} {p : Addr} {N : Nat} {f : Nat → List Nat} (h : RowsAt H p N f) (s : Same H H') : RowsAt H' p N f := by
  obtain ⟨fas, h1, h2, h3⟩ := h
  exact ⟨fas, s _ _ h1, h2, fun j x e => s _ _ (h3 j x e)⟩
theorem RowsAt.get {H : Hp} {p : Addr} {N : Nat} {f : Nat → List Nat} (h : RowsAt H p N f) {j : Nat} (hj : j < N) : ∃ x xs, H p = some (.lst xs) ∧ atI xs (j : Int) = some (.ref x) ∧ H x = some (.lst (iv (f j))) := by
  obtain ⟨fas, h1, h2, h3⟩ := h
  have e : fas[j]? = some (fas[j]'(by omega)) := List.getElem?_eq_getElem _
  refine ⟨_, _, h1, atI_nat ?_, h3 j _ e⟩
  rw [List.getElem?_map, e]
  rfl
def WebAt (C a : Addr) (N : Nat) (ts : List (Nat × Nat)) (H : Hp) : Prop := ∃ dx tl fl ol, H a = some (.ins C dx (wf N tl fl ol)) ∧ TiesAt H tl ts ∧ RowsAt H fl N (frm ts) ∧ RowsAt H ol N (frm (ts.map Prod.swap))
theorem WebAt.same {C a : Addr} {N : Nat} {ts : List (Nat × Nat)} {H H' : Hp} (h : WebAt C a N ts H) (s : Same H H') : WebAt C a N ts H' := by
  obtain ⟨dx, tl, fl, ol, h1, h2, h3, h4⟩ := h
  exact ⟨dx, tl, fl, ol, s _ _ h1, h2.same s, h3.same s, h4.same s⟩
/-- what is new in H' or a tuple, and what stands at a -/
noncomputable def Sub (H H' : Hp) (a : Addr) : Hp := fun b => by
  classical
  exact if H b = none ∨ b = a ∨ ∃ xs, H' b = some (.tup xs) then H' b else none
theorem Sub.of {H H' : Hp} {a b : Addr} {o : HO} (h : H' b = some o) (k : H b = none ∨ b = a ∨ ∃ xs, H' b = some (.tup xs)) : Sub H H' a b = some o := by
  unfold Sub
  rw [if_pos k]
  exact h
theorem Sub.same {H H' : Hp} {a : Addr} : Same (Sub H H' a) H' := fun b o e => by
  unfold Sub at e
  split at e
  · exact e
  · cases e
theorem Sub.none {H H' : Hp} {a b : Addr} {xs : List V} (h : H b = some (.lst xs)) (n : b ≠ a) (k : H' b = some (.lst xs)) : Sub H H' a b = Option.none := by
  unfold Sub
  rw [if_neg]
  rintro (z | z | ⟨ys, z⟩)
  · rw [h] at z; cases z
  · exact n z
  · rw [k] at z; cases z
theorem btw {n a b : Int} (h1 : a ≤ n) (h2 : n ≤ b) : (decide (a ≤ n) && decide (n ≤ b)) = true := by
  rw [decide_eq_true h1, decide_eq_true h2]
  rfl
section
variable {P : Program} {w : World} {K : PySem.W.Frag} {mg : Str → Option Value} {base : Heap} {C : Addr}
def spWeb___init__ (_ : PySem.W.Frag) (C : Addr) : Sp := fun vs H Q _ => ∃ a dx N t ts, vs = [.ref a, .int ((N : Nat) : Int), .ref t] ∧ OkWeb N ts ∧ TiesS H t ts ∧ H a = some (.ins C dx []) ∧ ∀ H', Kept a H H' → WebAt C a N ts (Sub H H' a) → Q .non H'
theorem okWeb___init__ (D : DefI K C "__init__" "Web.__init__" sWeb___init__ ["self", "places", "ties"]) (B : Bs mg) (Glb : Glo mg) (WK : WebK K mg C)
    (his_between : Good P w K mg base "is_between" sis_between ["value", "least", "most"] 2 (spis_between K C))
    (hare_ties : Good P w K mg base "are_ties" sare_ties ["places", "value"] 4 (spare_ties K C)) :
    GoodI P w K mg base C "__init__" "Web.__init__" sWeb___init__ ["self", "places", "ties"] 5 (spWeb___init__ K C) := by
  refine D.good fun f fd F => ?_
  obtain ⟨fis_between, dis_between, Ois_between, mis_between, kis_between, bis_between, Fis_between⟩ := his_between
  obtain ⟨fare_ties, dare_ties, Oare_ties, mare_ties, kare_ties, bare_ties, Fare_ties⟩ := hare_ties
  refine F.ok scWeb___init__ (fun vs H Q E h => ?_) (fun cdv A outer s H vs Q E hr h => ?_)
  · obtain ⟨a, dx, N, t, ts, rfl, ho, ht, ha, q⟩ := h
    first | rfl | (rcases h with ⟨_, _, rfl, _⟩ | ⟨_, rfl, _⟩ <;> rfl)
  obtain ⟨a, dx, N, t, ts, rfl, ho, ht, ha, q⟩ := h
  refine ⟨_, (pss_cons (ps_if (pt_not (pt_val (pe_call Ois_between (hr.mono (by decide)) rfl mis_between kis_between bis_between .nil pass0 (pa_cons (pv 1) (pa_cons pe_int (pa_cons (pe_globI Glb.MOST_PLACES) pa_nil))))))
    (pss_one ps_never) pss_nil)
  (pss_cons (ps_if (pt_not (pt_val (pe_call Oare_ties hr rfl mare_ties kare_ties bare_ties .nil pass0 (pa_cons (pv 1) (pa_cons (pv 2) pa_nil)))))
    (pss_one ps_never) pss_nil)
  (pss_cons (ps_fld (pv 0) (pv 1) rfl)
  (pss_cons (ps_fld (pv 0) (pe_callTy call_list_of (by rfl) B.list (by decide +kernel) (pa_cons (pv 2) pa_nil)) rfl)
  (pss_cons (ps_fld (pv 0) (pe_lc (own := [("_", 5)]) (g := gName 5) (by rfl) scWeb___init__.nd (pi_range1 (by rfl) B.range (pa_cons (pv 1) pa_nil)) (blkOk_by (own := [("_", 5)]) (N := ["self", "places", "ties", "tie", "ends", "_"]) (sc := defScope sWeb___init__) (by decide +kernel)) (fun _ _ _ _ _ => (pg_name (i := 5) scWeb___init__.nd rfl (by first | exact Or.inl rfl | exact Or.inr rfl))) (fun _ _ _ _ _ => pts_nil) (fun _ _ _ _ _ => (pe_lst pa_nil))) rfl)
  (pss_cons (ps_fld (pv 0) (pe_lc (own := [("_", 5)]) (g := gName 5) (by rfl) scWeb___init__.nd (pi_range1 (by rfl) B.range (pa_cons (pv 1) pa_nil)) (blkOk_by (own := [("_", 5)]) (N := ["self", "places", "ties", "tie", "ends", "_"]) (sc := defScope sWeb___init__) (by decide +kernel)) (fun _ _ _ _ _ => (pg_name (i := 5) scWeb___init__.nd rfl (by first | exact Or.inl rfl | exact Or.inr rfl))) (fun _ _ _ _ _ => pts_nil) (fun _ _ _ _ _ => (pe_lst pa_nil))) rfl)
  (pss_one (ps_for PassesOwn.never rfl (pi_enum (by rfl) B.enumerate (pa_cons (pe_fld (pv 0) rfl) pa_nil)) (pg_tup rfl (pgs_cons (pg_name (i := 3) scWeb___init__.nd rfl (by first | exact Or.inl rfl | exact Or.inr rfl)) (pgs_cons (pg_name (i := 4) scWeb___init__.nd rfl (by first | exact Or.inl rfl | exact Or.inr rfl)) pgs_nil)))
    (pss_cons (ps_expr (pe_bm PySem.F.plainAttrs_list PySem.F.slot_list_append PySem.F.type_list_append mt_append (pe_ix ix_list (pe_fld (pv 0) rfl) (pe_ix ix_tup (pv 4) pe_int (fun _ _ => rfl)) (fun _ _ => rfl)) (pa_cons (pv 3) pa_nil)))
  (pss_one (ps_expr (pe_bm PySem.F.plainAttrs_list PySem.F.slot_list_append PySem.F.type_list_append mt_append (pe_ix ix_list (pe_fld (pv 0) rfl) (pe_ix ix_tup (pv 4) pe_int (fun _ _ => rfl)) (fun _ _ => rfl)) (pa_cons (pv 3) pa_nil))))))))))))), ?_⟩
  refine ⟨_, rfl, .int (N : Int), some (N : Int), 1, 60, rfl, .int _, _, rfl, iteNb (btw (by have := ho.n0; omega) (by have := ho.n1; omega)) ?_⟩
  refine ⟨_, rfl, _, rfl, N, t, ts, rfl, ho, ht, fun H1 hS1 => ⟨_, rfl, iteF ?_⟩⟩
  have ha1 := hS1 _ _ ha
  obtain ⟨tas, ht1, hP1⟩ := ht.same hS1
  have nat : t ≠ a := ht1.elim (fun h => ne_of h ha1 (by intro q; cases q)) (fun h => ne_of h ha1 (by intro q; cases q))
  have nta : ∀ p e, TupAt H1 p e → p ≠ a := fun p e hp => ne_of hp ha1 (by intro q; cases q)
  refine ⟨_, rfl, _, rfl, a, C, dx, [], rfl, ha1, WK.cl, WK.nP, (by decide), ?_⟩
  refine ⟨_, rfl, t, _, rfl, (ht1.imp (fun h => SqL.of (by rw [upd_ne nat]; exact h)) (fun h => SqT.of (by rw [upd_ne nat]; exact h))), fun tl ntl => ?_⟩
  have natl : a ≠ tl := ne_of_none upd_same ntl
  have ntl1 : H1 tl = none := by rw [upd_ne natl.symm] at ntl; exact ntl
  refine ⟨_, rfl, a, C, dx, _, rfl, (by rw [upd_ne natl]; exact upd_same), WK.cl, WK.nT, Nat.lt_of_le_of_lt (putF_len _ _ _) (by decide), ?_⟩
  generalize e4 : upd (upd (upd H1 a (.ins C dx (putF "_places" (.int (N : Int)) []))) tl (.lst (tas.map V.ref))) a (.ins C dx (putF "_ties" (.ref tl) (putF "_places" (.int (N : Int)) []))) = H4
  have k4 : Kept a H1 H4 := fun b o e n => by rw [← e4, upd_ne n, upd_ne (ne_of_none e ntl1), upd_ne n]; exact e
  have ha4 : H4 a = some (.ins C dx (putF "_ties" (.ref tl) (putF "_places" (.int (N : Int)) []))) := by rw [← e4]; exact upd_same
  have htl4 : H4 tl = some (.lst (tas.map V.ref)) := by rw [← e4, upd_ne natl.symm]; exact upd_same
  have hN := ho.n1
  refine ⟨_, rfl, _, rfl, by omega, by omega, fun D1 nD1 => ?_⟩
  refine lc_range (lo := 0) (n := N) (fun i H' => Fresh H4 D1 i H') (Fresh.zero nD1) ?_ ?_
  · intro i H' hi hf
    exact ⟨rfl, Nat.zero_le _, fun p np => hf.step nD1 (by omega) np⟩
  rintro H5 ⟨fas, f1, f2, f3, f4, f5, f6⟩
  have ha5 := f4 _ _ ha4
  have fa : ∀ x ∈ fas, x ≠ a := fun x hx z => by
    have := (f3 x hx).1
    rw [z, ha4] at this
    cases this
  have naD1 : D1 ≠ a := fun z => by rw [z, ha4] at nD1; cases nD1
  refine ⟨_, rfl, a, C, dx, _, rfl, ha5, WK.cl, WK.nF, Nat.lt_of_le_of_lt (putF_len _ _ _) (Nat.lt_of_le_of_lt (Nat.succ_le_succ (putF_len _ _ _)) (by decide)), ?_⟩
  generalize e6 : upd H5 a (.ins C dx (putF "_ties_from" (.ref D1) (putF "_ties" (.ref tl) (putF "_places" (.int (N : Int)) [])))) = H6
  have k6 : Kept a H5 H6 := fun b o e n => by rw [← e6, upd_ne n]; exact e
  have ha6 : H6 a = some (.ins C dx (putF "_ties_from" (.ref D1) (putF "_ties" (.ref tl) (putF "_places" (.int (N : Int)) [])))) := by rw [← e6]; exact upd_same
  refine ⟨_, rfl, _, rfl, by omega, by omega, fun D2 nD2 => ?_⟩
  refine lc_range (lo := 0) (n := N) (fun i H' => Fresh H6 D2 i H') (Fresh.zero nD2) ?_ ?_
  · intro i H' hi hf
    exact ⟨rfl, Nat.zero_le _, fun p np => hf.step nD2 (by omega) np⟩
  rintro H7 ⟨os, g1, g2, g3, g4, g5, g6⟩
  have ha7 := g4 _ _ ha6
  refine ⟨_, rfl, a, C, dx, _, rfl, ha7, WK.cl, WK.nO, Nat.lt_of_le_of_lt (putF_len _ _ _) (Nat.lt_of_le_of_lt (Nat.succ_le_succ (putF_len _ _ _)) (Nat.lt_of_le_of_lt (Nat.succ_le_succ (Nat.succ_le_succ (putF_len _ _ _))) (by decide))), ?_⟩
  generalize e8 : upd H7 a (.ins C dx (putF "_ties_to" (.ref D2) (putF "_ties_from" (.ref D1) (putF "_ties" (.ref tl) (putF "_places" (.int (N : Int)) []))))) = H8
  have k8 : Kept a H7 H8 := fun b o e n => by rw [← e8, upd_ne n]; exact e
  have ha8 : H8 a = some (.ins C dx (wf N tl D1 D2)) := by rw [← e8]; exact upd_same
  have oa : ∀ x ∈ os, x ≠ a := fun x hx z => by
    have := (g3 x hx).1
    rw [z, ha6] at this
    cases this
  have naD2 : D2 ≠ a := fun z => by rw [z, ha6] at nD2; cases nD2
  have fo : ∀ x ∈ fas, x ∉ os := fun x hx z => by
    have h := (g3 x z).1
    rw [k6 _ _ (f6 x hx) (fa x hx)] at h
    cases h
  -- what stands before the lists is none of them
  have old : ∀ b o, H4 b = some o → b ≠ a → H8 b = some o ∧ b ∉ fas ∧ b ∉ os := fun b o e n => by
    have h5 := f4 _ _ e
    have h6 := k6 _ _ h5 n
    refine ⟨k8 _ _ (g4 _ _ h6) n, fun z => ?_, fun z => ?_⟩
    · rw [(f3 b z).1] at e; cases e
    · rw [(g3 b z).1] at h6; cases h6
  have ntla : tl ≠ a := natl.symm
  have oldA : a ∉ fas ∧ a ∉ os := ⟨fun z => fa a z rfl, fun z => oa a z rfl⟩
  have oldT := old _ _ htl4 ntla
  have oldE : ∀ p e, TupAt H1 p e → TupAt H8 p e ∧ p ∉ fas ∧ p ∉ os := fun p e hp => old _ _ (k4 _ _ hp (nta p e hp)) (nta p e hp)
  have f58 : H8 D1 = some (.lst (fas.map V.ref)) := k8 _ _ (g4 _ _ (k6 _ _ f5 naD1)) naD1
  have D1f : D1 ∉ fas := fun z => (f3 D1 z).2 rfl
  have D1o : D1 ∉ os := fun z => by
    have h := (g3 D1 z).1
    rw [k6 _ _ f5 naD1] at h
    cases h
  have g58 : H8 D2 = some (.lst (os.map V.ref)) := k8 _ _ g5 naD2
  have D2o : D2 ∉ os := fun z => (g3 D2 z).2 rfl
  have D2f : D2 ∉ fas := fun z => by
    have h := k6 _ _ (f6 D2 z) (fa D2 z)
    rw [nD2] at h
    cases h
  have fe8 : ∀ x ∈ fas, H8 x = some (.lst []) := fun x hx => k8 _ _ (g4 _ _ (k6 _ _ (f6 x hx) (fa x hx))) (fa x hx)
  have oe8 : ∀ x ∈ os, H8 x = some (.lst []) := fun x hx => k8 _ _ (g6 x hx) (oa x hx)
  have nin : ∀ {b : Addr}, b ∉ fas → b ∉ os → b ∉ fas ++ os := fun h1 h2 z => (List.mem_append.mp z).elim h1 h2
  refine ⟨_, rfl, a, C, dx, _, _, rfl, ha8, WK.cl, WK.nT, wf_T _ _ _ _, tl, _, rfl, SqL.of oldT.1, ?_⟩
  refine for_it (walk_enum (K := K) (a := tl) (xs := tas.map V.ref)) (fun i σ H' => ∃ v3 v4 v5 : Option V, σ = [some (.ref a), some (.int (N : Int)), some (.ref t), v3, v4, v5] ∧ KeptR (fas ++ os) H8 H' ∧ (∀ (j : Nat) (x : Addr), fas[j]? = some x → H' x = some (.lst (iv (frmN ts j i)))) ∧ (∀ (j : Nat) (x : Addr), os[j]? = some x → H' x = some (.lst (iv (frmN (ts.map Prod.swap) j i))))) ?_ ?_ ?_ ?_
  · exact ⟨_, _, _, rfl, .refl _ _, fun j x e => fe8 x (List.mem_of_getElem? e), fun j x e => oe8 x (List.mem_of_getElem? e)⟩
  · rintro i σ H' hi ⟨v3, v4, v5, rfl, hk, _, _⟩
    exact SqL.of (hk _ _ oldT.1 (nin oldT.2.1 oldT.2.2))
  · rintro i x σ H9 H10 hi ⟨v3, v4, v5, rfl, hk, hf, hos⟩ ⟨T0, x1, x2, rfl, nT0, rfl, e1, e2⟩
    cases e1
    rw [List.length_map] at hi
    replace e2 : (tas.map V.ref)[i]? = some x2 := e2
    rw [List.getElem?_map, List.getElem?_eq_getElem hi] at e2
    cases e2
    obtain ⟨⟨u, v⟩, he, hpe⟩ := paired_get hP1 (List.getElem?_eq_getElem hi)
    obtain ⟨hu, hv⟩ := ho.ok _ (List.mem_of_getElem? he)
    have hp8 := oldE _ _ hpe
    have hp9 : H9 tas[i] = some (.tup [.int (u : Int), .int (v : Int)]) := hk _ _ hp8.1 (nin hp8.2.1 hp8.2.2)
    have hkN : KeptR (fas ++ os) H8 (upd H9 T0 (.tup [.int (i : Int), .ref tas[i]])) := hk.new nT0
    generalize e10 : upd H9 T0 (.tup [.int (i : Int), .ref tas[i]]) = H10
    rw [e10] at hkN
    have hT10 : H10 T0 = some (.tup [.int (i : Int), .ref tas[i]]) := by rw [← e10]; exact upd_same
    have hS10 : Same H9 H10 := by rw [← e10]; exact same_new nT0 _
    have hp10 := hS10 _ _ hp9
    have ha10 := hkN _ _ ha8 (nin oldA.1 oldA.2)
    have hfl10 := hkN _ _ f58 (nin D1f D1o)
    obtain ⟨xu, eu⟩ : ∃ x, fas[u]? = some x := ⟨fas[u]'(by omega), List.getElem?_eq_getElem _⟩
    obtain ⟨xv, ev⟩ : ∃ x, os[v]? = some x := ⟨os[v]'(by omega), List.getElem?_eq_getElem _⟩
    have mu := List.mem_of_getElem? eu
    have mv := List.mem_of_getElem? ev
    have hxu := hS10 _ _ (hf u xu eu)
    have hxv := hos v xv ev
    have nxu : ∀ {b : Addr}, b ∉ fas → b ≠ xu := fun h z => h (by rw [z]; exact mu)
    have nxv : ∀ {b : Addr}, b ∉ os → b ≠ xv := fun h z => h (by rw [z]; exact mv)
    have htl := ho.m
    have htsl : i < ts.length := by rw [← paired_len hP1]; exact hi
    refine ⟨T0, _, rfl, SqT.of hT10, rfl, _, _, rfl, _, _, rfl, rfl, ?_⟩
    refine ⟨_, rfl, a, C, dx, _, _, rfl, ha10, WK.cl, WK.nF, wf_F _ _ _ _, _, rfl, _, _, _, .int (u : Int), rfl, rfl, SqT.of hp10, rfl, _, _, _, .ref xu, rfl, rfl, SqL.of hfl10, atI_nat (by rw [List.getElem?_map, eu]; rfl), .inl ⟨rfl, _, SqL.of hxu⟩, _, rfl, xu, _, _, rfl, rfl, hxu, ?_, ?_⟩
    · rw [List.length_map]
      exact Nat.lt_of_le_of_lt (frmN_len ts u i) (Nat.lt_trans (by omega : i < 1000) (by decide))
    generalize e11 : upd H10 xu (.lst (iv (frmN ts u i) ++ [.int (i : Int)])) = H11
    have hk11 : KeptR (fas ++ os) H8 H11 := by rw [← e11]; exact hkN.put (List.mem_append_left _ mu)
    have ha11 := hk11 _ _ ha8 (nin oldA.1 oldA.2)
    have hol11 := hk11 _ _ g58 (nin D2f D2o)
    have hp11 : H11 tas[i] = some (.tup [.int (u : Int), .int (v : Int)]) := hk11 _ _ hp8.1 (nin hp8.2.1 hp8.2.2)
    have hxv11 : H11 xv = some (.lst (iv (frmN (ts.map Prod.swap) v i))) := by
      rw [← e11, upd_ne (fun z => fo xu mu (by rw [← z]; exact mv))]
      exact hS10 _ _ hxv
    refine ⟨_, rfl, a, C, dx, _, _, rfl, ha11, WK.cl, WK.nO, wf_O _ _ _ _, _, rfl, _, _, _, .int (v : Int), rfl, rfl, SqT.of hp11, rfl, _, _, _, .ref xv, rfl, rfl, SqL.of hol11, atI_nat (by rw [List.getElem?_map, ev]; rfl), .inl ⟨rfl, _, SqL.of hxv11⟩, _, rfl, xv, _, _, rfl, rfl, hxv11, by rw [List.length_map]; exact Nat.lt_of_le_of_lt (frmN_len _ v i) (Nat.lt_trans (by omega : i < 1000) (by decide)), ?_⟩
    refine ⟨_, _, _, rfl, hk11.put (List.mem_append_right _ mv), fun j x e => ?_, fun j x e => ?_⟩
    · have nx : x ≠ xv := fun z => fo x (List.mem_of_getElem? e) (by rw [z]; exact mv)
      rw [upd_ne nx]
      have eti : ts[i]?.map Prod.fst = some u := by rw [he]; rfl
      by_cases c : x = xu
      · have ej : j = u := nodup_get f2 e (by rw [c]; exact eu)
        subst ej
        rw [c, ← e11, upd_same, show frmN ts j (i + 1) = frmN ts j i ++ [i] from if_pos eti, iv_app]
      · have ej : ¬ (ts[i]?.map Prod.fst) = some j := fun z => by
          rw [eti] at z
          cases z
          rw [eu] at e
          exact c (Option.some.inj e).symm
        rw [← e11, upd_ne c, show frmN ts j (i + 1) = frmN ts j i from if_neg ej]
        exact hS10 _ _ (hf j x e)
    · have etv : (ts.map Prod.swap)[i]?.map Prod.fst = some v := by rw [List.getElem?_map, he]; rfl
      by_cases c : x = xv
      · have ej : j = v := nodup_get g2 e (by rw [c]; exact ev)
        subst ej
        rw [c, upd_same, show frmN (ts.map Prod.swap) j (i + 1) = frmN (ts.map Prod.swap) j i ++ [i] from if_pos etv, iv_app]
      · have ej : ¬ ((ts.map Prod.swap)[i]?.map Prod.fst) = some j := fun z => by
          rw [etv] at z
          cases z
          rw [ev] at e
          exact c (Option.some.inj e).symm
        rw [upd_ne c, ← e11, upd_ne (fun z => fo xu mu (by rw [← z]; exact List.mem_of_getElem? e)), show frmN (ts.map Prod.swap) j (i + 1) = frmN (ts.map Prod.swap) j i from if_neg ej]
        exact hS10 _ _ (hos j x e)
  · rintro σ H9 ⟨v3, v4, v5, rfl, hk, hf, hos⟩
    have hlen : (tas.map V.ref).length = ts.length := by rw [List.length_map]; exact paired_len hP1
    rw [hlen] at hf hos
    have to9 : ∀ b o, H4 b = some o → b ≠ a → H9 b = some o := fun b o e n => by
      have h := old b o e n
      exact hk _ _ h.1 (nin h.2.1 h.2.2)
    have g0 : ∀ b, b ≠ a → H4 b = none → H b = none := fun b n e => by
      cases e2 : H b with
      | none => rfl
      | some o =>
        rw [k4 _ _ (hS1 _ _ e2) n] at e
        cases e
    have g06 : ∀ b, b ≠ a → H6 b = none → H b = none := fun b n e => by
      cases e2 : H b with
      | none => rfl
      | some o =>
        rw [k6 _ _ (f4 _ _ (k4 _ _ (hS1 _ _ e2) n)) n] at e
        cases e
    refine q H9 (fun b o e n => to9 b o (k4 _ _ (hS1 _ _ e) n) n) ⟨dx, tl, D1, D2, Sub.of (hk _ _ ha8 (nin oldA.1 oldA.2)) (.inr (.inl rfl)), ⟨tas, Sub.of (to9 _ _ htl4 ntla) (.inl (hS1.free ntl1)), ?_⟩, ⟨fas, Sub.of (hk _ _ f58 (nin D1f D1o)) (.inl (g0 _ naD1 nD1)), f1, fun j x e => Sub.of (hf j x e) (.inl ?_)⟩, ⟨os, Sub.of (hk _ _ g58 (nin D2f D2o)) (.inl (g06 _ naD2 nD2)), g1, fun j x e => Sub.of (by show H9 x = some (.lst (iv (frmN (ts.map Prod.swap) j (ts.map Prod.swap).length))); rw [List.length_map]; exact hos j x e) (.inl ?_)⟩⟩
    · refine paired_mono (fun p e hp => ?_) hP1
      have hp9 := to9 _ _ (k4 _ _ hp (nta p e hp)) (nta p e hp)
      exact Sub.of hp9 (.inr (.inr ⟨_, hp9⟩))
    · have hm := List.mem_of_getElem? e
      exact g0 x (fa x hm) (f3 x hm).1
    · have hm := List.mem_of_getElem? e
      exact g06 x (oa x hm) (g3 x hm).1
def spWeb_places (_ : PySem.W.Frag) (C : Addr) : Sp := fun vs H Q _ => ∃ a N ts, vs = [.ref a] ∧ WebAt C a N ts H ∧ Q (.int (N : Int)) H
theorem okWeb_places (D : DefP K C "places" "Web.places" sWeb_places ["self"]) (B : Bs mg) (Glb : Glo mg) (WK : WebK K mg C) :
    GoodP P w K mg base C "places" "Web.places" sWeb_places ["self"] 1 (spWeb_places K C) := by
  refine D.good fun f fd F => ?_
  refine F.ok scWeb_places (fun vs H Q E h => ?_) (fun cdv A outer s H vs Q E hr h => ?_)
  · obtain ⟨a, N, ts, rfl, ⟨dx, tl, fl, ol, h1, h2, h3⟩, q⟩ := h
    first | rfl | (rcases h with ⟨_, _, rfl, _⟩ | ⟨_, rfl, _⟩ <;> rfl)
  obtain ⟨a, N, ts, rfl, ⟨dx, tl, fl, ol, h1, h2, h3⟩, q⟩ := h
  refine ⟨_, (pss_one (ps_ret (pe_fld (pv 0) rfl))), ?_⟩
  exact ⟨_, rfl, a, C, dx, _, _, rfl, h1, WK.cl, WK.nP, wf_P _ _ _ _, q⟩
def spWeb_many (_ : PySem.W.Frag) (C : Addr) : Sp := fun vs H Q _ => ∃ a N ts, vs = [.ref a] ∧ WebAt C a N ts H ∧ Q (.int (ts.length : Int)) H
theorem okWeb_many (D : DefP K C "many" "Web.many" sWeb_many ["self"]) (B : Bs mg) (Glb : Glo mg) (WK : WebK K mg C) :
    GoodP P w K mg base C "many" "Web.many" sWeb_many ["self"] 1 (spWeb_many K C) := by
  refine D.good fun f fd F => ?_
  refine F.ok scWeb_many (fun vs H Q E h => ?_) (fun cdv A outer s H vs Q E hr h => ?_)
  · obtain ⟨a, N, ts, rfl, ⟨dx, tl, fl, ol, h1, ⟨tas, ht, hP⟩, h3⟩, q⟩ := h
    first | rfl | (rcases h with ⟨_, _, rfl, _⟩ | ⟨_, rfl, _⟩ <;> rfl)
  obtain ⟨a, N, ts, rfl, ⟨dx, tl, fl, ol, h1, ⟨tas, ht, hP⟩, h3⟩, q⟩ := h
  refine ⟨_, (pss_one (ps_ret (pe_callB call_len_seq (by rfl) B.len (by decide +kernel) (pa_cons (pe_fld (pv 0) rfl) pa_nil)))), ?_⟩
  refine ⟨_, rfl, a, C, dx, _, _, rfl, h1, WK.cl, WK.nT, wf_T _ _ _ _, _, _, rfl, .inl (SqL.of ht), ?_⟩
  rw [List.length_map, paired_len hP]
  exact q
def spWeb_ties (_ : PySem.W.Frag) (C : Addr) : Sp := fun vs H Q _ => ∃ a N ts, vs = [.ref a] ∧ WebAt C a N ts H ∧ ∀ H' l, H l = none → Same H H' → TiesAt H' l ts → Q (.ref l) H'
theorem okWeb_ties (D : DefM K C "ties" "Web.ties" sWeb_ties ["self"]) (B : Bs mg) (Glb : Glo mg) (WK : WebK K mg C) :
    GoodM P w K mg base C "ties" "Web.ties" sWeb_ties ["self"] 1 (spWeb_ties K C) := by
  refine D.good fun f fd F => ?_
  refine F.ok scWeb_ties (fun vs H Q E h => ?_) (fun cdv A outer s H vs Q E hr h => ?_)
  · obtain ⟨a, N, ts, rfl, ⟨dx, tl, fl, ol, h1, ⟨tas, ht, hP⟩, h3⟩, q⟩ := h
    first | rfl | (rcases h with ⟨_, _, rfl, _⟩ | ⟨_, rfl, _⟩ <;> rfl)
  obtain ⟨a, N, ts, rfl, ⟨dx, tl, fl, ol, h1, ⟨tas, ht, hP⟩, h3⟩, q⟩ := h
  refine ⟨_, (pss_one (ps_ret (pe_callTy call_list_of (by rfl) B.list (by decide +kernel) (pa_cons (pe_fld (pv 0) rfl) pa_nil)))), ?_⟩
  exact ⟨_, rfl, a, C, dx, _, _, rfl, h1, WK.cl, WK.nT, wf_T _ _ _ _, _, _, rfl, .inl (SqL.of ht), fun l nl => q _ l nl (same_new nl _) ⟨tas, upd_same, paired_mono (fun p e hp => same_new nl _ _ _ hp) hP⟩⟩
def spneed_web (_ : PySem.W.Frag) (C : Addr) : Sp := fun vs H Q _ => ∃ a N ts, vs = [.ref a] ∧ WebAt C a N ts H ∧ Q .non H
theorem okneed_web (D : Def K mg "need_web" sneed_web ["web"]) (B : Bs mg) (Glb : Glo mg) (WK : WebK K mg C) :
    Good P w K mg base "need_web" sneed_web ["web"] 3 (spneed_web K C) := by
  refine D.good fun f fd F => ?_
  refine F.ok scneed_web (fun vs H Q E h => ?_) (fun cdv A outer s H vs Q E hr h => ?_)
  · obtain ⟨a, N, ts, rfl, hw, q⟩ := h
    first | rfl | (rcases h with ⟨_, _, rfl, _⟩ | ⟨_, rfl, _⟩ <;> rfl)
  obtain ⟨a, N, ts, rfl, hw, q⟩ := h
  refine ⟨_, (pss_one (ps_if (pt_not (pt_val (pe_callB call_isi (by rfl) B.isinstance (by decide +kernel) (pa_cons (pv 0) (pa_cons (pe_glob (v := .ref C) (by rfl) WK.mgC rfl) pa_nil)))))
    (pss_one ps_never) pss_nil)), ?_⟩
  obtain ⟨dx, tl, fl, ol, h1, h2, h3, h4⟩ := id hw
  exact ⟨_, rfl, _, _, _, _, true, rfl, .own C, .base (.ins h1 WK.cl WK.i1 WK.i2 WK.i3 WK.i4), WK.i5, _, rfl, iteF q⟩
/-- a list or a tuple of ints -/
def SeqAt (H : Hp) (s : Addr) (W : List Nat) : Prop := H s = some (.lst (iv W)) ∨ H s = some (.tup (iv W))
theorem SeqAt.same {H H' : Hp} {s : Addr} {W : List Nat} (h : SeqAt H s W) (hs : Same H H') : SeqAt H' s W := h.imp (hs _ _) (hs _ _)
theorem SeqAt.seq {K : PySem.W.Frag} {H : Hp} {s : Addr} {W : List Nat} (h : SeqAt H s W) : SqL K H s (iv W) ∨ SqT K H s (iv W) := h.imp SqL.of SqT.of
abbrev nz (W : List Nat) : List (Option Int) := W.map fun n : Nat => some (n : Int)
theorem iv_num {H : Hp} : ∀ W : List Nat, Paired (Num H) (iv W) (nz W)
  | [] => .nil
  | n :: r => .cons (.int _) (iv_num r)
theorem SeqAt.val {H : Hp} {s : Addr} {W : List Nat} (h : SeqAt H s W) : Val H (.ref s) (some (nz W)) := by
  rcases h with h | h
  · exact .lst h (iv_num W)
  · exact .tup h (iv_num W)
/-- numbers of so many ties -/
def NumS (n : Nat) (o : Option (List (Option Int))) : Bool := match o with
  | none => false
  | some os => os.all (inR n)
theorem num_get {H : Hp} {xs : List V} {os : List (Option Int)} (h : Paired (Num H) xs os) {i : Nat} {x : V} (hx : xs[i]? = some x) : ∃ o, os[i]? = some o ∧ Num H x o := paired_get h hx
theorem all_take {os : List (Option Int)} {n i : Nat} {o : Option Int} (h : os[i]? = some o) : (os.take (i + 1)).all (inR n) = ((os.take i).all (inR n) && inR n o) := by
  rw [List.take_add_one, h, List.all_append]
  show (_ && (inR n o && true)) = _
  rw [Bool.and_true]
theorem all_no {os : List (Option Int)} {n i : Nat} {o : Option Int} (h : os[i]? = some o) (k : inR n o = false) : os.all (inR n) = false := by
  rw [List.all_eq_false]
  exact ⟨o, List.mem_of_getElem? h, by rw [k]; exact Bool.false_ne_true⟩
def spare_numbers (_ : PySem.W.Frag) (C : Addr) : Sp := fun vs H Q _ => ∃ a N ts v o, vs = [.ref a, v] ∧ WebAt C a N ts H ∧ Val H v o ∧ ∀ H', Same H H' → Q (.bl (NumS ts.length o)) H'
theorem okare_numbers (D : Def K mg "are_numbers" sare_numbers ["web", "value"]) (B : Bs mg) (Glb : Glo mg) (WK : WebK K mg C)
    (his_listed : Good P w K mg base "is_listed" sis_listed ["value"] 1 (spis_listed K C))
    (his_below : Good P w K mg base "is_below" sis_below ["value", "limit"] 3 (spis_below K C))
    (hWeb_many : GoodP P w K mg base C "many" "Web.many" sWeb_many ["self"] 1 (spWeb_many K C)) :
    Good P w K mg base "are_numbers" sare_numbers ["web", "value"] 4 (spare_numbers K C) := by
  refine D.good fun f fd F => ?_
  obtain ⟨fis_listed, dis_listed, Ois_listed, mis_listed, kis_listed, bis_listed, Fis_listed⟩ := his_listed
  obtain ⟨fis_below, dis_below, Ois_below, mis_below, kis_below, bis_below, Fis_below⟩ := his_below
  obtain ⟨qWeb_many, fWeb_many, dWeb_many, OWeb_many, pWeb_many, bWeb_many⟩ := hWeb_many
  refine F.ok scare_numbers (fun vs H Q E h => ?_) (fun cdv A outer s H vs Q E hr h => ?_)
  · obtain ⟨a, N, ts, v, o, rfl, hw, hv, q⟩ := h
    first | rfl | (rcases h with ⟨_, _, rfl, _⟩ | ⟨_, rfl, _⟩ <;> rfl)
  obtain ⟨a, N, ts, v, o, rfl, hw, hv, q⟩ := h
  refine ⟨_, (pss_cons (ps_if (pt_not (pt_val (pe_call Ois_listed (hr.mono (by decide)) rfl mis_listed kis_listed bis_listed .nil pass0 (pa_cons (pv 1) pa_nil))))
    (pss_one (ps_ret pe_bl)) pss_nil)
  (pss_cons (ps_for PassesOwn.never rfl (pi_or (pi_list (pv 1)) (pi_tup (pv 1))) (pg_name (i := 2) scare_numbers.nd rfl (by first | exact Or.inl rfl | exact Or.inr rfl))
    (pss_one (ps_if (pt_not (pt_val (pe_call Ois_below hr rfl mis_below kis_below bis_below .nil pass0 (pa_cons (pv 2) (pa_cons (pe_prop (pv 0) WK.cl pWeb_many OWeb_many (hr.mono (by decide)) bWeb_many .nil pass0 (by rfl)) pa_nil)))))
    (pss_one (ps_ret pe_bl)) pss_nil)))
  (pss_one (ps_ret pe_bl)))), ?_⟩
  refine ⟨_, rfl, v, o, rfl, hv, fun H1 hS1 => ⟨_, rfl, ?_⟩⟩
  have hv1 := hv.same hS1
  cases o with
  | none => exact iteT (q H1 hS1)
  | some os =>
    refine iteF ?_
    replace q : ∀ H', Same H H' → Q (.bl (os.all (inR ts.length))) H' := q
    cases hv1 with
    | @lst s xs _ h hP =>
      refine .inl ⟨_, rfl, s, rfl, ⟨_, SqL.of h⟩, for_list (K := K) (a := s) (xs := xs) (fun i σ H' => Same H1 H' ∧ (os.take i).all (inR ts.length) = true ∧ ∃ v, σ = [some (.ref a), some (.ref s), v]) ⟨fun _ _ e => e, rfl, none, rfl⟩ (fun i σ H' _ ⟨hS', _⟩ => SqL.of (hS' _ _ h)) ?_ ?_⟩
      · rintro i x σ H2 hx ⟨hS2, hall, v, rfl⟩
        obtain ⟨o, ho, hn⟩ := num_get hP hx
        have hw2 := (hw.same hS1).same hS2
        obtain ⟨dx, tl, fl, ol, h1, _⟩ := id hw2
        refine ⟨_, rfl, _, rfl, a, dx, _, rfl, h1, a, N, ts, rfl, hw2, _, o, _, rfl, hn.same hS2, _, rfl, ?_⟩
        cases c : inR ts.length o with
        | true => exact iteF ⟨hS2, by rw [all_take ho, hall, c]; rfl, _, rfl⟩
        | false =>
          have := q H2 (hS1.trans hS2)
          rw [all_no ho c] at this
          exact iteT this
      · rintro σ H2 ⟨hS2, hall, v, rfl⟩
        have := q H2 (hS1.trans hS2)
        rw [paired_len hP, List.take_length] at hall
        rw [hall] at this
        exact this
    | @tup s xs _ h hP =>
      refine .inr ⟨_, rfl, s, rfl, ⟨_, SqT.of h⟩, for_tup (K := K) (a := s) (xs := xs) (fun i σ H' => Same H1 H' ∧ (os.take i).all (inR ts.length) = true ∧ ∃ v, σ = [some (.ref a), some (.ref s), v]) ⟨fun _ _ e => e, rfl, none, rfl⟩ (fun i σ H' _ ⟨hS', _⟩ => SqT.of (hS' _ _ h)) ?_ ?_⟩
      · rintro i x σ H2 hx ⟨hS2, hall, v, rfl⟩
        obtain ⟨o, ho, hn⟩ := num_get hP hx
        have hw2 := (hw.same hS1).same hS2
        obtain ⟨dx, tl, fl, ol, h1, _⟩ := id hw2
        refine ⟨_, rfl, _, rfl, a, dx, _, rfl, h1, a, N, ts, rfl, hw2, _, o, _, rfl, hn.same hS2, _, rfl, ?_⟩
        cases c : inR ts.length o with
        | true => exact iteF ⟨hS2, by rw [all_take ho, hall, c]; rfl, _, rfl⟩
        | false =>
          have := q H2 (hS1.trans hS2)
          rw [all_no ho c] at this
          exact iteT this
      · rintro σ H2 ⟨hS2, hall, v, rfl⟩
        have := q H2 (hS1.trans hS2)
        rw [paired_len hP, List.take_length] at hall
        rw [hall] at this
        exact this
end
end My
namespace My
open PySem L2 PyProof.Rows
theorem SeqAt.ix {K : PySem.W.Frag} {H : Hp} {s : Addr} {W : List Nat} {i : Int} {b : Nat} {Q : VK} (h : SeqAt H s W) (e : atI (iv W) i = some (.int (b : Int))) (q : Q (.int (b : Int)) H) : rIx K (.ref s) (.int i) H Q := by
  rcases h with h | h
  · exact .inl ⟨_, _, _, _, rfl, rfl, SqL.of h, e, q⟩
  · exact .inr (.inl ⟨_, _, _, _, rfl, rfl, SqT.of h, e, q⟩)
theorem TiesAt.at_ {H : Hp} {l : Addr} {ts : List (Nat × Nat)} (h : TiesAt H l ts) {x : Nat} {e : Nat × Nat} (hx : ts[x]? = some e) : ∃ xs p, H l = some (.lst xs) ∧ atI xs (x : Int) = some (.ref p) ∧ H p = some (.tup [.int (e.1 : Int), .int (e.2 : Int)]) := by
  obtain ⟨tas, h1, h2⟩ := h
  have hl := paired_len h2
  have hx2 := (List.getElem?_eq_some_iff.mp hx).1
  have e1 : tas[x]? = some (tas[x]'(by omega)) := List.getElem?_eq_getElem _
  obtain ⟨f, hf, hp⟩ := paired_get h2 e1
  rw [hx] at hf
  cases hf
  refine ⟨_, _, h1, atI_nat ?_, hp⟩
  rw [List.getElem?_map, e1]
  rfl
theorem atI_back {α : Type} {xs : List α} {v : α} (h : xs[xs.length - 1]? = some v) : atI xs (-1) = some v := by
  have h0 := (List.getElem?_eq_some_iff.mp h).1
  unfold atI ixN
  rw [if_neg (by decide), if_pos (by omega)]
  show xs[((-1 : Int) + (xs.length : Int)).toNat]? = _
  rw [show ((-1 : Int) + (xs.length : Int)).toNat = xs.length - 1 by omega]
  exact h
theorem iv_back {L : List Nat} {b : Nat} (h : L[L.length - 1]? = some b) : atI (iv L) (-1) = some (.int (b : Int)) := by
  refine atI_back ?_
  rw [List.length_map, List.getElem?_map, h]
  rfl
/-! ### walks and rounds -/
structure Chain (ts : List (Nat × Nat)) (R : List Nat) : Prop where
  n0 : 0 < R.length
  num : ∀ x ∈ R, x < ts.length
  on : ∀ i, i + 1 < R.length → ∃ x y e f, R[i]? = some x ∧ R[i + 1]? = some y ∧ ts[x]? = some e ∧ ts[y]? = some f ∧ f.1 = e.2
structure Tour (ts : List (Nat × Nat)) (R : List Nat) : Prop where
  ch : Chain ts R
  n1 : R.length ≤ 1000
  back : ∃ x y e f, R[0]? = some x ∧ R[R.length - 1]? = some y ∧ ts[x]? = some e ∧ ts[y]? = some f ∧ e.1 = f.2
theorem iteNbF {x : Bool} {A B : Prop} (h : x = false) (a : A) : if (!x) = true then A else B := by
  rw [h]
  exact iteT a
theorem nums_of {n : Nat} : ∀ {os : List (Option Int)}, os.all (inR n) = true → ∃ R : List Nat, os = nz R ∧ ∀ x ∈ R, x < n
  | [], _ => ⟨[], rfl, by simp⟩
  | o :: r, h => by
    rw [List.all_cons, Bool.and_eq_true] at h
    obtain ⟨R, rfl, hR⟩ := nums_of h.2
    cases o with
    | none => exact absurd h.1 (by unfold inR; simp)
    | some i =>
      have h1 : (decide (0 ≤ i) && decide (i < (n : Int))) = true := h.1
      rw [Bool.and_eq_true, decide_eq_true_iff, decide_eq_true_iff] at h1
      refine ⟨i.toNat :: R, ?_, fun x hx => ?_⟩
      · show some i :: nz R = some ((i.toNat : Nat) : Int) :: nz R
        rw [Int.toNat_of_nonneg h1.1]
      · rcases List.mem_cons.mp hx with z | z
        · omega
        · exact hR x z
theorem nz_inj : ∀ {A B : List Nat}, nz A = nz B → A = B
  | [], [], _ => rfl
  | [], _ :: _, h => by cases h
  | _ :: _, [], h => by cases h
  | a :: A, b :: B, h => by
    obtain ⟨h1, h2⟩ := List.cons.inj h
    have h3 : (a : Int) = (b : Int) := Option.some.inj h1
    rw [nz_inj h2, show a = b by omega]
theorem num_iv {H : Hp} : ∀ {xs : List V} {R : List Nat}, Paired (Num H) xs (nz R) → xs = iv R
  | [], [], _ => rfl
  | _ :: _, [], h => by cases h
  | [], _ :: _, h => by cases h
  | x :: xs, n :: R, h => by
    cases h with
    | cons h1 h2 =>
      rw [h1.some_is, num_iv h2]
      rfl
theorem Val.list {H : Hp} {v : V} {os : List (Option Int)} (h : Val H v (some os)) : ∃ s xs, v = .ref s ∧ (H s = some (.lst xs) ∨ H s = some (.tup xs)) ∧ Paired (Num H) xs os := by
  cases h with
  | lst h p => exact ⟨_, _, rfl, .inl h, p⟩
  | tup h p => exact ⟨_, _, rfl, .inr h, p⟩
theorem Val.seqAt {H : Hp} {v : V} {R : List Nat} (h : Val H v (some (nz R))) : ∃ s, v = .ref s ∧ SeqAt H s R := by
  obtain ⟨s, xs, rfl, h1, p⟩ := h.list
  rw [num_iv p] at h1
  exact ⟨s, rfl, h1⟩
def OnAt (ts : List (Nat × Nat)) (R : List Nat) (i : Nat) : Prop := ∃ x y e f, R[i]? = some x ∧ R[i + 1]? = some y ∧ ts[x]? = some e ∧ ts[y]? = some f ∧ f.1 = e.2
def IsWalk (ts : List (Nat × Nat)) (o : Option (List (Option Int))) : Prop := ∃ R, o = some (nz R) ∧ Chain ts R
def BackAt (ts : List (Nat × Nat)) (R : List Nat) : Prop := ∃ x y e f, R[0]? = some x ∧ R[R.length - 1]? = some y ∧ ts[x]? = some e ∧ ts[y]? = some f ∧ e.1 = f.2
def IsRound (ts : List (Nat × Nat)) (o : Option (List (Option Int))) : Prop := ∃ R, o = some (nz R) ∧ Chain ts R ∧ BackAt ts R
theorem walk_nz {ts : List (Nat × Nat)} {R : List Nat} : IsWalk ts (some (nz R)) ↔ Chain ts R := ⟨fun ⟨R', e, h⟩ => by rw [nz_inj (Option.some.inj e)]; exact h, fun h => ⟨R, rfl, h⟩⟩
theorem round_nz {ts : List (Nat × Nat)} {R : List Nat} : IsRound ts (some (nz R)) ↔ Chain ts R ∧ BackAt ts R := ⟨fun ⟨R', e, h⟩ => by rw [nz_inj (Option.some.inj e)]; exact h, fun h => ⟨R, rfl, h⟩⟩
theorem ends_get {ts : List (Nat × Nat)} {R : List Nat} (h : ∀ x ∈ R, x < ts.length) {i : Nat} (hi : i < R.length) : ∃ x e, R[i]? = some x ∧ ts[x]? = some e := by
  have e1 : R[i]? = some R[i] := List.getElem?_eq_getElem hi
  exact ⟨_, _, e1, List.getElem?_eq_getElem (h _ (List.getElem_mem hi))⟩
theorem len_nz (R : List Nat) : (nz R).length = R.length := List.length_map ..
section
variable {P : Program} {w : World} {K : PySem.W.Frag} {mg : Str → Option Value} {base : Heap} {C : Addr}
def sp_go_on (_ : PySem.W.Frag) (C : Addr) : Sp := fun vs H Q _ => ∃ a N ts v o, ∃ m : Int, vs = [.ref a, v, .int m] ∧ WebAt C a N ts H ∧ Val H v o ∧ (∀ os, o = some os → (os.length : Int) ≤ m ∧ os.length ≤ 1000) ∧ ∀ b H', (b = true ↔ IsWalk ts o) → Same H H' → Q (.bl b) H'
theorem ok_go_on (D : Def K mg "_go_on" s_go_on ["web", "value", "longest"]) (B : Bs mg) (Glb : Glo mg) (WK : WebK K mg C)
    (his_listed : Good P w K mg base "is_listed" sis_listed ["value"] 1 (spis_listed K C))
    (his_between : Good P w K mg base "is_between" sis_between ["value", "least", "most"] 2 (spis_between K C))
    (hare_numbers : Good P w K mg base "are_numbers" sare_numbers ["web", "value"] 4 (spare_numbers K C))
    (hWeb_ties : GoodM P w K mg base C "ties" "Web.ties" sWeb_ties ["self"] 1 (spWeb_ties K C)) :
    Good P w K mg base "_go_on" s_go_on ["web", "value", "longest"] 5 (sp_go_on K C) := by
  refine D.good fun f fd F => ?_
  obtain ⟨fis_listed, dis_listed, Ois_listed, mis_listed, kis_listed, bis_listed, Fis_listed⟩ := his_listed
  obtain ⟨fis_between, dis_between, Ois_between, mis_between, kis_between, bis_between, Fis_between⟩ := his_between
  obtain ⟨fare_numbers, dare_numbers, Oare_numbers, mare_numbers, kare_numbers, bare_numbers, Fare_numbers⟩ := hare_numbers
  obtain ⟨fWeb_ties, dWeb_ties, OWeb_ties, tWeb_ties, bWeb_ties, FWeb_ties⟩ := hWeb_ties
  refine F.ok sc_go_on (fun vs H Q E h => ?_) (fun cdv A outer s H vs Q E hr h => ?_)
  · obtain ⟨a, N, ts, v, o, m, rfl, hw, hv, hm, q⟩ := h
    first | rfl | (rcases h with ⟨_, _, rfl, _⟩ | ⟨_, rfl, _⟩ <;> rfl)
  obtain ⟨a, N, ts, v, o, m, rfl, hw, hv, hm, q⟩ := h
  refine ⟨_, (pss_cons (ps_if (PW.pt (pw_or (pt_not (pt_val (pe_call Ois_listed (hr.mono (by decide)) rfl mis_listed kis_listed bis_listed .nil pass0 (pa_cons (pv 1) pa_nil)))) (pw_or (pt_not (pt_val (pe_call Ois_between (hr.mono (by decide)) rfl mis_between kis_between bis_between .nil pass0 (pa_cons (pe_callB call_len_seq (by rfl) B.len (by decide +kernel) (pa_cons (pv 1) pa_nil)) (pa_cons pe_int (pa_cons (pv 2) pa_nil)))))) (pw_or1 (pt_not (pt_val (pe_call Oare_numbers hr rfl mare_numbers kare_numbers bare_numbers .nil pass0 (pa_cons (pv 0) (pa_cons (pv 1) pa_nil)))))))))
    (pss_one (ps_ret pe_bl)) pss_nil)
  (pss_cons (ps_set (i := 3) sc_go_on.nd rfl (by first | exact Or.inl rfl | exact Or.inr rfl) (pe_meth0 (pv 0) WK.cl tWeb_ties OWeb_ties (hr.mono (by decide)) bWeb_ties .nil pass0))
  (pss_cons (ps_for PassesOwn.never rfl (pi_range2 (by rfl) B.range (pa_cons pe_int (pa_cons (pe_callB call_len_seq (by rfl) B.len (by decide +kernel) (pa_cons (pv 1) pa_nil)) pa_nil))) (pg_name (i := 4) sc_go_on.nd rfl (by first | exact Or.inl rfl | exact Or.inr rfl))
    (pss_one (ps_if (pt_cmpR op_ne (pe_ix ix_tup (pe_ix ix_list (pv 3) (pe_ix ix_seq (pv 1) (pv 4) (fun _ _ => rfl)) (fun _ _ => rfl)) pe_int (fun _ _ => rfl)) (pe_ix ix_tup (pe_ix ix_list (pv 3) (pe_ix ix_seq (pv 1) (pe_op op_sub (pv 4) pe_int) (fun _ _ => rfl)) (fun _ _ => rfl)) pe_int (fun _ _ => rfl)) (nomark _))
    (pss_one (ps_ret pe_bl)) pss_nil)))
  (pss_one (ps_ret pe_bl))))), ?_⟩
  refine ⟨_, rfl, v, o, rfl, hv, fun H1 hS1 => ⟨_, rfl, ?_⟩⟩
  have no : ∀ H', ¬ IsWalk ts o → Same H H' → Q (.bl false) H' := fun H' h => q false H' ⟨(fun z => nomatch z), fun z => absurd z h⟩
  cases o with
  | none => exact iteT (no H1 (fun ⟨R, e, _⟩ => nomatch e) hS1)
  | some os =>
    refine iteF ?_
    obtain ⟨hm1, hm2⟩ := hm os rfl
    have hv1 := hv.same hS1
    obtain ⟨s, xs, rfl, hx, hP⟩ := hv1.list
    have hxl := paired_len hP
    refine ⟨_, rfl, s, xs, rfl, hx.imp SqL.of SqT.of, _, rfl, .int (xs.length : Int), some (xs.length : Int), 1, m, rfl, .int _, _, rfl, ?_⟩
    by_cases c0 : xs.length = 0
    · refine iteNbF (by show (decide ((1 : Int) ≤ (xs.length : Int)) && decide ((xs.length : Int) ≤ m)) = false; rw [decide_eq_false (show ¬ (1 : Int) ≤ (xs.length : Int) by omega)]; rfl) (no H1 (fun h => ?_) hS1)
      obtain ⟨R, e, hc⟩ := h
      have := hc.n0
      have e2 := congrArg List.length (Option.some.inj e)
      rw [len_nz] at e2
      omega
    refine iteNb (btw (by omega) (by omega)) ?_
    refine ⟨_, rfl, _, rfl, a, N, ts, .ref s, some os, rfl, hw.same hS1, hv1, fun H2 hS2 => ⟨_, rfl, ?_⟩⟩
    have hS12 := hS1.trans hS2
    cases c1 : NumS ts.length (some os) with
    | false =>
      refine iteT (no H2 (fun h => ?_) hS12)
      obtain ⟨R, e, hc⟩ := h
      cases e
      have : (nz R).all (inR ts.length) = true := by
        rw [List.all_eq_true]
        intro o ho
        obtain ⟨n, hn, rfl⟩ := List.mem_map.mp ho
        exact inR_lt (hc.num n hn)
      rw [show NumS ts.length (some (nz R)) = (nz R).all (inR ts.length) from rfl, this] at c1
      cases c1
    | true =>
      refine iteF ?_
      obtain ⟨R, rfl, hR⟩ := nums_of (n := ts.length) (os := os) c1
      obtain ⟨s', e', hs1⟩ := hv1.seqAt
      cases e'
      rw [len_nz] at hxl hm1 hm2
      have hw2 := hw.same hS12
      obtain ⟨dx, tl, fl, ol, g1, _⟩ := id hw2
      refine ⟨_, rfl, a, dx, _, rfl, g1, wf_no _ _ _ _ (by decide +kernel) (by decide +kernel) (by decide +kernel) (by decide +kernel), a, N, ts, rfl, hw2, fun H3 l nl hS3 hT => ?_⟩
      have hs3 := (hs1.same hS2).same hS3
      have hS13 := hS12.trans hS3
      refine ⟨_, rfl, s, _, rfl, hs3.seq, _, _, rfl, ⟨by omega, by omega, by rw [List.length_map]; omega, by rw [List.length_map]; omega⟩, ?_⟩
      rw [List.length_map, show ((R.length : Int) - 1).toNat = R.length - 1 by omega]
      refine for_range (lo := 1) (n := R.length - 1) (fun i σ H' => H' = H3 ∧ (∀ j, j < i → OnAt ts R j) ∧ ∃ v, σ = [some (.ref a), some (.ref s), some (.int m), some (.ref l), v]) ⟨rfl, fun j h => by omega, none, rfl⟩ ?_ ?_
      · rintro i σ H4 hi ⟨rfl, hon, v, rfl⟩
        rw [show (1 : Int) + (i : Int) = ((i + 1 : Nat) : Int) by omega]
        obtain ⟨x, e, e1, e3⟩ := ends_get hR (i := i) (by omega)
        obtain ⟨y, f, e2, e4⟩ := ends_get hR (i := i + 1) (by omega)
        obtain ⟨xs, p, k1, k2, k3⟩ := hT.at_ e4
        obtain ⟨xs', p', k1', k2', k3'⟩ := hT.at_ e3
        refine ⟨_, rfl, _, rfl, _, rfl, hs3.ix (iv_at e2) ⟨_, _, _, _, rfl, rfl, SqL.of k1, k2, _, _, _, _, rfl, rfl, SqT.of k3, rfl, ?_⟩⟩
        refine ⟨_, rfl, _, rfl, _, rfl, _, _, rfl, rfl, hs3.ix (by rw [show ((i + 1 : Nat) : Int) - 1 = (i : Int) by omega]; exact iv_at e1) ⟨_, _, _, _, rfl, rfl, SqL.of k1', k2', _, _, _, _, rfl, rfl, SqT.of k3', rfl, rfl, _, rfl, ?_⟩⟩
        by_cases c2 : f.1 = e.2
        · refine iteNot' (by rw [c2]) ⟨rfl, fun j hj => ?_, _, rfl⟩
          by_cases z : j = i
          · subst z; exact ⟨x, y, e, f, e1, e2, e3, e4, c2⟩
          · exact hon j (by omega)
        · refine iteNot (fun z => c2 (by have := int_eq.mp z; omega)) (no H4 (fun h => c2 ?_) hS13)
          obtain ⟨x', y', e', f', r1, r2, r3, r4, r5⟩ := (walk_nz.mp h).on i (by omega)
          rw [e1] at r1
          rw [e2] at r2
          cases r1
          cases r2
          rw [e3] at r3
          rw [e4] at r4
          cases r3
          cases r4
          exact r5
      · rintro σ H4 ⟨rfl, hon, v, rfl⟩
        exact q true H4 ⟨fun _ => walk_nz.mpr ⟨by omega, hR, fun i hi => hon i (by omega)⟩, fun _ => rfl⟩ hS13
def spis_walk (_ : PySem.W.Frag) (C : Addr) : Sp := fun vs H Q _ => ∃ a N ts v o, vs = [.ref a, v] ∧ WebAt C a N ts H ∧ Val H v o ∧ (∀ os, o = some os → os.length ≤ 400) ∧ ∀ b H', (b = true ↔ IsWalk ts o) → Same H H' → Q (.bl b) H'
theorem okis_walk (D : Def K mg "is_walk" sis_walk ["web", "value"]) (B : Bs mg) (Glb : Glo mg) (WK : WebK K mg C)
    (hneed_web : Good P w K mg base "need_web" sneed_web ["web"] 3 (spneed_web K C))
    (h_go_on : Good P w K mg base "_go_on" s_go_on ["web", "value", "longest"] 5 (sp_go_on K C)) :
    Good P w K mg base "is_walk" sis_walk ["web", "value"] 6 (spis_walk K C) := by
  refine D.good fun f fd F => ?_
  obtain ⟨fneed_web, dneed_web, Oneed_web, mneed_web, kneed_web, bneed_web, Fneed_web⟩ := hneed_web
  obtain ⟨f_go_on, d_go_on, O_go_on, m_go_on, k_go_on, b_go_on, F_go_on⟩ := h_go_on
  refine F.ok scis_walk (fun vs H Q E h => ?_) (fun cdv A outer s H vs Q E hr h => ?_)
  · obtain ⟨a, N, ts, v, o, rfl, hw, hv, hm, q⟩ := h
    first | rfl | (rcases h with ⟨_, _, rfl, _⟩ | ⟨_, rfl, _⟩ <;> rfl)
  obtain ⟨a, N, ts, v, o, rfl, hw, hv, hm, q⟩ := h
  refine ⟨_, (pss_cons (ps_expr (pe_call Oneed_web (hr.mono (by decide)) rfl mneed_web kneed_web bneed_web .nil pass0 (pa_cons (pv 0) pa_nil)))
  (pss_one (ps_ret (pe_call O_go_on hr rfl m_go_on k_go_on b_go_on .nil pass0 (pa_cons (pv 0) (pa_cons (pv 1) (pa_cons (pe_globI Glb.LONGEST_WALK) pa_nil))))))), ?_⟩
  exact ⟨_, rfl, a, N, ts, rfl, hw, _, rfl, _, rfl, a, N, ts, v, o, 400, rfl, hw, hv, fun os e => by have := hm os e; omega, q⟩
def spneed_walk (_ : PySem.W.Frag) (C : Addr) : Sp := fun vs H Q _ => ∃ a N ts s R, vs = [.ref a, .ref s] ∧ WebAt C a N ts H ∧ SeqAt H s R ∧ Chain ts R ∧ R.length ≤ 400 ∧ ∀ H', Same H H' → Q .non H'
theorem okneed_walk (D : Def K mg "need_walk" sneed_walk ["web", "walk"]) (B : Bs mg) (Glb : Glo mg) (WK : WebK K mg C)
    (his_walk : Good P w K mg base "is_walk" sis_walk ["web", "value"] 6 (spis_walk K C)) :
    Good P w K mg base "need_walk" sneed_walk ["web", "walk"] 7 (spneed_walk K C) := by
  refine D.good fun f fd F => ?_
  obtain ⟨fis_walk, dis_walk, Ois_walk, mis_walk, kis_walk, bis_walk, Fis_walk⟩ := his_walk
  refine F.ok scneed_walk (fun vs H Q E h => ?_) (fun cdv A outer s H vs Q E hr h => ?_)
  · obtain ⟨a, N, ts, s, R, rfl, hw, hs, hc, h4, q⟩ := h
    first | rfl | (rcases h with ⟨_, _, rfl, _⟩ | ⟨_, rfl, _⟩ <;> rfl)
  obtain ⟨a, N, ts, s, R, rfl, hw, hs, hc, h4, q⟩ := h
  refine ⟨_, (pss_one (ps_if (pt_not (pt_val (pe_call Ois_walk hr rfl mis_walk kis_walk bis_walk .nil pass0 (pa_cons (pv 0) (pa_cons (pv 1) pa_nil)))))
    (pss_one ps_never) pss_nil)), ?_⟩
  refine ⟨_, rfl, _, rfl, a, N, ts, .ref s, _, rfl, hw, hs.val, fun os e => by cases e; rw [len_nz]; exact h4, fun b H1 hb' hS1 => ⟨_, rfl, ?_⟩⟩
  rw [hb'.mpr (walk_nz.mpr hc)]
  exact iteF (q H1 hS1)
end
end My
namespace My
open PySem L2 PyProof.Rows
def PotOk (x y : Int) : Prop := 0 ≤ x ∧ 0 ≤ y ∧ y < 2147483648
def PotAt (H : Hp) (a : Addr) : Prop := ∃ x y : Int, H a = some (.lst [.int x, .int y]) ∧ PotOk x y
theorem PotAt.new {H : Hp} {a p : Addr} {o : HO} (h : PotAt H a) (np : H p = none) : PotAt (upd H p o) a := by
  obtain ⟨x, y, e, h⟩ := h
  exact ⟨x, y, by rw [upd_ne (ne_of_none e np)]; exact e, h⟩
theorem PotAt.put {H : Hp} {a p : Addr} {o : HO} (h : PotAt H a) (np : p ≠ a) : PotAt (upd H p o) a := by
  obtain ⟨x, y, e, h⟩ := h
  exact ⟨x, y, by rw [upd_ne np.symm]; exact e, h⟩
theorem PotAt.same {H H' : Hp} {a : Addr} (h : PotAt H a) (s : Same H H') : PotAt H' a := by
  obtain ⟨x, y, e, h⟩ := h
  exact ⟨x, y, s _ _ e, h⟩
theorem PotAt.ne {H : Hp} {a p : Addr} (h : PotAt H a) (np : H p = none) : p ≠ a := by
  obtain ⟨x, y, e, h⟩ := h
  exact (ne_of_none e np).symm
theorem PotAt.ntup {H : Hp} {a p : Addr} {xs : List V} (h : PotAt H a) (hp : H p = some (.tup xs)) : p ≠ a := by
  obtain ⟨x, y, e, h⟩ := h
  exact ne_of hp e (by intro q; cases q)
theorem Kept.new {H H' : Hp} {a p : Addr} {o : HO} (h : Kept a H H') (np : H' p = none) : Kept a H (upd H' p o) := h.trans (Same.kept (same_new np o))
theorem Kept.put {H H' : Hp} {a p : Addr} {o : HO} (h : Kept a H H') (np : H p = none) : Kept a H (upd H' p o) := fun b u e n => by
  rw [upd_ne (ne_of_none e np)]
  exact h b u e n
theorem TiesAt.kept {H H' : Hp} {a t : Addr} {ts : List (Nat × Nat)} (h : TiesAt H t ts) (k : Kept a H H') (hp : PotAt H a) (hn : t ≠ a) : TiesAt H' t ts := by
  obtain ⟨tas, h1, h2⟩ := h
  exact ⟨tas, k _ _ h1 hn, paired_mono (fun p e hq => k _ _ hq (hp.ntup hq)) h2⟩
theorem paired_app {α β : Type} {F : α → β → Prop} {a : α} {b : β} : ∀ {l1 : List α} {l2 : List β}, Paired F l1 l2 → F a b → Paired F (l1 ++ [a]) (l2 ++ [b])
  | _, _, .nil, h => .cons h .nil
  | _, _, .cons r t, h => .cons r (paired_app t h)
theorem paired_apps {α β : Type} {F : α → β → Prop} : ∀ {l1 m1 : List α} {l2 m2 : List β}, Paired F l1 l2 → Paired F m1 m2 → Paired F (l1 ++ m1) (l2 ++ m2)
  | _, _, _, _, .nil, h => h
  | _, _, _, _, .cons r t, h => .cons r (paired_apps t h)
theorem paired_rev {α β : Type} {F : α → β → Prop} : ∀ {l1 : List α} {l2 : List β}, Paired F l1 l2 → Paired F l1.reverse l2.reverse
  | _, _, .nil => .nil
  | _, _, .cons r t => by
    rw [List.reverse_cons, List.reverse_cons]
    exact paired_app (paired_rev t) r
theorem TiesAt.push {H : Hp} {p tp : Addr} {ts : List (Nat × Nat)} {u v : Nat} (h : TiesAt H p ts) (nt : H tp = none) :
    ∃ xs, (upd H tp (.tup [.int (u : Int), .int (v : Int)])) p = some (.lst xs) ∧ xs.length = ts.length ∧ TiesAt (upd (upd H tp (.tup [.int (u : Int), .int (v : Int)])) p (.lst (xs ++ [.ref tp]))) p (ts ++ [(u, v)]) := by
  obtain ⟨tas, h1, h2⟩ := h
  have npt : p ≠ tp := ne_of_none h1 nt
  refine ⟨tas.map V.ref, by rw [upd_ne npt]; exact h1, by rw [List.length_map]; exact paired_len h2, tas ++ [tp], by rw [upd_same, List.map_append]; rfl, paired_app (paired_mono (fun q e hq => ?_) h2) ?_⟩
  · have nqp : q ≠ p := ne_of hq h1 (by intro z; cases z)
    show upd _ _ _ q = _
    rw [upd_ne nqp, upd_ne (ne_of_none hq nt)]
    exact hq
  · show upd _ _ _ tp = _
    rw [upd_ne npt.symm, upd_same]
theorem TiesAt.pushV {H : Hp} {p tp : Addr} {ts : List (Nat × Nat)} {u v : Nat} {x y : V} (hx : x = .int (u : Int)) (hy : y = .int (v : Int)) (h : TiesAt H p ts) (nt : H tp = none) :
    ∃ xs, (upd H tp (.tup [x, y])) p = some (.lst xs) ∧ xs.length = ts.length ∧ TiesAt (upd (upd H tp (.tup [x, y])) p (.lst (xs ++ [.ref tp]))) p (ts ++ [(u, v)]) := by
  subst hx hy
  exact h.push nt
theorem TiesAt.nil {H : Hp} {p : Addr} : TiesAt (upd H p (.lst [])) p [] := ⟨[], upd_same, .nil⟩
theorem TiesAt.cat {H : Hp} {l m p : Addr} {ts us : List (Nat × Nat)} (h : TiesAt H l ts) (k : TiesAt H m us) (np : H p = none) : ∃ xs zs, H l = some (.lst xs) ∧ H m = some (.lst zs) ∧ xs.length = ts.length ∧ zs.length = us.length ∧ TiesAt (upd H p (.lst (xs ++ zs))) p (ts ++ us) := by
  obtain ⟨tas, h1, h2⟩ := h
  obtain ⟨uas, k1, k2⟩ := k
  refine ⟨_, _, h1, k1, by rw [List.length_map]; exact paired_len h2, by rw [List.length_map]; exact paired_len k2, tas ++ uas, by rw [upd_same, List.map_append], paired_mono (fun q e hq => ?_) (paired_apps h2 k2)⟩
  exact same_new np _ _ _ hq
theorem TiesAt.get {H : Hp} {l : Addr} {ts : List (Nat × Nat)} (h : TiesAt H l ts) : ∃ xs, H l = some (.lst xs) ∧ xs.length = ts.length := by
  obtain ⟨tas, h1, h2⟩ := h
  exact ⟨_, h1, by rw [List.length_map]; exact paired_len h2⟩
theorem TiesAt.new {H : Hp} {l p : Addr} {ts : List (Nat × Nat)} {o : HO} (h : TiesAt H l ts) (np : H p = none) : TiesAt (upd H p o) l ts := h.same (same_new np o)
theorem TiesAt.rev {H : Hp} {l p : Addr} {ts : List (Nat × Nat)} (h : TiesAt H l ts) (np : H p = none) : ∃ xs, H l = some (.lst xs) ∧ TiesAt (upd H p (.lst xs.reverse)) p ts.reverse := by
  obtain ⟨tas, h1, h2⟩ := h
  refine ⟨_, h1, tas.reverse, by rw [upd_same, List.map_reverse], paired_mono (fun q e hq => same_new np _ _ _ hq) (paired_rev h2)⟩
theorem TiesAt.catOne {H : Hp} {l p : Addr} {ts : List (Nat × Nat)} {tp : Addr} {u v : Nat} (h : TiesAt H l ts) (ht : H tp = some (.tup [.int (u : Int), .int (v : Int)])) (np : H p = none) :
    ∃ xs, H l = some (.lst xs) ∧ xs.length = ts.length ∧ TiesAt (upd H p (.lst (xs ++ [.ref tp]))) p (ts ++ [(u, v)]) := by
  obtain ⟨tas, h1, h2⟩ := h
  refine ⟨_, h1, by rw [List.length_map]; exact paired_len h2, tas ++ [tp], by rw [upd_same, List.map_append]; rfl, paired_app (paired_mono (fun q e hq => same_new np _ _ _ hq) h2) (same_new np _ _ _ ht)⟩
theorem Kept.free {a p : Addr} {H H' : Hp} (h : Kept a H H') (hn : H' p = none) (np : p ≠ a) : H p = none := by
  cases e : H p with
  | none => rfl
  | some o =>
    have := h p o e np
    rw [hn] at this
    cases this
theorem ok_app {N : Nat} {ts us : List (Nat × Nat)} (h : ∀ e ∈ ts, e.1 < N ∧ e.2 < N) (k : ∀ e ∈ us, e.1 < N ∧ e.2 < N) : ∀ e ∈ ts ++ us, e.1 < N ∧ e.2 < N := fun e he => (List.mem_append.mp he).elim (h e) (k e)
theorem ok_one {N u v : Nat} (h1 : u < N) (h2 : v < N) : ∀ e ∈ [(u, v)], e.1 < N ∧ e.2 < N := fun e he => by rw [List.mem_singleton.mp he]; exact ⟨h1, h2⟩
theorem ok_up {N M : Nat} {ts : List (Nat × Nat)} (h : ∀ e ∈ ts, e.1 < N ∧ e.2 < N) (hm : N ≤ M) : ∀ e ∈ ts, e.1 < M ∧ e.2 < M := fun e he => ⟨Nat.lt_of_lt_of_le (h e he).1 hm, Nat.lt_of_lt_of_le (h e he).2 hm⟩
theorem dp_iv {K : PySem.W.Frag} {H : Hp} {p : Addr} {L : List Nat} (h : H p = some (.lst (iv L))) : Dp K H (.ref p) (dz (L.map fun n : Nat => (n : Int))) := dp_iz (by rw [← iv_iz]; exact h)
/-! ### lists of ties compared with the empty list -/
abbrev tzD (e : Nat × Nat) : PyData := .tuple [.int (e.1 : Int), .int (e.2 : Int)]
abbrev tz (ts : List (Nat × Nat)) : PyData := .list (ts.map tzD)
theorem dpAll_tz {K : PySem.W.Frag} {H : Hp} : ∀ {tas : List Addr} {ts : List (Nat × Nat)}, Paired (TupAt H) tas ts → DpAll K H (tas.map V.ref) (ts.map tzD)
  | _, _, .nil => .nil
  | _, _, .cons h r => .cons (.tup (SqT.of h) (.cons (.int _) (.cons (.int _) .nil))) (dpAll_tz r)
theorem dp_tz {K : PySem.W.Frag} {H : Hp} {t : Addr} {ts : List (Nat × Nat)} (h : TiesAt H t ts) : Dp K H (.ref t) (tz ts) := by
  obtain ⟨tas, h1, h2⟩ := h
  exact .lst (SqL.of h1) (dpAll_tz h2)
theorem layAll_tz : ∀ ts : List (Nat × Nat), PyData.canLayAll0 (ts.map tzD) = true
  | [] => rfl
  | e :: r => by
    show (PyData.canLay0 (tzD e) && PyData.canLayAll0 (r.map tzD)) = true
    rw [layAll_tz r]
    rfl
theorem depthAll_tz (e : Nat × Nat) : ∀ r : List (Nat × Nat), PyData.depthAll ((e :: r).map tzD) = 1
  | [] => rfl
  | f :: r => by
    show max (PyData.depth (tzD e)) (PyData.depthAll ((f :: r).map tzD)) = 1
    rw [depthAll_tz f r]
    rfl
theorem shaped_tz : ∀ ts : List (Nat × Nat), SeqAt.shaped (tz ts) = true
  | [] => shaped_iz []
  | e :: r => by
    unfold SeqAt.shaped
    have h1 : PyData.canLay0 (tz (e :: r)) = true := by
      show PyData.canLay0 (.list ((e :: r).map tzD)) = true
      unfold PyData.canLay0
      exact layAll_tz _
    have h2 : PyData.depth (tz (e :: r)) = 2 := by
      show PyData.depth (.list ((e :: r).map tzD)) = 2
      unfold PyData.depth
      rw [depthAll_tz]
    rw [h1, h2]
    rfl
theorem eqv_tz (ts : List (Nat × Nat)) : PyData.eqv (tz ts) (dz []) = decide (ts = []) := by
  cases ts with
  | nil => rfl
  | cons n r => rfl
def StepsAt (H : Hp) (l : Addr) (ts : List (Nat × Nat)) : Prop := ∃ sas : List Addr, H l = some (.lst (sas.map V.ref)) ∧ sas.length = ts.length ∧ ∀ (i u v : Nat), ts[i]? = some (u, v) → ∃ p : Addr, sas[i]? = some p ∧ H p = some (.tup [.int (u : Int), .int (v : Int), .int (i : Int)])
def swaps (ts : List (Nat × Nat)) : List (Nat × Nat) := ts.map fun e => (e.2, e.1)
def BackTo (H0 : Hp) (l : Addr) (ts : List (Nat × Nat)) (i : Nat) (H : Hp) : Prop := Same H0 H ∧ TiesAt H l (swaps (ts.take i))
theorem take_snocE {α : Type} {L : List α} {i : Nat} {e : α} (h : L[i]? = some e) : L.take (i + 1) = L.take i ++ [e] := by
  rw [List.take_succ, h]
  rfl
theorem steps_nil {H : Hp} {l : Addr} : StepsAt (upd H l (.lst [])) l [] := ⟨[], upd_same, rfl, fun i u v h => by simp at h⟩
theorem StepsAt.same {H H' : Hp} {l : Addr} {ts : List (Nat × Nat)} (h : StepsAt H l ts) (s : Same H H') : StepsAt H' l ts := by
  obtain ⟨sas, h1, h2, h3⟩ := h
  exact ⟨sas, s _ _ h1, h2, fun i u v e => by obtain ⟨p, a, b⟩ := h3 i u v e; exact ⟨p, a, s _ _ b⟩⟩
theorem StepsAt.push {H : Hp} {l tp : Addr} {ts : List (Nat × Nat)} {u v : Nat} (h : StepsAt H l ts) (nt : H tp = none) :
    ∃ xs, (upd H tp (.tup [.int (u : Int), .int (v : Int), .int (ts.length : Int)])) l = some (.lst xs) ∧ xs.length = ts.length ∧ StepsAt (upd (upd H tp (.tup [.int (u : Int), .int (v : Int), .int (ts.length : Int)])) l (.lst (xs ++ [.ref tp]))) l (ts ++ [(u, v)]) := by
  obtain ⟨sas, h1, h2, h3⟩ := h
  have nlt : l ≠ tp := ne_of_none h1 nt
  refine ⟨sas.map V.ref, by rw [upd_ne nlt]; exact h1, by rw [List.length_map]; exact h2, sas ++ [tp], by rw [upd_same, List.map_append]; rfl, by simp [h2], fun i a b e => ?_⟩
  by_cases c : i < ts.length
  · rw [List.getElem?_append_left c] at e
    obtain ⟨p, g1, g2⟩ := h3 i a b e
    have np : p ≠ l := ne_of g2 h1 (by intro z; cases z)
    refine ⟨p, by rw [List.getElem?_append_left (by omega)]; exact g1, ?_⟩
    rw [upd_ne np, upd_ne (ne_of_none g2 nt)]
    exact g2
  · have hl := (List.getElem?_eq_some_iff.mp e).1
    rw [List.length_append, List.length_singleton] at hl
    have ei : i = ts.length := by omega
    subst ei
    rw [List.getElem?_append_right (Nat.le_refl _), Nat.sub_self] at e
    cases e
    refine ⟨tp, by rw [← h2, List.getElem?_append_right (Nat.le_refl _), Nat.sub_self]; rfl, ?_⟩
    rw [upd_ne nlt.symm, upd_same]
theorem okWeb_swaps {N : Nat} {ts : List (Nat × Nat)} (h : OkWeb N ts) : OkWeb N (swaps ts) := by
  refine ⟨h.n0, h.n1, by unfold swaps; rw [List.length_map]; exact h.m, fun e he => ?_⟩
  obtain ⟨f, hf, rfl⟩ := List.mem_map.mp he
  exact ⟨(h.ok f hf).2, (h.ok f hf).1⟩
section
variable {P : Program} {w : World} {K : PySem.W.Frag} {mg : Str → Option Value} {base : Heap} {C : Addr}
def spweb_steps (_ : PySem.W.Frag) (C : Addr) : Sp := fun vs H Q _ => ∃ a N ts, vs = [.ref a] ∧ WebAt C a N ts H ∧ OkWeb N ts ∧ ∀ H' l, H l = none → Same H H' → StepsAt H' l ts → Q (.ref l) H'
theorem okweb_steps (D : Def K mg "web_steps" sweb_steps ["web"]) (B : Bs mg) (Glb : Glo mg) (WK : WebK K mg C)
    (hWeb_ties : GoodM P w K mg base C "ties" "Web.ties" sWeb_ties ["self"] 1 (spWeb_ties K C)) :
    Good P w K mg base "web_steps" sweb_steps ["web"] 3 (spweb_steps K C) := by
  refine D.good fun f fd F => ?_
  obtain ⟨fWeb_ties, dWeb_ties, OWeb_ties, tWeb_ties, bWeb_ties, FWeb_ties⟩ := hWeb_ties
  refine F.ok scweb_steps (fun vs H Q E h => ?_) (fun cdv A outer s H vs Q E hr h => ?_)
  · obtain ⟨a, N, ts, rfl, hw, ho, q⟩ := h
    first | rfl | (rcases h with ⟨_, _, rfl, _⟩ | ⟨_, rfl, _⟩ <;> rfl)
  obtain ⟨a, N, ts, rfl, hw, ho, q⟩ := h
  refine ⟨_, (pss_one (ps_ret (pe_lc (own := [("tie", 1), ("near", 2), ("far", 3)]) (g := gTup K 2 (gCons (gName 1) (gCons (gTup K 2 (gCons (gName 2) (gCons (gName 3) gNil))) gNil))) (by rfl) scweb_steps.nd (pi_enum (by rfl) B.enumerate (pa_cons (pe_meth0 (pv 0) WK.cl tWeb_ties OWeb_ties (hr.mono (by decide)) bWeb_ties .nil pass0) pa_nil)) (blkOk_by (own := [("tie", 1), ("near", 2), ("far", 3)]) (N := ["web", "tie", "near", "far"]) (sc := defScope sweb_steps) (by decide +kernel)) (fun _ _ _ _ _ => (pg_tup rfl (pgs_cons (pg_name (i := 1) scweb_steps.nd rfl (by first | exact Or.inl rfl | exact Or.inr rfl)) (pgs_cons (pg_tup rfl (pgs_cons (pg_name (i := 2) scweb_steps.nd rfl (by first | exact Or.inl rfl | exact Or.inr rfl)) (pgs_cons (pg_name (i := 3) scweb_steps.nd rfl (by first | exact Or.inl rfl | exact Or.inr rfl)) pgs_nil))) pgs_nil)))) (fun _ _ _ _ _ => pts_nil) (fun _ _ _ _ _ => (pe_tup (pa_cons (pv 2) (pa_cons (pv 3) (pa_cons (pv 1) pa_nil)))))))), ?_⟩
  obtain ⟨dx, tl, fl, ol, h1, h23⟩ := id hw
  refine ⟨_, rfl, a, dx, _, rfl, h1, (by rfl), a, N, ts, rfl, hw, fun H1 l nl hS1 ⟨tas, hl, hP⟩ => ?_⟩
  refine ⟨l, _, rfl, SqL.of hl, fun D nD => ?_⟩
  have nD0 : H D = none := hS1.free nD
  refine lc_it (walk_enum (K := K) (a := l) (xs := tas.map V.ref)) (fun i H' => Same H1 H' ∧ StepsAt H' D (ts.take i)) ⟨same_new nD _, steps_nil⟩ (fun i H' _ ⟨hS', _⟩ => SqL.of (hS' _ _ hl)) ?_ ?_
  · rintro i x H3 H4 hi ⟨hS3, hD3⟩ ⟨T0, x1, x2, rfl, nT0, rfl, e1, e2⟩
    cases e1
    rw [List.length_map] at hi
    replace e2 : (tas.map V.ref)[i]? = some x2 := e2
    rw [List.getElem?_map, List.getElem?_eq_getElem hi] at e2
    cases e2
    obtain ⟨⟨u, v⟩, he, hpe⟩ := paired_get hP (List.getElem?_eq_getElem hi)
    have hlt := (List.getElem?_eq_some_iff.mp he).1
    have hm := ho.m
    have hS4 : Same H1 (upd H3 T0 (.tup [.int (i : Int), .ref tas[i]])) := fun b o e => same_new nT0 _ _ _ (hS3 _ _ e)
    have hD4 := hD3.same (same_new nT0 (.tup [.int (i : Int), .ref tas[i]]))
    have hT4 : (upd H3 T0 (.tup [.int (i : Int), .ref tas[i]])) T0 = some (.tup [.int (i : Int), .ref tas[i]]) := upd_same
    generalize upd H3 T0 (.tup [.int (i : Int), .ref tas[i]]) = H4 at hS4 hD4 hT4
    have hp4 : H4 tas[i] = some (.tup [.int (u : Int), .int (v : Int)]) := hS4 _ _ hpe
    refine ⟨T0, _, rfl, SqT.of hT4, rfl, _, _, rfl, _, _, rfl, ⟨tas[i], _, rfl, SqT.of hp4, rfl, _, _, rfl, _, _, rfl, rfl, rfl, ?_⟩⟩
    refine ⟨rfl, _, rfl, _, rfl, _, rfl, (by show 3 ≤ sizeLine; decide), fun tp ntp => ?_⟩
    have hlen : (ts.take i).length = i := by rw [List.length_take]; omega
    obtain ⟨xs, g1, g2, g3⟩ := hD4.push (u := u) (v := v) ntp
    rw [hlen] at g1 g2 g3
    refine ⟨xs, g1, by rw [g2]; exact Nat.lt_of_lt_of_le (by omega : i < 1000) (by decide), same_upd (fun b o e => same_new ntp _ _ _ (hS4 _ _ e)) nD, ?_⟩
    rw [take_snocE he]
    exact g3
  · rintro H3 ⟨hS3, hD3⟩
    rw [List.length_map, paired_len hP, List.take_length] at hD3
    exact q H3 D nD0 (fun b o e => hS3 _ _ (hS1 _ _ e)) hD3
end
end My
namespace My
/-! ### webs: ties, walks by their lengths -/
def Edge (ts : List (Nat × Nat)) (W : List Nat) (u v : Nat) : Prop := ∃ i, ts[i]? = some (u, v) ∧ i ∉ W
inductive Wk (E : Nat → Nat → Prop) : Nat → Nat → Nat → Prop where
  | nil (u : Nat) : Wk E 0 u u
  | snoc {k u x v : Nat} : Wk E k u x → E x v → Wk E (k + 1) u v
theorem wk_zero {E : Nat → Nat → Prop} {u v : Nat} (h : Wk E 0 u v) : v = u := by cases h; rfl
theorem wk_succ {E : Nat → Nat → Prop} {k u v : Nat} (h : Wk E (k + 1) u v) : ∃ x, Wk E k u x ∧ E x v := by
  cases h with
  | snoc a b => exact ⟨_, a, b⟩
theorem wk_append {E : Nat → Nat → Prop} {j k u x v : Nat} (a : Wk E j u x) (b : Wk E k x v) : Wk E (j + k) u v := by
  induction b with
  | nil => exact a
  | snoc _ e ih => exact .snoc (ih a) e
theorem wk_split {E : Nat → Nat → Prop} {u v : Nat} : ∀ (k j : Nat), Wk E (j + k) u v → ∃ x, Wk E j u x ∧ Wk E k x v
  | 0, j, h => ⟨v, h, .nil v⟩
  | k + 1, j, h => by
    obtain ⟨y, h1, h2⟩ := wk_succ (show Wk E ((j + k) + 1) u v from h)
    obtain ⟨x, h3, h4⟩ := wk_split k j h1
    exact ⟨x, h3, .snoc h4 h2⟩
def Rch (E : Nat → Nat → Prop) (u v : Nat) : Prop := ∃ k, Wk E k u v
/-- few numbers below N -/
theorem few {N : Nat} : ∀ {L : List Nat}, L.Nodup → (∀ x ∈ L, x < N) → L.length ≤ N := by
  induction N with
  | zero =>
    intro L _ h
    cases L with
    | nil => simp
    | cons a r => exact absurd (h a List.mem_cons_self) (by omega)
  | succ N ih =>
    intro L hn h
    by_cases c : N ∈ L
    · have h1 := ih (L := L.erase N) (hn.erase N) fun x hx => by
        have h2 := (List.Nodup.mem_erase_iff hn).mp hx
        have := h x h2.2
        have := h2.1
        omega
      rw [List.length_erase_of_mem c] at h1
      omega
    · have h1 := ih hn fun x hx => by
        have := h x hx
        have : x ≠ N := fun z => c (by rw [← z]; exact hx)
        omega
      omega
/-! ### coming to -/
structure RInv (E : Nat → Nat → Prop) (s : Nat) (seen waiting : List Nat) : Prop where
  nd : seen.Nodup
  st : s ∈ seen
  sub : ∀ x ∈ waiting, x ∈ seen
  ok : ∀ x ∈ seen, Rch E s x
  cl : ∀ u ∈ seen, u ∉ waiting → ∀ v, E u v → v ∈ seen
/-- while the ties from one place are gone through; D: those that were -/
structure RMid (E : Nat → Nat → Prop) (s here : Nat) (D : Nat → Prop) (seen waiting : List Nat) : Prop where
  nd : seen.Nodup
  st : s ∈ seen
  hh : here ∈ seen
  sub : ∀ x ∈ waiting, x ∈ seen
  ok : ∀ x ∈ seen, Rch E s x
  cl : ∀ u ∈ seen, u ∉ waiting → u ≠ here → ∀ v, E u v → v ∈ seen
  dn : ∀ v, D v → v ∈ seen
theorem r_start {E : Nat → Nat → Prop} (s : Nat) : RInv E s [s] [s] := by
  refine ⟨by simp, by simp, fun x h => h, fun x h => ?_, fun u h hn => absurd h hn⟩
  rw [List.mem_singleton.mp h]
  exact ⟨0, .nil s⟩
theorem r_pop {E : Nat → Nat → Prop} {s : Nat} {seen w : List Nat} {here : Nat} (h : RInv E s seen (w ++ [here])) : RMid E s here (fun _ => False) seen w := by
  refine ⟨h.nd, h.st, h.sub here (by simp), fun x hx => h.sub x (by simp [hx]), h.ok, fun u hu hn hne v hv => ?_, fun v hv => hv.elim⟩
  refine h.cl u hu (fun hm => ?_) v hv
  rcases List.mem_append.mp hm with z | z
  · exact hn z
  · exact hne (List.mem_singleton.mp z)
theorem r_new {E : Nat → Nat → Prop} {s here v : Nat} {D D' : Nat → Prop} {seen w : List Nat} (h : RMid E s here D seen w) (e : E here v) (hv : v ∉ seen) (hD : ∀ x, D' x → D x ∨ x = v) : RMid E s here D' (seen ++ [v]) (w ++ [v]) := by
  refine ⟨?_, by simp [h.st], by simp [h.hh], fun x hx => ?_, fun x hx => ?_, fun u hu hn hne x hx => ?_, fun x hx => ?_⟩
  · rw [List.nodup_append]
    exact ⟨h.nd, by simp, fun a ha b hb => by rw [List.mem_singleton.mp hb]; rintro rfl; exact hv ha⟩
  · rcases List.mem_append.mp hx with z | z
    · exact List.mem_append_left _ (h.sub x z)
    · exact List.mem_append_right _ z
  · rcases List.mem_append.mp hx with z | z
    · exact h.ok x z
    · rw [List.mem_singleton.mp z]
      obtain ⟨k, hk⟩ := h.ok here h.hh
      exact ⟨k + 1, .snoc hk e⟩
  · rcases List.mem_append.mp hu with z | z
    · exact List.mem_append_left _ (h.cl u z (fun m => hn (List.mem_append_left _ m)) hne x hx)
    · exact absurd (List.mem_append_right _ z) hn
  · rcases hD x hx with z | z
    · exact List.mem_append_left _ (h.dn x z)
    · rw [z]; simp
theorem r_old {E : Nat → Nat → Prop} {s here : Nat} {D D' : Nat → Prop} {seen w : List Nat} (h : RMid E s here D seen w) (hD : ∀ x, D' x → D x ∨ x ∈ seen) : RMid E s here D' seen w :=
  ⟨h.nd, h.st, h.hh, h.sub, h.ok, h.cl, fun x hx => (hD x hx).elim (h.dn x) id⟩
theorem r_done {E : Nat → Nat → Prop} {s here : Nat} {D : Nat → Prop} {seen w : List Nat} (h : RMid E s here D seen w) (hD : ∀ v, E here v → D v) : RInv E s seen w := by
  refine ⟨h.nd, h.st, h.sub, h.ok, fun u hu hn v hv => ?_⟩
  by_cases c : u = here
  · subst c
    exact h.dn v (hD v hv)
  · exact h.cl u hu hn c v hv
theorem r_end {E : Nat → Nat → Prop} {s : Nat} {seen : List Nat} (h : RInv E s seen []) (x : Nat) : x ∈ seen ↔ Rch E s x := by
  refine ⟨h.ok x, ?_⟩
  rintro ⟨k, hk⟩
  induction k generalizing x with
  | zero => rw [wk_zero hk]; exact h.st
  | succ k ih =>
    obtain ⟨y, h1, h2⟩ := wk_succ hk
    exact h.cl y (ih y h1) (by simp) x h2
/-! ### the fewest ties, by levels -/
def Few (E : Nat → Nat → Prop) (a b D : Nat) : Prop := 1 ≤ D ∧ Wk E D a b ∧ ∀ k, 1 ≤ k → k < D → ¬ Wk E k a b
structure Lev (E : Nat → Nat → Prop) (a b m : Nat) (here met : List Nat) : Prop where
  mt : ∀ x, x ∈ met ↔ ∃ j, 1 ≤ j ∧ j ≤ m ∧ Wk E j a x
  hr : ∀ x, x ∈ here ↔ Wk E m a x ∧ ∀ j, 1 ≤ j → j < m → ¬ Wk E j a x
  no : b ∉ met
  nd : met.Nodup
theorem lev_start {E : Nat → Nat → Prop} (a b : Nat) : Lev E a b 0 [a] [] := by
  refine ⟨fun x => ⟨fun h => by simp at h, fun ⟨j, h1, h2, _⟩ => by omega⟩, fun x => ⟨fun h => ?_, fun h => ?_⟩, by simp, by simp⟩
  · rw [List.mem_singleton.mp h]
    exact ⟨.nil a, fun j h1 h2 => by omega⟩
  · rw [wk_zero h.1]
    simp
/-- the next level, by what it holds -/
theorem lev_next {E : Nat → Nat → Prop} {a b m : Nat} {here met met' later : List Nat} (h : Lev E a b m here met) (h1 : ∀ x, x ∈ met' ↔ x ∈ met ∨ ∃ u ∈ here, E u x) (h2 : ∀ x, x ∈ later ↔ x ∉ met ∧ ∃ u ∈ here, E u x) :
    (∀ x, x ∈ met' ↔ ∃ j, 1 ≤ j ∧ j ≤ m + 1 ∧ Wk E j a x) ∧ (∀ x, x ∈ later ↔ Wk E (m + 1) a x ∧ ∀ j, 1 ≤ j → j < m + 1 → ¬ Wk E j a x) := by
  have key : ∀ x, Wk E (m + 1) a x → x ∈ met ∨ ∃ u ∈ here, E u x := fun x hx => by
    obtain ⟨u, hu, e⟩ := wk_succ hx
    by_cases c : u ∈ here
    · exact .inr ⟨u, c, e⟩
    · left
      rw [h.hr] at c
      have c2 : ∃ j, 1 ≤ j ∧ j < m ∧ Wk E j a u := by
        by_cases c3 : ∃ j, 1 ≤ j ∧ j < m ∧ Wk E j a u
        · exact c3
        · exact absurd ⟨hu, fun j g1 g2 g3 => c3 ⟨j, g1, g2, g3⟩⟩ c
      obtain ⟨j, g1, g2, g3⟩ := c2
      exact (h.mt x).mpr ⟨j + 1, by omega, by omega, .snoc g3 e⟩
  have here_wk : ∀ x, (∃ u ∈ here, E u x) → Wk E (m + 1) a x := fun x ⟨u, hu, e⟩ => .snoc ((h.hr u).mp hu).1 e
  constructor
  · intro x
    rw [h1]
    constructor
    · rintro (hx | hx)
      · obtain ⟨j, g1, g2, g3⟩ := (h.mt x).mp hx
        exact ⟨j, g1, by omega, g3⟩
      · exact ⟨m + 1, by omega, by omega, here_wk x hx⟩
    · rintro ⟨j, g1, g2, g3⟩
      by_cases c : j ≤ m
      · exact .inl ((h.mt x).mpr ⟨j, g1, c, g3⟩)
      · have e : j = m + 1 := by omega
        subst e
        exact key x g3
  · intro x
    rw [h2]
    constructor
    · rintro ⟨hx, hu⟩
      exact ⟨here_wk x hu, fun j g1 g2 g3 => hx ((h.mt x).mpr ⟨j, g1, by omega, g3⟩)⟩
    · rintro ⟨g1, g2⟩
      have hx : x ∉ met := fun hm => by
        obtain ⟨j, k1, k2, k3⟩ := (h.mt x).mp hm
        exact g2 j k1 (by omega) k3
      exact ⟨hx, (key x g1).resolve_left hx⟩
theorem lev_few {E : Nat → Nat → Prop} {a b m : Nat} {here met met' : List Nat} (h : Lev E a b m here met) (h1 : ∀ x, x ∈ met' ↔ ∃ j, 1 ≤ j ∧ j ≤ m + 1 ∧ Wk E j a x) (hb : b ∈ met') : Few E a b (m + 1) := by
  obtain ⟨j, g1, g2, g3⟩ := (h1 b).mp hb
  have old : ∀ k, 1 ≤ k → k ≤ m → ¬ Wk E k a b := fun k k1 k2 k3 => h.no ((h.mt b).mpr ⟨k, k1, k2, k3⟩)
  have e : j = m + 1 := by
    rcases Nat.lt_or_ge m j with z | z
    · omega
    · exact absurd g3 (old j g1 z)
  subst e
  exact ⟨by omega, g3, fun k k1 k2 => old k k1 (by omega)⟩
theorem lev_none {E : Nat → Nat → Prop} {a b m : Nat} {met : List Nat} (h : Lev E a b m [] met) : ∀ k, 1 ≤ k → ¬ Wk E k a b := by
  intro k
  induction k using Nat.strongRecOn with
  | _ k ih =>
    intro k1 hk
    by_cases c : k ≤ m
    · exact h.no ((h.mt b).mpr ⟨k, k1, c, hk⟩)
    · obtain ⟨u, h1, h2⟩ := wk_split (k - m) m (by rw [show m + (k - m) = k by omega]; exact hk)
      have hu : u ∉ ([] : List Nat) := by simp
      rw [h.hr] at hu
      have c2 : ∃ j, 1 ≤ j ∧ j < m ∧ Wk E j a u := by
        by_cases c3 : ∃ j, 1 ≤ j ∧ j < m ∧ Wk E j a u
        · exact c3
        · exact absurd ⟨h1, fun j g1 g2 g3 => c3 ⟨j, g1, g2, g3⟩⟩ hu
      obtain ⟨j, g1, g2, g3⟩ := c2
      exact ih (j + (k - m)) (by omega) (by omega) (wk_append g3 h2)
theorem few_unique {E : Nat → Nat → Prop} {a b c d : Nat} (h1 : Few E a b c) (h2 : Few E a b d) : c = d := by
  rcases Nat.lt_trichotomy c d with z | z | z
  · exact absurd h1.2.1 (h2.2.2 c h1.1 z)
  · exact z
  · exact absurd h2.2.1 (h1.2.2 d h2.1 z)
/-! ### a shortest way, by a line of places -/
/-- L: the line, its first place near; T: the ties by which the others were come to; ds: how many ties -/
structure Bfs (ts : List (Nat × Nat)) (W : List Nat) (a : Nat) (L T ds : List Nat) : Prop where
  l1 : L.length = T.length + 1
  l2 : ds.length = L.length
  l0 : L[0]? = some a
  d0 : ds[0]? = some 0
  nd : (L.drop 1).Nodup
  mono : ∀ (i j x y : Nat), i < j → ds[i]? = some x → ds[j]? = some y → x ≤ y
  by_ : ∀ (j t : Nat), T[j]? = some t → ∃ (u v i x : Nat), ts[t]? = some (u, v) ∧ t ∉ W ∧ L[j + 1]? = some v ∧ i ≤ j ∧ L[i]? = some u ∧ ds[i]? = some x ∧ ds[j + 1]? = some (x + 1) ∧ (0 < i → u ≠ a)
  wk : ∀ (j v x : Nat), L[j]? = some v → ds[j]? = some x → Wk (Edge ts W) x a v
/-- the first n of the line are done -/
structure Done (ts : List (Nat × Nat)) (W : List Nat) (n : Nat) (L ds : List Nat) : Prop where
  cl : ∀ (i u x v : Nat), i < n → L[i]? = some u → ds[i]? = some x → Edge ts W u v → ∃ (j y : Nat), L[j + 1]? = some v ∧ ds[j + 1]? = some y ∧ y ≤ x + 1
  up : ∀ (j y x : Nat), 0 < n → ds[j]? = some y → ds[n - 1]? = some x → y ≤ x + 1
  one : n = 0 → L.length = 1
theorem bfs_start (ts : List (Nat × Nat)) (W : List Nat) (a : Nat) : Bfs ts W a [a] [] [0] ∧ Done ts W 0 [a] [0] := by
  refine ⟨⟨rfl, rfl, rfl, rfl, by simp, fun i j x y h h1 h2 => ?_, fun j t h => by simp at h, fun j v x h1 h2 => ?_⟩, ⟨fun i u x v h => by omega, fun j y x h => by omega, fun _ => rfl⟩⟩
  · have := (List.getElem?_eq_some_iff.mp h2).1
    simp at this
    omega
  · have hj := (List.getElem?_eq_some_iff.mp h1).1
    simp at hj
    subst hj
    cases h1
    cases h2
    exact .nil a
/-- whoever is come to by so many ties stands in the line -/
theorem bfs_all {ts : List (Nat × Nat)} {W : List Nat} {a n : Nat} {L T ds : List Nat} (h : Bfs ts W a L T ds) (hd : Done ts W n L ds) : ∀ k v, 1 ≤ k → Wk (Edge ts W) k a v → (∀ x, n < L.length → ds[n]? = some x → k ≤ x) → ∃ (j y : Nat), L[j + 1]? = some v ∧ ds[j + 1]? = some y ∧ y ≤ k := by
  intro k
  induction k with
  | zero => intro v h1; omega
  | succ k ih =>
    intro v _ hw hx
    obtain ⟨u, h1, e⟩ := wk_succ hw
    have small : ∀ (i y : Nat), L[i]? = some u → ds[i]? = some y → y ≤ k → ∃ (j y : Nat), L[j + 1]? = some v ∧ ds[j + 1]? = some y ∧ y ≤ k + 1 := fun i y g1 g2 g3 => by
      have hin : i < n := by
        rcases Nat.lt_or_ge i n with z | z
        · exact z
        · exfalso
          have hi := (List.getElem?_eq_some_iff.mp g1).1
          have hn : n < L.length := by omega
          obtain ⟨x, ex⟩ : ∃ x, ds[n]? = some x := ⟨ds[n]'(by rw [h.l2]; exact hn), List.getElem?_eq_getElem _⟩
          have k1 := hx x hn ex
          by_cases c : i = n
          · subst c
            rw [g2] at ex
            cases ex
            omega
          · have := h.mono n i x y (by omega) ex g2
            omega
      obtain ⟨j, z, q1, q2, q3⟩ := hd.cl i u y v hin g1 g2 e
      exact ⟨j, z, q1, q2, by omega⟩
    rcases Nat.eq_zero_or_pos k with z | z
    · subst z
      have eu := wk_zero h1
      subst eu
      exact small 0 0 h.l0 h.d0 (Nat.le_refl _)
    · obtain ⟨j, y, g1, g2, g3⟩ := ih u z h1 fun x q1 q2 => by have := hx x q1 q2; omega
      exact small (j + 1) y g1 g2 g3
theorem get_drop {L : List Nat} {v : Nat} : v ∈ L.drop 1 ↔ ∃ j : Nat, L[j + 1]? = some v := by
  rw [List.mem_iff_getElem?]
  constructor
  · rintro ⟨i, hi⟩
    rw [List.getElem?_drop] at hi
    exact ⟨i, by rw [Nat.add_comm]; exact hi⟩
  · rintro ⟨j, hj⟩
    exact ⟨j, by rw [List.getElem?_drop, Nat.add_comm]; exact hj⟩
/-- while the ties from the place at n are gone through; G: those places that were come to -/
structure Mid (ts : List (Nat × Nat)) (W : List Nat) (a n here : Nat) (G : Nat → Prop) (L T ds : List Nat) : Prop where
  b : Bfs ts W a L T ds
  at_ : L[n]? = some here
  cl : ∀ (i u x v : Nat), i < n → L[i]? = some u → ds[i]? = some x → Edge ts W u v → ∃ (j y : Nat), L[j + 1]? = some v ∧ ds[j + 1]? = some y ∧ y ≤ x + 1
  up : ∀ (j y x : Nat), ds[j]? = some y → ds[n]? = some x → y ≤ x + 1
  dn : ∀ v, G v → v ∈ L.drop 1
theorem mid_start {ts : List (Nat × Nat)} {W : List Nat} {a n here : Nat} {L T ds : List Nat} (h : Bfs ts W a L T ds) (hd : Done ts W n L ds) (e : L[n]? = some here) : Mid ts W a n here (fun _ => False) L T ds := by
  refine ⟨h, e, hd.cl, fun j y x h1 h2 => ?_, fun v hv => hv.elim⟩
  have hj := (List.getElem?_eq_some_iff.mp h1).1
  have hn := (List.getElem?_eq_some_iff.mp h2).1
  rcases Nat.eq_zero_or_pos n with z | z
  · have h3 := hd.one z
    rw [h.l2, h3] at hj
    have ej : j = 0 := by omega
    subst ej
    rw [h.d0] at h1
    cases h1
    omega
  · obtain ⟨x', ex⟩ : ∃ x', ds[n - 1]? = some x' := ⟨ds[n - 1]'(by omega), List.getElem?_eq_getElem _⟩
    have h3 := hd.up j y x' z h1 ex
    have h4 := h.mono (n - 1) n x' x (by omega) ex h2
    omega
theorem get_snoc {L : List Nat} {i v : Nat} (w : Nat) (h : L[i]? = some v) : (L ++ [w])[i]? = some v := by
  rw [List.getElem?_append_left (List.getElem?_eq_some_iff.mp h).1]
  exact h
theorem of_snoc {L : List Nat} {i v w : Nat} (h : (L ++ [w])[i]? = some v) : (L[i]? = some v ∧ i < L.length) ∨ (i = L.length ∧ v = w) := by
  by_cases c : i < L.length
  · rw [List.getElem?_append_left c] at h
    exact .inl ⟨h, c⟩
  · have hi := (List.getElem?_eq_some_iff.mp h).1
    rw [List.length_append] at hi
    have e : i = L.length := by simp at hi; omega
    subst e
    rw [List.getElem?_append_right (Nat.le_refl _), Nat.sub_self] at h
    cases h
    exact .inr ⟨rfl, rfl⟩
theorem last_snoc (L : List Nat) (w : Nat) : (L ++ [w])[L.length]? = some w := by
  rw [List.getElem?_append_right (Nat.le_refl _), Nat.sub_self]
  rfl
theorem mid_new {ts : List (Nat × Nat)} {W : List Nat} {a n here v t x : Nat} {G G' : Nat → Prop} {L T ds : List Nat} (h : Mid ts W a n here G L T ds) (e : ts[t]? = some (here, v)) (hW : t ∉ W) (hv : v ∉ L.drop 1) (hx : ds[n]? = some x) (hG : ∀ w, G' w → G w ∨ w = v) :
    Mid ts W a n here G' (L ++ [v]) (T ++ [t]) (ds ++ [x + 1]) := by
  have hb := h.b
  have hn := (List.getElem?_eq_some_iff.mp h.at_).1
  have l1 := hb.l1
  have l2 := hb.l2
  have hdrop : (L ++ [v]).drop 1 = L.drop 1 ++ [v] := by rw [List.drop_append_of_le_length (by omega)]
  have ha : 0 < n → here ≠ a := fun hn0 hha => by
    subst hha
    obtain ⟨j, y, g1, _⟩ := h.cl 0 here 0 v hn0 hb.l0 hb.d0 ⟨t, e, hW⟩
    exact hv (get_drop.mpr ⟨j, g1⟩)
  have hwk := hb.wk n here x h.at_ hx
  refine ⟨⟨by simp; omega, by simp; omega, get_snoc _ hb.l0, get_snoc _ hb.d0, ?_, fun i j p q hij g1 g2 => ?_, fun j s g => ?_, fun j w p g1 g2 => ?_⟩, get_snoc _ h.at_, fun i u p w hi g1 g2 he => ?_, fun j y p g1 g2 => ?_, fun w hw => ?_⟩
  · rw [hdrop, List.nodup_append]
    exact ⟨hb.nd, by simp, fun p hp q hq => by rw [List.mem_singleton.mp hq]; rintro rfl; exact hv hp⟩
  · rcases of_snoc g2 with ⟨k2, k3⟩ | ⟨k2, k3⟩
    · rcases of_snoc g1 with ⟨k4, _⟩ | ⟨k4, _⟩
      · exact hb.mono i j p q hij k4 k2
      · omega
    · rcases of_snoc g1 with ⟨k4, _⟩ | ⟨k4, _⟩
      · have := h.up i p x k4 hx
        omega
      · omega
  · rcases of_snoc g with ⟨k2, k3⟩ | ⟨k2, k3⟩
    · obtain ⟨u, w, i, p, q1, q2, q3, q4, q5, q6, q7, q8⟩ := hb.by_ j s k2
      exact ⟨u, w, i, p, q1, q2, get_snoc _ q3, q4, get_snoc _ q5, get_snoc _ q6, get_snoc _ q7, q8⟩
    · subst k2 k3
      refine ⟨here, v, n, x, e, hW, ?_, by omega, get_snoc _ h.at_, get_snoc _ hx, ?_, ha⟩
      · rw [← l1]; exact last_snoc _ _
      · rw [← l1, ← l2]; exact last_snoc _ _
  · rcases of_snoc g1 with ⟨k2, k3⟩ | ⟨k2, k3⟩
    · rcases of_snoc g2 with ⟨k4, _⟩ | ⟨k4, _⟩
      · exact hb.wk j w p k2 k4
      · omega
    · rcases of_snoc g2 with ⟨k4, k5⟩ | ⟨_, k5⟩
      · omega
      · subst k3 k5
        exact .snoc hwk ⟨t, e, hW⟩
  · have hil : i < L.length := by omega
    rcases of_snoc g1 with ⟨k2, _⟩ | ⟨k2, _⟩
    · rcases of_snoc g2 with ⟨k4, _⟩ | ⟨k4, _⟩
      · obtain ⟨j, y, r1, r2, r3⟩ := h.cl i u p w hi k2 k4 he
        exact ⟨j, y, get_snoc _ r1, get_snoc _ r2, r3⟩
      · omega
    · omega
  · have hp : p = x := by
      rcases of_snoc g2 with ⟨k4, _⟩ | ⟨k4, _⟩
      · rw [hx] at k4; cases k4; rfl
      · omega
    subst hp
    rcases of_snoc g1 with ⟨k2, _⟩ | ⟨_, k2⟩
    · exact h.up j y p k2 hx
    · omega
  · rw [hdrop]
    rcases hG w hw with z | z
    · exact List.mem_append_left _ (h.dn w z)
    · rw [z]; simp
theorem mid_old {ts : List (Nat × Nat)} {W : List Nat} {a n here : Nat} {G G' : Nat → Prop} {L T ds : List Nat} (h : Mid ts W a n here G L T ds) (hG : ∀ w, G' w → G w ∨ w ∈ L.drop 1) : Mid ts W a n here G' L T ds :=
  ⟨h.b, h.at_, h.cl, h.up, fun v hv => (hG v hv).elim (h.dn v) id⟩
theorem mid_done {ts : List (Nat × Nat)} {W : List Nat} {a n here : Nat} {G : Nat → Prop} {L T ds : List Nat} (h : Mid ts W a n here G L T ds) (hG : ∀ v, Edge ts W here v → G v) : Bfs ts W a L T ds ∧ Done ts W (n + 1) L ds := by
  refine ⟨h.b, ⟨fun i u x v hi g1 g2 he => ?_, fun j y x _ g1 g2 => h.up j y x g1 g2, fun z => by omega⟩⟩
  by_cases c : i < n
  · exact h.cl i u x v c g1 g2 he
  · have e : i = n := by omega
    subst e
    rw [h.at_] at g1
    cases g1
    obtain ⟨j, hj⟩ := get_drop.mp (h.dn v (hG v he))
    have hl := (List.getElem?_eq_some_iff.mp hj).1
    obtain ⟨y, ey⟩ : ∃ y, ds[j + 1]? = some y := ⟨ds[j + 1]'(by rw [h.b.l2]; exact hl), List.getElem?_eq_getElem _⟩
    exact ⟨j, y, hj, ey, h.up _ _ _ ey g2⟩
/-- far was come to just now: by the fewest ties -/
theorem bfs_few {ts : List (Nat × Nat)} {W : List Nat} {a b n here : Nat} {G : Nat → Prop} {L T ds L' T' ds' : List Nat} (h : Bfs ts W a L T ds) (hd : Done ts W n L ds) (hn : n < L.length) (hb : b ∉ L.drop 1)
    (h' : Mid ts W a n here G L' T' ds') (hds : ds[n]? = ds'[n]?) {j y : Nat} (e1 : L'[j + 1]? = some b) (e2 : ds'[j + 1]? = some y) : Few (Edge ts W) a b y := by
  have hw := h'.b.wk _ _ _ e1 e2
  have hl := (List.getElem?_eq_some_iff.mp e1).1
  obtain ⟨t, et⟩ : ∃ t, T'[j]? = some t := ⟨T'[j]'(by have := h'.b.l1; omega), List.getElem?_eq_getElem _⟩
  obtain ⟨u, v, i, x, _, _, _, _, _, _, q7, _⟩ := h'.b.by_ j t et
  rw [e2] at q7
  have ey : y = x + 1 := Option.some.inj q7
  obtain ⟨z, ez⟩ : ∃ z, ds[n]? = some z := ⟨ds[n]'(by rw [h.l2]; exact hn), List.getElem?_eq_getElem _⟩
  have hz := h'.up (j + 1) y z e2 (by rw [← hds]; exact ez)
  refine ⟨by omega, hw, fun k k1 k2 hk => ?_⟩
  obtain ⟨j', _, g1, _⟩ := bfs_all h hd k b k1 hk fun x' _ ex' => by
    rw [ez] at ex'
    cases ex'
    omega
  exact hb (get_drop.mpr ⟨j', g1⟩)
theorem bfs_none {ts : List (Nat × Nat)} {W : List Nat} {a b n : Nat} {L T ds : List Nat} (h : Bfs ts W a L T ds) (hd : Done ts W n L ds) (hn : ¬ n < L.length) (hb : b ∉ L.drop 1) : ∀ k, 1 ≤ k → ¬ Wk (Edge ts W) k a b := by
  intro k k1 hk
  obtain ⟨j, _, g1, _⟩ := bfs_all h hd k b k1 hk fun x hx => absurd hx hn
  exact hb (get_drop.mpr ⟨j, g1⟩)
/-! ### the way back -/
inductive Pth (ts : List (Nat × Nat)) (W : List Nat) : Nat → List Nat → Nat → Prop where
  | one {t u v : Nat} : ts[t]? = some (u, v) → t ∉ W → Pth ts W u [t] v
  | cons {t u x v : Nat} {r : List Nat} : ts[t]? = some (u, x) → t ∉ W → Pth ts W x r v → Pth ts W u (t :: r) v
end My
namespace My
/-! ### parts by two searches in depth -/
theorem rch_refl {E : Nat → Nat → Prop} (u : Nat) : Rch E u u := ⟨0, .nil u⟩
theorem rch_trans {E : Nat → Nat → Prop} {u v w : Nat} (a : Rch E u v) (b : Rch E v w) : Rch E u w := by
  obtain ⟨j, a⟩ := a
  obtain ⟨k, b⟩ := b
  exact ⟨j + k, wk_append a b⟩
theorem rch_one {E : Nat → Nat → Prop} {u v : Nat} (a : E u v) : Rch E u v := ⟨1, .snoc (.nil u) a⟩
theorem rch_closed {E : Nat → Nat → Prop} {S : Nat → Prop} (h : ∀ u v, S u → E u v → S v) {u v : Nat} (hu : S u) (r : Rch E u v) : S v := by
  obtain ⟨k, r⟩ := r
  induction r with
  | nil => exact hu
  | snoc _ e ih => exact h _ _ (ih hu) e
theorem rch_flip {E : Nat → Nat → Prop} {u v : Nat} (r : Rch E u v) : Rch (fun a b => E b a) v u := by
  obtain ⟨k, r⟩ := r
  induction r with
  | nil => exact rch_refl _
  | snoc _ e ih => exact rch_trans (rch_one e) (ih)
/-- walking from inside a lot to outside of it, one leaves it somewhere -/
theorem rch_leave {E : Nat → Nat → Prop} {S : Nat → Prop} {u v : Nat} (hu : S u) (hv : ¬ S v) (r : Rch E u v) : ∃ x y, S x ∧ ¬ S y ∧ E x y ∧ Rch E u x ∧ Rch E y v := by
  obtain ⟨k, r⟩ := r
  induction r with
  | nil => exact absurd hu hv
  | @snoc k u x v a e ih =>
    by_cases c : S x
    · exact ⟨x, v, c, hv, e, ⟨_, a⟩, rch_refl v⟩
    · obtain ⟨x', y', h1, h2, h3, h4, h5⟩ := ih hu c
      exact ⟨x', y', h1, h2, h3, h4, rch_trans h5 (rch_one e)⟩
/-- a search in depth: what it left, its trail -/
structure Dfs (adj : Nat → List Nat) (p0 : Nat) (S0 seen : Nat → Prop) (left : List Nat) (tr : List (Nat × Nat)) : Prop where
  nd : (left ++ tr.map Prod.fst).Nodup
  iff_ : ∀ x, seen x ↔ S0 x ∨ x ∈ left ∨ x ∈ tr.map Prod.fst
  new : ∀ x, x ∈ left ∨ x ∈ tr.map Prod.fst → ¬ S0 x
  fin : ∀ x ∈ left, ∀ y ∈ adj x, seen y
  frm : ∀ f ∈ tr, ∀ y ∈ (adj f.1).take f.2, seen y
  chain : (tr.map Prod.fst).Pairwise fun a b => Rch (fun u v => v ∈ adj u) a b
  ok : ∀ x, x ∈ left ∨ x ∈ tr.map Prod.fst → Rch (fun u v => v ∈ adj u) p0 x
  mem : p0 ∈ left ∨ p0 ∈ tr.map Prod.fst
  star : ∀ A q B, left = A ++ q :: B → ∀ p, Rch (fun u v => v ∈ adj u) q p → S0 p ∨ p ∈ A ∨ p = q ∨ ∃ y, (y ∈ B ∨ y ∈ tr.map Prod.fst) ∧ Rch (fun u v => v ∈ adj u) q y ∧ Rch (fun u v => v ∈ adj u) y q ∧ Rch (fun u v => v ∈ adj u) y p
section
variable {adj : Nat → List Nat} {p0 : Nat} {S0 seen : Nat → Prop} {left : List Nat} {tr : List (Nat × Nat)} {x i : Nat}
theorem dfs_start (h : ¬ S0 p0) (hs : ∀ x, seen x ↔ S0 x ∨ x = p0) : Dfs adj p0 S0 seen [] [(p0, 0)] where
  nd := by simp
  iff_ := fun x => by rw [hs]; simp
  new := fun x hx => by
    rcases hx with z | z
    · cases z
    · have : x = p0 := by simpa using z
      rw [this]; exact h
  fin := fun x hx => by cases hx
  frm := fun f hf y hy => by
    have : f = (p0, 0) := by simpa using hf
    subst this
    simp at hy
  chain := by simp
  ok := fun x hx => by
    rcases hx with z | z
    · cases z
    · have : x = p0 := by simpa using z
      rw [this]; exact rch_refl _
  mem := .inr (by simp)
  star := fun A q B e => by simp at e
/-- the next one was seen -/
theorem dfs_old (h : Dfs adj p0 S0 seen left (tr ++ [(x, i)])) {y : Nat} (hy : (adj x)[i]? = some y) (hs : seen y) : Dfs adj p0 S0 seen left (tr ++ [(x, i + 1)]) := by
  have e : (tr ++ [(x, i + 1)]).map Prod.fst = (tr ++ [(x, i)]).map Prod.fst := by simp
  refine ⟨e ▸ h.nd, fun z => by rw [e]; exact h.iff_ z, fun z => by rw [e]; exact h.new z, h.fin, fun f hf z hz => ?_, by rw [e]; exact h.chain, fun z => by rw [e]; exact h.ok z, by rw [e]; exact h.mem, by rw [e]; exact h.star⟩
  rcases List.mem_append.mp hf with c | c
  · exact h.frm f (List.mem_append_left _ c) z hz
  · have : f = (x, i + 1) := by simpa using c
    subst this
    rw [show (adj x).take (i + 1) = (adj x).take i ++ [y] by rw [List.take_succ, hy]; rfl] at hz
    rcases List.mem_append.mp hz with c | c
    · exact h.frm (x, i) (List.mem_append_right _ (by simp)) z c
    · rw [List.mem_singleton.mp c]; exact hs
/-- the next one is new -/
theorem dfs_new (h : Dfs adj p0 S0 seen left (tr ++ [(x, i)])) {y : Nat} (hy : (adj x)[i]? = some y) (hs : ¬ seen y) {seen' : Nat → Prop} (hs' : ∀ z, seen' z ↔ seen z ∨ z = y) : Dfs adj p0 S0 seen' left (tr ++ [(x, i + 1)] ++ [(y, 0)]) := by
  have e : (tr ++ [(x, i + 1)] ++ [(y, 0)]).map Prod.fst = (tr ++ [(x, i)]).map Prod.fst ++ [y] := by simp
  have hn := (not_congr (h.iff_ y)).mp hs
  have hxy : y ∈ adj x := List.mem_of_getElem? hy
  have hxt : x ∈ (tr ++ [(x, i)]).map Prod.fst := by simp
  refine ⟨?_, fun z => ?_, fun z hz => ?_, fun z hz w hw => (hs' w).mpr (.inl (h.fin z hz w hw)), fun f hf z hz => ?_, ?_, fun z hz => ?_, ?_, fun A q B el p hp => ?_⟩
  · rw [e, ← List.append_assoc, List.nodup_append]
    refine ⟨h.nd, by simp, fun a ha b hb => ?_⟩
    rw [List.mem_singleton.mp hb]
    rintro rfl
    rcases List.mem_append.mp ha with c | c
    · exact hn (.inr (.inl c))
    · exact hn (.inr (.inr c))
  · rw [hs', h.iff_, e, List.mem_append, List.mem_singleton]
    constructor
    · rintro ((a | a | a) | a)
      · exact .inl a
      · exact .inr (.inl a)
      · exact .inr (.inr (.inl a))
      · exact .inr (.inr (.inr a))
    · rintro (a | a | a | a)
      · exact .inl (.inl a)
      · exact .inl (.inr (.inl a))
      · exact .inl (.inr (.inr a))
      · exact .inr a
  · rw [e, List.mem_append, List.mem_singleton] at hz
    rcases hz with c | c | c
    · exact h.new z (.inl c)
    · exact h.new z (.inr c)
    · rw [c]; exact fun q => hn (.inl q)
  · rcases List.mem_append.mp hf with c | c
    · rcases List.mem_append.mp c with c | c
      · exact (hs' z).mpr (.inl (h.frm f (List.mem_append_left _ c) z hz))
      · have : f = (x, i + 1) := by simpa using c
        subst this
        rw [show (adj x).take (i + 1) = (adj x).take i ++ [y] by rw [List.take_succ, hy]; rfl] at hz
        rcases List.mem_append.mp hz with c | c
        · exact (hs' z).mpr (.inl (h.frm (x, i) (List.mem_append_right _ (by simp)) z c))
        · exact (hs' z).mpr (.inr (List.mem_singleton.mp c))
    · have : f = (y, 0) := by simpa using c
      subst this
      simp at hz
  · rw [e, List.pairwise_append]
    refine ⟨h.chain, by simp, fun a ha b hb => ?_⟩
    rw [List.mem_singleton.mp hb]
    rw [List.map_append, List.mem_append] at ha
    have hc := h.chain
    rw [List.map_append, List.pairwise_append] at hc
    rcases ha with c | c
    · exact rch_trans (hc.2.2 a c x (by simp)) (rch_one hxy)
    · have : a = x := by simpa using c
      rw [this]
      exact rch_one hxy
  · rw [e, List.mem_append, List.mem_singleton] at hz
    rcases hz with c | c | c
    · exact h.ok z (.inl c)
    · exact h.ok z (.inr c)
    · rw [c]; exact rch_trans (h.ok x (.inr hxt)) (rch_one hxy)
  · rw [e, List.mem_append]
    rcases h.mem with c | c
    · exact .inl c
    · exact .inr (.inl c)
  · rcases h.star A q B el p hp with a | a | a | ⟨z, hz, r⟩
    · exact .inl a
    · exact .inr (.inl a)
    · exact .inr (.inr (.inl a))
    · refine .inr (.inr (.inr ⟨z, ?_, r⟩))
      rw [e, List.mem_append]
      rcases hz with c | c
      · exact .inl c
      · exact .inr (.inl c)
/-- the last one of the trail is left -/
theorem dfs_leave (h : Dfs adj p0 S0 seen left (tr ++ [(x, i)])) (hi : (adj x).length ≤ i) (hS : ∀ u v, S0 u → v ∈ adj u → S0 v) : Dfs adj p0 S0 seen (left ++ [x]) tr := by
  have em : (tr ++ [(x, i)]).map Prod.fst = tr.map Prod.fst ++ [x] := by simp
  have hfx : ∀ y ∈ adj x, seen y := fun y hy => h.frm (x, i) (List.mem_append_right _ (by simp)) y (by rw [List.take_of_length_le hi]; exact hy)
  have hx0 : ¬ S0 x := h.new x (.inr (by simp))
  have hnd := h.nd
  rw [em] at hnd
  have perm : (left ++ (tr.map Prod.fst ++ [x])).Perm (left ++ [x] ++ tr.map Prod.fst) := by
    rw [List.append_assoc]
    exact List.Perm.append_left left List.perm_append_comm
  have mm : ∀ z, (z ∈ left ++ [x] ∨ z ∈ tr.map Prod.fst) ↔ (z ∈ left ∨ z ∈ (tr ++ [(x, i)]).map Prod.fst) := fun z => by
    rw [em, List.mem_append, List.mem_append, List.mem_singleton]
    constructor
    · rintro ((a | a) | a)
      · exact .inl a
      · exact .inr (.inr a)
      · exact .inr (.inl a)
    · rintro (a | a | a)
      · exact .inl (.inl a)
      · exact .inr a
      · exact .inl (.inr a)
  have hch := h.chain
  rw [em, List.pairwise_append] at hch
  have finAll : ∀ z, z ∈ left ++ [x] → ∀ y ∈ adj z, seen y := fun z hz => by
    rcases List.mem_append.mp hz with c | c
    · exact h.fin z c
    · rw [List.mem_singleton.mp c]; exact hfx
  refine ⟨perm.nodup_iff.mp hnd, fun z => by rw [h.iff_, mm], fun z hz => h.new z ((mm z).mp hz), finAll, fun f hf => h.frm f (List.mem_append_left _ hf), hch.1, fun z hz => h.ok z ((mm z).mp hz), (mm _).mpr h.mem, fun A q B el p hp => ?_⟩
  rcases List.eq_nil_or_concat B with rfl | ⟨B', b, rfl⟩
  · -- the one just left
    have el2 : left ++ [x] = A ++ [q] := el
    obtain ⟨rfl, hq⟩ := List.append_inj' el2 rfl
    have hq : x = q := by simpa using hq
    subst hq
    by_cases c0 : S0 p ∨ p ∈ left ∨ p = x
    · rcases c0 with a | a | a
      · exact .inl a
      · exact .inr (.inl a)
      · exact .inr (.inr (.inl a))
    · obtain ⟨u, y, hu, hy, huy, r1, r2⟩ := rch_leave (S := fun z => S0 z ∨ z ∈ left ∨ z = x) (.inr (.inr rfl)) c0 hp
      have hsy : seen y := by
        rcases hu with a | a | a
        · exact absurd (.inl (hS _ _ a huy)) hy
        · exact h.fin u a y huy
        · rw [a] at huy; exact hfx y huy
      have hty : y ∈ tr.map Prod.fst := by
        rcases (h.iff_ y).mp hsy with a | a | a
        · exact absurd (.inl a) hy
        · exact absurd (.inr (.inl a)) hy
        · rw [em, List.mem_append, List.mem_singleton] at a
          rcases a with a | a
          · exact a
          · exact absurd (.inr (.inr a)) hy
      exact .inr (.inr (.inr ⟨y, .inr hty, rch_trans r1 (rch_one huy), hch.2.2 y hty x (by simp), r2⟩))
  · rw [List.concat_eq_append] at el ⊢
    have el2 : left ++ [x] = (A ++ q :: B') ++ [b] := by rw [el]; simp
    obtain ⟨rfl, hb⟩ := List.append_inj' el2 rfl
    have hb : x = b := by simpa using hb
    subst hb
    rcases h.star A q B' rfl p hp with a | a | a | ⟨z, hz, r⟩
    · exact .inl a
    · exact .inr (.inl a)
    · exact .inr (.inr (.inl a))
    · refine .inr (.inr (.inr ⟨z, ?_, r⟩))
      rw [em, List.mem_append, List.mem_singleton] at hz
      rcases hz with c | c | c
      · exact .inl (List.mem_append_left _ c)
      · exact .inr c
      · exact .inl (List.mem_append_right _ (by rw [c]; simp))
/-- at the end -/
theorem dfs_end (h : Dfs adj p0 S0 seen left []) (hS : ∀ u v, S0 u → v ∈ adj u → S0 v) :
    left.Nodup ∧ (∀ x, seen x ↔ S0 x ∨ x ∈ left) ∧ (∀ x, x ∈ left ↔ Rch (fun u v => v ∈ adj u) p0 x ∧ ¬ S0 x) ∧ (∀ u v, seen u → v ∈ adj u → seen v) ∧
      ∀ A q B, left = A ++ q :: B → ∀ p, Rch (fun u v => v ∈ adj u) q p → S0 p ∨ p ∈ A ∨ p = q ∨ ∃ y ∈ B, Rch (fun u v => v ∈ adj u) q y ∧ Rch (fun u v => v ∈ adj u) y q ∧ Rch (fun u v => v ∈ adj u) y p := by
  have hs : ∀ x, seen x ↔ S0 x ∨ x ∈ left := fun x => by rw [h.iff_]; simp
  have hcl : ∀ u v, seen u → v ∈ adj u → seen v := fun u v hu hv => by
    rcases (hs u).mp hu with a | a
    · exact (hs v).mpr (.inl (hS u v a hv))
    · exact h.fin u a v hv
  have hp0 : p0 ∈ left := by
    rcases h.mem with a | a
    · exact a
    · simp at a
  refine ⟨by simpa using h.nd, hs, fun x => ⟨fun hx => ⟨h.ok x (.inl hx), h.new x (.inl hx)⟩, fun ⟨r, hn⟩ => ?_⟩, hcl, fun A q B el p hp => ?_⟩
  · have := rch_closed hcl ((hs p0).mpr (.inr hp0)) r
    rcases (hs x).mp this with a | a
    · exact absurd a hn
    · exact a
  · rcases h.star A q B el p hp with a | a | a | ⟨z, hz, r⟩
    · exact .inl a
    · exact .inr (.inl a)
    · exact .inr (.inr (.inl a))
    · rcases hz with c | c
      · exact .inr (.inr (.inr ⟨z, c, r⟩))
      · simp at c
end
/-! ### the measure of a search -/
/-- steps that are still to be made: for points not seen, and for the trail -/
def todo (adj : Nat → List Nat) (seen : List Bool) : Nat → Nat
  | 0 => 0
  | n + 1 => todo adj seen n + (if seen[n]? = some false then (adj n).length + 2 else 0)
def owed (adj : Nat → List Nat) : List (Nat × Nat) → Nat
  | [] => 0
  | f :: r => ((adj f.1).length - f.2 + 1) + owed adj r
theorem owed_app (adj : Nat → List Nat) : ∀ a b : List (Nat × Nat), owed adj (a ++ b) = owed adj a + owed adj b
  | [], b => by simp [owed]
  | f :: r, b => by
    show _ + owed adj (r ++ b) = _ + owed adj r + owed adj b
    rw [owed_app adj r b]
    omega
theorem todo_set (adj : Nat → List Nat) {seen : List Bool} {y : Nat} (h : seen[y]? = some false) : ∀ n, todo adj (seen.set y true) n + (if y < n then (adj y).length + 2 else 0) = todo adj seen n
  | 0 => by simp [todo]
  | n + 1 => by
    have ih := todo_set adj h n
    show (todo adj (seen.set y true) n + (if (seen.set y true)[n]? = some false then (adj n).length + 2 else 0)) + _ = todo adj seen n + (if seen[n]? = some false then (adj n).length + 2 else 0)
    by_cases c : y = n
    · subst c
      have hl : y < seen.length := (List.getElem?_eq_some_iff.mp h).1
      have e1 : (seen.set y true)[y]? = some true := by simp [hl]
      rw [e1, h, if_pos (show y < y + 1 by omega), if_pos (show some false = some false from rfl), if_neg (show ¬ (some true = some false) by simp)]
      rw [if_neg (show ¬ y < y by omega)] at ih
      omega
    · have e1 : (seen.set y true)[n]? = seen[n]? := by rw [List.getElem?_set_ne c]
      rw [e1]
      by_cases d : y < n
      · rw [if_pos (show y < n + 1 by omega)]
        rw [if_pos d] at ih
        omega
      · rw [if_neg (show ¬ y < n + 1 by omega)]
        rw [if_neg d] at ih
        omega
end My
namespace My
open PySem L2 PyProof.Rows
theorem inV_iv (n : Nat) (W : List Nat) : inV (.int (n : Int)) (iv W) = decide (n ∈ W) := by
  unfold inV iv
  induction W with
  | nil => rfl
  | cons a r ih =>
    rw [List.map_cons, List.any_cons, ih]
    by_cases h : a = n
    · subst h
      have e : eqV (V.int (a : Int)) (V.int (a : Int)) = true := by
        show ((a : Int) == (a : Int)) = true
        simp
      rw [e]
      simp
    · have e : eqV (V.int (a : Int)) (V.int (n : Int)) = false := by
        show ((a : Int) == (n : Int)) = false
        simp
        omega
      rw [e]
      have h2 : ¬ n = a := fun z => h z.symm
      simp [h2]
theorem flat_iv (W : List Nat) : (iv W).all flatV = true := by
  rw [List.all_eq_true]
  intro x hx
  obtain ⟨n, _, rfl⟩ := List.mem_map.mp hx
  rfl
/-! ### to where the ties lead -/
def outN (ts : List (Nat × Nat)) (W : List Nat) (u : Nat) : Nat → List Nat
  | 0 => []
  | i + 1 => match ts[i]? with
    | some e => if e.1 = u ∧ i ∉ W then outN ts W u i ++ [e.2] else outN ts W u i
    | none => outN ts W u i
theorem outN_len (ts : List (Nat × Nat)) (W : List Nat) (u : Nat) : ∀ i, (outN ts W u i).length ≤ i
  | 0 => by simp [outN]
  | i + 1 => by
    have := outN_len ts W u i
    unfold outN
    split
    · split
      · simp; omega
      · omega
    · omega
theorem outN_mem (ts : List (Nat × Nat)) (W : List Nat) (u v : Nat) : ∀ i, v ∈ outN ts W u i ↔ ∃ j, j < i ∧ ts[j]? = some (u, v) ∧ j ∉ W
  | 0 => by simp [outN]
  | i + 1 => by
    have ih := outN_mem ts W u v i
    have lift : (∃ j, j < i ∧ ts[j]? = some (u, v) ∧ j ∉ W) → ∃ j, j < i + 1 ∧ ts[j]? = some (u, v) ∧ j ∉ W := fun ⟨j, h1, h2⟩ => ⟨j, by omega, h2⟩
    unfold outN
    split
    · rename_i e he
      split
      · rename_i c
        rw [List.mem_append, ih, List.mem_singleton]
        constructor
        · rintro (h | rfl)
          · exact lift h
          · exact ⟨i, by omega, by rw [he, ← c.1], c.2⟩
        · rintro ⟨j, h1, h2, h3⟩
          by_cases z : j = i
          · subst z
            rw [he] at h2
            right
            rw [Option.some.inj h2]
          · exact .inl ⟨j, by omega, h2, h3⟩
      · rename_i c
        rw [ih]
        refine ⟨lift, ?_⟩
        rintro ⟨j, h1, h2, h3⟩
        by_cases z : j = i
        · subst z
          rw [he] at h2
          refine absurd ⟨?_, h3⟩ c
          rw [Option.some.inj h2]
        · exact ⟨j, by omega, h2, h3⟩
    · rename_i he
      rw [ih]
      refine ⟨lift, ?_⟩
      rintro ⟨j, h1, h2, h3⟩
      by_cases z : j = i
      · subst z
        rw [he] at h2
        cases h2
      · exact ⟨j, by omega, h2, h3⟩
abbrev outs (ts : List (Nat × Nat)) (W : List Nat) (u : Nat) : List Nat := outN ts W u ts.length
theorem outs_mem {ts : List (Nat × Nat)} {W : List Nat} {u v : Nat} : v ∈ outs ts W u ↔ Edge ts W u v := by
  rw [outs, outN_mem]
  constructor
  · rintro ⟨j, _, h⟩
    exact ⟨j, h⟩
  · rintro ⟨j, h⟩
    exact ⟨j, (List.getElem?_eq_some_iff.mp h.1).1, h⟩
/-- the booleans that tell what was seen -/
abbrev bv (L : List Bool) : List V := L.map V.bl
abbrev Got (L : List Bool) (x : Nat) : Prop := L[x]? = some true
structure LfOk (adj : Nat → List Nat) (N : Nat) : Prop where
  n1 : N ≤ 60
  lt : ∀ u, ∀ v ∈ adj u, v < N
  sz : ∀ u, (adj u).length ≤ 80
structure LfRes (adj : Nat → List Nat) (N p : Nat) (S S' : List Bool) (L : List Nat) : Prop where
  nd : L.Nodup
  ln : S'.length = N
  lt : ∀ x ∈ L, x < N
  got : ∀ x, Got S' x ↔ Got S x ∨ x ∈ L
  mem : ∀ x, x ∈ L ↔ Rch (fun u v => v ∈ adj u) p x ∧ ¬ Got S x
  cl : ∀ u v, Got S' u → v ∈ adj u → Got S' v
  star : ∀ A q B, L = A ++ q :: B → ∀ x, Rch (fun u v => v ∈ adj u) q x → Got S x ∨ x ∈ A ∨ x = q ∨ ∃ y ∈ B, Rch (fun u v => v ∈ adj u) q y ∧ Rch (fun u v => v ∈ adj u) y q ∧ Rch (fun u v => v ∈ adj u) y x
theorem paired_end1 {α β : Type} {F : α → β → Prop} : ∀ {l1 : List α} {l2 : List β} {b : β}, Paired F l1 (l2 ++ [b]) → ∃ m a, l1 = m ++ [a] ∧ Paired F m l2 ∧ F a b
  | _, [], _, .cons r .nil => ⟨[], _, rfl, .nil, r⟩
  | _, _ :: l2, b, .cons r t => by
    obtain ⟨m, a, e, h1, h2⟩ := paired_end1 (l2 := l2) t
    exact ⟨_ :: m, a, by rw [e]; rfl, .cons r h1, h2⟩
theorem TiesAt.pop {H : Hp} {l : Addr} {tr : List (Nat × Nat)} {f : Nat × Nat} (h : TiesAt H l (tr ++ [f])) :
    ∃ xs p, H l = some (.lst xs) ∧ xs[xs.length - 1]? = some (.ref p) ∧ H p = some (.tup [.int (f.1 : Int), .int (f.2 : Int)]) ∧ TiesAt (upd H l (.lst xs.dropLast)) l tr := by
  obtain ⟨tas, h1, h2⟩ := h
  obtain ⟨m, a, rfl, h3, h4⟩ := paired_end1 h2
  refine ⟨_, a, h1, ?_, h4, m, ?_, paired_mono (fun q e hq => ?_) h3⟩
  · rw [List.map_append, List.length_append, List.length_map, List.getElem?_append_right (by simp), List.length_map]
    simp
  · rw [upd_same, List.map_append]
    show some (HO.lst (List.dropLast (m.map V.ref ++ [V.ref a]))) = _
    rw [List.dropLast_concat]
  · have nq : q ≠ l := ne_of hq h1 (by intro z; cases z)
    show upd _ _ _ q = _
    rw [upd_ne nq]
    exact hq
theorem bv_at {L : List Bool} {j : Nat} {b : Bool} (h : L[j]? = some b) : atI (bv L) (j : Int) = some (.bl b) := by
  refine atI_nat ?_
  rw [bv, List.getElem?_map, h]
  rfl
theorem ix_at {n j : Nat} (hj : j < n) : ixN n (j : Int) = some j := by
  unfold ixN
  rw [if_pos (by omega), if_pos (by omega)]
  simp
theorem bv_set (L : List Bool) (j : Nat) : (bv L).set j (.bl true) = bv (L.set j true) := by
  unfold bv
  rw [List.map_set]
theorem got_set {L : List Bool} {j : Nat} (hj : j < L.length) (x : Nat) : Got (L.set j true) x ↔ Got L x ∨ x = j := by
  unfold Got
  by_cases c : x = j
  · subst c
    simp [hj]
  · rw [List.getElem?_set_ne (fun z => c z.symm)]
    simp [c]
theorem bl_of {L : List Bool} {j : Nat} (hj : j < L.length) : L[j]? = some true ∨ L[j]? = some false := by
  rw [List.getElem?_eq_getElem hj]
  cases L[j] <;> simp
section
variable {P : Program} {w : World} {K : PySem.W.Frag} {mg : Str → Option Value} {base : Heap} {C : Addr}
def sp_left_from (_ : PySem.W.Frag) (C : Addr) : Sp := fun vs H Q _ => ∃ e p s adj N S, vs = [.ref e, .int ((p : Nat) : Int), .ref s] ∧ RowsAt H e N adj ∧ LfOk adj N ∧ p < N ∧ H s = some (.lst (bv S)) ∧ S.length = N ∧ ¬ Got S p ∧ (∀ u v, Got S u → v ∈ adj u → Got S v) ∧ ∀ H' l L S', H l = none → H' l = some (.lst (iv L)) → H' s = some (.lst (bv S')) → Kept s H H' → LfRes adj N p S S' L → Q (.ref l) H'
theorem ok_left_from (D : Def K mg "_left_from" s_left_from ["ends", "point", "seen"]) (B : Bs mg) (Glb : Glo mg) (WK : WebK K mg C) :
    Good P w K mg base "_left_from" s_left_from ["ends", "point", "seen"] 1 (sp_left_from K C) := by
  refine D.good fun f fd F => ?_
  refine F.ok sc_left_from (fun vs H Q E h => ?_) (fun cdv A outer s H vs Q E hr h => ?_)
  · obtain ⟨e, p, s, adj, N, S, rfl, hR, hA, hp, hs, hSl, hnp, hcl, q⟩ := h
    first | rfl | (rcases h with ⟨_, _, rfl, _⟩ | ⟨_, rfl, _⟩ <;> rfl)
  obtain ⟨e, p, s, adj, N, S, rfl, hR, hA, hp, hs, hSl, hnp, hcl, q⟩ := h
  refine ⟨_, (pss_cons (ps_set (i := 3) sc_left_from.nd rfl (by first | exact Or.inl rfl | exact Or.inr rfl) (pe_lst pa_nil))
  (pss_cons (ps_asg pe_bl (pg_sub (pv 2) (pv 1) set_list))
  (pss_cons (ps_set (i := 4) sc_left_from.nd rfl (by first | exact Or.inl rfl | exact Or.inr rfl) (pe_lst (pa_cons (pe_tup (pa_cons (pv 1) (pa_cons pe_int pa_nil))) pa_nil)))
  (pss_cons (ps_while PassesOwn.never (pt_cmpR (op_neD hr.units) (pv 4) (pe_lst pa_nil) (nomark _))
    (pss_cons (ps_asg (pe_bm0 PySem.F.plainAttrs_list PySem.F.slot_list_pop PySem.F.type_list_pop mt_pop (pv 4)) (pg_tup rfl (pgs_cons (pg_name (i := 5) sc_left_from.nd rfl (by first | exact Or.inl rfl | exact Or.inr rfl)) (pgs_cons (pg_name (i := 6) sc_left_from.nd rfl (by first | exact Or.inl rfl | exact Or.inr rfl)) pgs_nil))))
  (pss_cons (ps_if (pt_cmpR op_eq (pv 6) (pe_callB call_len_seq (by rfl) B.len (by decide +kernel) (pa_cons (pe_ix ix_list (pv 0) (pv 5) (fun _ _ => rfl)) pa_nil)) (nomark _))
    (pss_cons (ps_expr (pe_bm PySem.F.plainAttrs_list PySem.F.slot_list_append PySem.F.type_list_append mt_append (pv 3) (pa_cons (pv 5) pa_nil)))
  (pss_one ps_continue)) pss_nil)
  (pss_cons (ps_expr (pe_bm PySem.F.plainAttrs_list PySem.F.slot_list_append PySem.F.type_list_append mt_append (pv 4) (pa_cons (pe_tup (pa_cons (pv 5) (pa_cons (pe_op op_add (pv 6) pe_int) pa_nil))) pa_nil)))
  (pss_cons (ps_set (i := 7) sc_left_from.nd rfl (by first | exact Or.inl rfl | exact Or.inr rfl) (pe_ix ix_list (pe_ix ix_list (pv 0) (pv 5) (fun _ _ => rfl)) (pv 6) (fun _ _ => rfl)))
  (pss_one (ps_if (pt_not (pt_val (pe_ix ix_list (pv 2) (pv 7) (fun _ _ => rfl))))
    (pss_cons (ps_asg pe_bl (pg_sub (pv 2) (pv 7) set_list))
  (pss_one (ps_expr (pe_bm PySem.F.plainAttrs_list PySem.F.slot_list_append PySem.F.type_list_append mt_append (pv 4) (pa_cons (pe_tup (pa_cons (pv 7) (pa_cons pe_int pa_nil))) pa_nil))))) pss_nil)))))))
  (pss_one (ps_ret (pv 3))))))), ?_⟩
  have hN := hA.n1
  have hRk : ∀ H', Kept s H H' → RowsAt H' e N adj := fun H' k => by
    obtain ⟨fas, r1, r2, r3⟩ := hR
    have nes : ∀ b (L : List Nat), H b = some (.lst (iv L)) → b ≠ s := fun b L hb z => by
      rw [z, hs] at hb
      have hb := HO.lst.inj (Option.some.inj hb)
      cases S with
      | nil => simp at hSl; omega
      | cons t r =>
        cases L with
        | nil => cases hb
        | cons n r' => cases (List.cons.inj hb).1
    have ees : e ≠ s := fun z => by
      rw [z, hs] at r1
      have r1 := HO.lst.inj (Option.some.inj r1)
      cases S with
      | nil => simp at hSl; omega
      | cons t r =>
        cases fas with
        | nil => cases r1
        | cons n r' => cases (List.cons.inj r1).1
    exact ⟨fas, k _ _ r1 ees, r2, fun j x ej => k _ _ (r3 j x ej) (nes _ _ (r3 j x ej))⟩
  refine ⟨Nat.zero_le _, fun ll nll => ?_⟩
  have nls : ll ≠ s := (ne_of_none hs nll).symm
  refine ⟨_, rfl, _, rfl, s, _, _, p, rfl, rfl, (by rw [upd_ne nls.symm]; exact hs), ix_at (by rw [List.length_map, hSl]; exact hp), ?_⟩
  rw [bv_set]
  generalize e1 : upd (upd H ll (.lst [])) s (.lst (bv (S.set p true))) = H1
  have hs1 : H1 s = some (.lst (bv (S.set p true))) := by rw [← e1]; exact upd_same
  have hll1 : H1 ll = some (.lst (iv [])) := by rw [← e1, upd_ne nls]; exact upd_same
  have hk1 : Kept s H H1 := fun b o z n => by rw [← e1, upd_ne n]; exact same_new nll _ _ _ z
  refine ⟨_, rfl, (by show 2 ≤ sizeLine; decide), fun tp ntp => ⟨(by show 1 ≤ sizeLine; decide), fun tl ntl => ?_⟩⟩
  have nts : tp ≠ s := (ne_of_none hs1 ntp).symm
  have htl0 : TiesAt (upd (upd H1 tp (.tup [.int (p : Int), .int 0])) tl (.lst [.ref tp])) tl [(p, 0)] := ⟨[tp], upd_same, .cons (by show upd _ _ _ tp = _; rw [upd_ne (fun z => by rw [z] at ntl; rw [upd_same] at ntl; cases ntl), upd_same]; rfl) .nil⟩
  have hk2 : Kept s H (upd (upd H1 tp (.tup [.int (p : Int), .int 0])) tl (.lst [.ref tp])) := (hk1.new ntp).new ntl
  have hs2 := same_new ntl (.lst [.ref tp]) _ _ (same_new ntp (.tup [.int (p : Int), .int 0]) _ _ hs1)
  have hll2 := same_new ntl (.lst [.ref tp]) _ _ (same_new ntp (.tup [.int (p : Int), .int 0]) _ _ hll1)
  have ntl1 : H1 tl = none := by
    by_cases c : tl = tp
    · rw [c]; exact ntp
    · rw [upd_ne c] at ntl; exact ntl
  have ntls : tl ≠ s := (ne_of_none hs1 ntl1).symm
  have ntll : tl ≠ ll := (ne_of_none hll1 ntl1).symm
  have ntlH : H tl = none := by
    cases z : H tl with
    | none => rfl
    | some o => rw [hk1 _ _ z ntls] at ntl1; cases ntl1
  generalize upd (upd H1 tp (.tup [.int (p : Int), .int 0])) tl (.lst [.ref tp]) = H2 at htl0 hk2 hs2 hll2
  have hpS : p < S.length := by omega
  let Pv : Nat → L2.St → Hp → Prop := fun m σ H' => ∃ (v5 v6 v7 : Option V) (left : List Nat) (tr : List (Nat × Nat)) (Sc : List Bool), σ = [some (.ref e), some (.int (p : Int)), some (.ref s), some (.ref ll), some (.ref tl), v5, v6, v7] ∧ Kept s H H' ∧ H' ll = some (.lst (iv left)) ∧ TiesAt H' tl tr ∧ H' s = some (.lst (bv Sc)) ∧ Sc.length = N ∧ Dfs adj p (Got S) (Got Sc) left tr ∧ (∀ f ∈ tr, f.2 ≤ (adj f.1).length) ∧ todo adj Sc N + owed adj tr = m
  refine ⟨Pv, ⟨_, none, none, none, [], [(p, 0)], S.set p true, rfl, hk2, hll2, htl0, hs2, by rw [List.length_set]; exact hSl, dfs_start hnp (got_set hpS), fun f hf => by rw [List.mem_singleton.mp hf]; exact Nat.zero_le _, rfl⟩, ?_⟩
  rintro m σ H3 ⟨v5, v6, v7, left, tr, Sc, rfl, hk3, hll3, htl3, hs3, hSc, hD, hle, hμ⟩
  refine ⟨_, rfl, Nat.zero_le _, fun p0 np0 => ⟨_, _, dp_tz (htl3.same (same_new np0 _)), dp_iz (L := []) upd_same, shaped_tz _, shaped_iz _, _, rfl, ?_⟩⟩
  rw [eqv_tz]
  have hk4 := hk3.new (o := .lst []) np0
  have hll4 := same_new np0 (.lst []) _ _ hll3
  have htl4 := htl3.same (same_new np0 (.lst []))
  have hs4 := same_new np0 (.lst []) _ _ hs3
  generalize upd H3 p0 (.lst []) = H4 at hk4 hll4 htl4 hs4
  rcases List.eq_nil_or_concat tr with rfl | ⟨rest, ⟨x, i⟩, rfl⟩
  · refine iteNot' rfl ⟨_, rfl, ?_⟩
    obtain ⟨d1, d2, d3, d4, d5⟩ := dfs_end hD hcl
    exact q _ ll left Sc nll hll4 hs4 hk4 ⟨d1, hSc, fun x hx => by have := (List.getElem?_eq_some_iff.mp ((d2 x).mpr (.inr hx))).1; omega, d2, d3, d4, d5⟩
  rw [List.concat_eq_append] at *
  refine iteNot (by simp) ?_
  refine ⟨fun σ' H' => ∃ m', m' < m ∧ Pv m' σ' H', fun σ' H' h => h, ?_⟩
  obtain ⟨xs, pt, g1, g2, g3, g4⟩ := htl4.pop
  refine ⟨_, rfl, .inl ⟨rfl, _, SqL.of g1⟩, tl, _, _, rfl, rfl, g1, g2, ?_⟩
  have nptl : pt ≠ tl := ne_of g3 g1 (by intro z; cases z)
  have hk5 : Kept s H (upd H4 tl (.lst xs.dropLast)) := hk4.put ntlH
  have hll5 : (upd H4 tl (.lst xs.dropLast)) ll = some (.lst (iv left)) := by rw [upd_ne ntll.symm]; exact hll4
  have hs5 : (upd H4 tl (.lst xs.dropLast)) s = some (.lst (bv Sc)) := by rw [upd_ne ntls.symm]; exact hs4
  have hp5 : (upd H4 tl (.lst xs.dropLast)) pt = some (.tup [.int (x : Int), .int (i : Int)]) := by rw [upd_ne nptl]; exact g3
  generalize upd H4 tl (.lst xs.dropLast) = H5 at hk5 hll5 hs5 hp5 g4
  refine ⟨pt, _, rfl, SqT.of hp5, rfl, _, _, rfl, _, _, rfl, rfl, ?_⟩
  have hgx : Got Sc x := (hD.iff_ x).mpr (.inr (.inr (by simp)))
  have hxN : x < N := by have := (List.getElem?_eq_some_iff.mp hgx).1; omega
  have hix : i ≤ (adj x).length := hle (x, i) (by simp)
  have hszx := hA.sz x
  have hmany : left.length + rest.length + 1 ≤ N := by
    have h1 := few (N := N) hD.nd (fun z hz => by
      have hg : Got Sc z := by
        rw [hD.iff_]
        rcases List.mem_append.mp hz with c | c
        · exact .inr (.inl c)
        · exact .inr (.inr c)
      have := (List.getElem?_eq_some_iff.mp hg).1
      omega)
    rw [List.length_append, List.length_map, List.length_append, List.length_singleton] at h1
    omega
  have how : owed adj (rest ++ [(x, i)]) = owed adj rest + ((adj x).length - i + 1) := by
    rw [owed_app]
    show owed adj rest + (((adj x).length - i + 1) + 0) = _
    omega
  obtain ⟨rx, rxs, e1, e2, e3⟩ := (hRk _ hk5).get hxN
  refine ⟨_, rfl, _, rfl, _, rfl, _, _, _, .ref rx, rfl, rfl, SqL.of e1, e2, rx, _, rfl, .inl (SqL.of e3), rfl, _, rfl, ?_⟩
  by_cases c : i = (adj x).length
  · refine iteYes (int_eq.mpr (by rw [List.length_map, c])) ?_
    refine ⟨_, rfl, .inl ⟨rfl, _, SqL.of hll5⟩, _, rfl, ll, _, _, rfl, rfl, hll5, ?_, ?_⟩
    · rw [List.length_map]
      exact Nat.lt_of_lt_of_le (by omega : left.length < 1000) (by decide)
    refine ⟨_, ?_, _, _, v7, left ++ [x], rest, Sc, rfl, hk5.put nll, by rw [upd_same, iv_app], ?_, ?_, hSc, dfs_leave hD (by omega) hcl, fun f hf => hle f (List.mem_append_left _ hf), rfl⟩
    · rw [← hμ, how]
      omega
    · obtain ⟨tas, t1, t2⟩ := g4
      refine ⟨tas, by rw [upd_ne ntll]; exact t1, paired_mono (fun q' e' hq => ?_) t2⟩
      have : q' ≠ ll := ne_of hq hll5 (by intro z; cases z)
      show upd _ _ _ q' = _
      rw [upd_ne this]
      exact hq
    · rw [upd_ne nls.symm]
      exact hs5
  refine iteNo (fun z => c (by have := int_eq.mp z; rw [List.length_map] at this; omega)) ?_
  have hil : i < (adj x).length := by omega
  obtain ⟨xs1, hx1, hx1l⟩ := g4.get
  refine ⟨_, rfl, .inl ⟨rfl, _, SqL.of hx1⟩, _, rfl, _, rfl, _, _, rfl, rfl, (by show 2 ≤ sizeLine; decide), fun tq ntq => ?_⟩
  obtain ⟨ys, k1, k2, k3⟩ := g4.pushV (u := x) (v := i + 1) (x := V.int (x : Int)) (y := V.int ((i : Int) + 1)) rfl rfl ntq
  refine ⟨tl, _, _, rfl, rfl, k1, by rw [k2]; exact Nat.lt_of_lt_of_le (by omega : rest.length < 1000) (by decide), ?_⟩
  have hk6 : Kept s H (upd (upd H5 tq (.tup [.int (x : Int), .int ((i : Int) + 1)])) tl (.lst (ys ++ [.ref tq]))) := (hk5.new ntq).put ntlH
  have hll6 : (upd (upd H5 tq (.tup [.int (x : Int), .int ((i : Int) + 1)])) tl (.lst (ys ++ [.ref tq]))) ll = some (.lst (iv left)) := by rw [upd_ne ntll.symm]; exact same_new ntq _ _ _ hll5
  have hs6 : (upd (upd H5 tq (.tup [.int (x : Int), .int ((i : Int) + 1)])) tl (.lst (ys ++ [.ref tq]))) s = some (.lst (bv Sc)) := by rw [upd_ne ntls.symm]; exact same_new ntq _ _ _ hs5
  dsimp only
  generalize upd (upd H5 tq (.tup [.int (x : Int), .int ((i : Int) + 1)])) tl (.lst (ys ++ [.ref tq])) = H6 at hk6 hll6 hs6 k3
  obtain ⟨rx6, rxs6, f1, f2, f3⟩ := (hRk _ hk6).get hxN
  have hy : (adj x)[i]? = some ((adj x)[i]'hil) := List.getElem?_eq_getElem hil
  generalize (adj x)[i]'hil = y at hy
  have hyN : y < N := hA.lt x y (List.mem_of_getElem? hy)
  refine ⟨_, rfl, _, rfl, _, _, _, .ref rx6, rfl, rfl, SqL.of f1, f2, _, rfl, _, _, _, .int (y : Int), rfl, rfl, SqL.of f3, iv_at hy, ?_⟩
  have how2 : owed adj (rest ++ [(x, i + 1)]) = owed adj rest + ((adj x).length - (i + 1) + 1) := by
    rw [owed_app]
    show owed adj rest + (((adj x).length - (i + 1) + 1) + 0) = _
    omega
  have hle2 : ∀ f ∈ rest ++ [(x, i + 1)], f.2 ≤ (adj f.1).length := fun f hf => by
    rcases List.mem_append.mp hf with z | z
    · exact hle f (List.mem_append_left _ z)
    · rw [List.mem_singleton.mp z]
      exact hil
  rcases bl_of (L := Sc) (j := y) (by omega) with hb | hb
  · refine ⟨_, rfl, _, rfl, _, _, _, _, rfl, rfl, SqL.of hs6, bv_at hb, _, rfl, iteF ?_⟩
    refine ⟨_, ?_, _, _, _, left, rest ++ [(x, i + 1)], Sc, rfl, hk6, hll6, k3, hs6, hSc, dfs_old hD hy hb, hle2, rfl⟩
    rw [← hμ, how, how2]
    omega
  · refine ⟨_, rfl, _, rfl, _, _, _, _, rfl, rfl, SqL.of hs6, bv_at hb, _, rfl, iteT ?_⟩
    have hnew : ¬ Got Sc y := fun z => by unfold Got at z; rw [hb] at z; cases z
    refine ⟨_, rfl, _, rfl, s, _, _, y, rfl, rfl, hs6, ix_at (by rw [List.length_map, hSc]; exact hyN), ?_⟩
    rw [bv_set]
    have hk7 : Kept s H (upd H6 s (.lst (bv (Sc.set y true)))) := fun b o z n => by rw [upd_ne n]; exact hk6 _ _ z n
    have hll7 : (upd H6 s (.lst (bv (Sc.set y true)))) ll = some (.lst (iv left)) := by rw [upd_ne nls]; exact hll6
    have hs7 : (upd H6 s (.lst (bv (Sc.set y true)))) s = some (.lst (bv (Sc.set y true))) := upd_same
    have hT7 : TiesAt (upd H6 s (.lst (bv (Sc.set y true)))) tl (rest ++ [(x, i + 1)]) := by
      obtain ⟨tas, t1, t2⟩ := k3
      refine ⟨tas, by rw [upd_ne ntls]; exact t1, paired_mono (fun q' e' hq => ?_) t2⟩
      have : q' ≠ s := ne_of hq hs6 (by intro z; cases z)
      show upd _ _ _ q' = _
      rw [upd_ne this]
      exact hq
    generalize upd H6 s (.lst (bv (Sc.set y true))) = H7 at hk7 hll7 hs7 hT7
    obtain ⟨xs7, hx7, hx7l⟩ := hT7.get
    refine ⟨_, rfl, .inl ⟨rfl, _, SqL.of hx7⟩, _, rfl, (by show 2 ≤ sizeLine; decide), fun tr2 ntr => ?_⟩
    obtain ⟨zs, m1, m2, m3⟩ := hT7.pushV (u := y) (v := 0) (x := V.int (y : Int)) (y := V.int 0) rfl rfl ntr
    refine ⟨tl, _, _, rfl, rfl, m1, by rw [m2, List.length_append, List.length_singleton]; exact Nat.lt_of_lt_of_le (by omega : rest.length + 1 < 1000) (by decide), ?_⟩
    have hset := todo_set adj hb N
    rw [if_pos hyN] at hset
    have how3 : owed adj (rest ++ [(x, i + 1)] ++ [(y, 0)]) = owed adj (rest ++ [(x, i + 1)]) + ((adj y).length + 1) := by
      rw [owed_app]
      show _ + (((adj y).length - 0 + 1) + 0) = _
      omega
    refine ⟨_, ?_, _, _, _, left, rest ++ [(x, i + 1)] ++ [(y, 0)], Sc.set y true, rfl, (hk7.new ntr).put ntlH, by rw [upd_ne ntll.symm]; exact same_new ntr _ _ _ hll7, m3, by rw [upd_ne ntls.symm]; exact same_new ntr _ _ _ hs7, by rw [List.length_set]; exact hSc, dfs_new hD hy hnew (got_set (by omega)), fun f hf => ?_, rfl⟩
    · rw [← hμ, how, how3, how2]
      omega
    · rcases List.mem_append.mp hf with z | z
      · exact hle2 f z
      · rw [List.mem_singleton.mp z]
        exact Nat.zero_le _
end
end My
namespace My
open PySem PySem.W L2 L2.DX PyProof.Rows
/-! ### the parts of a web -/
def Mut (E : Nat → Nat → Prop) (u v : Nat) : Prop := Rch E u v ∧ Rch E v u
theorem mut_refl {E : Nat → Nat → Prop} (u : Nat) : Mut E u u := ⟨rch_refl u, rch_refl u⟩
theorem Mut.symm {E : Nat → Nat → Prop} {u v : Nat} (h : Mut E u v) : Mut E v u := ⟨h.2, h.1⟩
theorem Mut.trans {E : Nat → Nat → Prop} {u v w : Nat} (h : Mut E u v) (k : Mut E v w) : Mut E u w := ⟨rch_trans h.1 k.1, rch_trans k.2 h.2⟩
theorem rch_back {E F : Nat → Nat → Prop} (h : ∀ a b, F a b ↔ E b a) {u v : Nat} : Rch F u v ↔ Rch E v u := by
  constructor
  · intro r
    obtain ⟨k, r⟩ := rch_flip r
    refine rch_closed (S := fun x => Rch E v x) (fun a b ha e => rch_trans ha (rch_one ((h b a).mp e))) (rch_refl v) ⟨k, r⟩
  · intro r
    obtain ⟨k, r⟩ := rch_flip r
    refine rch_closed (S := fun x => Rch F u x) (fun a b ha e => rch_trans ha (rch_one ((h a b).mpr e))) (rch_refl u) ⟨k, r⟩
theorem mut_back {E F : Nat → Nat → Prop} (h : ∀ a b, F a b ↔ E b a) {u v : Nat} : Mut F u v ↔ Mut E u v := by
  unfold Mut
  rw [rch_back h, rch_back h]
  exact ⟨fun z => ⟨z.2, z.1⟩, fun z => ⟨z.2, z.1⟩⟩
theorem rch_low {E : Nat → Nat → Prop} {N : Nat} (h : ∀ a b, E a b → a < N) {u v : Nat} (hv : v < N) (r : Rch E u v) : u < N := by
  by_cases c : u = v
  · omega
  · obtain ⟨x, y, hx, hy, e, _⟩ := rch_leave (S := fun z => z = u) rfl (fun z => c z.symm) r
    rw [hx] at e
    exact h _ _ e
/-- the sequence in which a search leaves the points -/
def StarL (E : Nat → Nat → Prop) (L : List Nat) : Prop := ∀ A q B, L = A ++ q :: B → ∀ x, Rch E q x → x ∈ A ∨ x = q ∨ ∃ y ∈ B, Rch E q y ∧ Rch E y q ∧ Rch E y x
theorem star_nil {E : Nat → Nat → Prop} : StarL E [] := fun A q B e => by simp at e
theorem star_app {E : Nat → Nat → Prop} {L M : List Nat} (h : StarL E L) (k : ∀ A q B, M = A ++ q :: B → ∀ x, Rch E q x → x ∈ L ∨ x ∈ A ∨ x = q ∨ ∃ y ∈ B, Rch E q y ∧ Rch E y q ∧ Rch E y x) : StarL E (L ++ M) := by
  intro A q B e x r
  rcases List.append_eq_append_iff.mp e with ⟨a', h1, h2⟩ | ⟨c', h1, h2⟩
  · rcases k a' q B h2 x r with z | z | z | z
    · exact .inl (by rw [h1]; exact List.mem_append_left _ z)
    · exact .inl (by rw [h1]; exact List.mem_append_right _ z)
    · exact .inr (.inl z)
    · exact .inr (.inr z)
  · cases c' with
    | nil =>
      simp at h1 h2
      rcases k [] q B (by rw [← h2]; rfl) x r with z | z | z | z
      · exact .inl (by rw [← h1]; exact z)
      · simp at z
      · exact .inr (.inl z)
      · exact .inr (.inr z)
    | cons c0 cr =>
      have e0 : q = c0 := (List.cons.inj h2).1
      have e1 : B = cr ++ M := (List.cons.inj h2).2
      subst e0
      rcases h A q cr h1 x r with z | z | ⟨y, hy, z⟩
      · exact .inl z
      · exact .inr (.inl z)
      · exact .inr (.inr ⟨y, by rw [e1]; exact List.mem_append_left _ hy, z⟩)
theorem star_class {E : Nat → Nat → Prop} {q : Nat} {B : List Nat} : ∀ (n : Nat) {A1 A2 : List Nat} {x : Nat}, A2.length ≤ n → StarL E (A1 ++ x :: (A2 ++ q :: B)) → (A1 ++ x :: (A2 ++ q :: B)).Nodup → Rch E x q → Mut E x q ∨ ∃ y ∈ B, Mut E x y := by
  intro n
  induction n with
  | zero =>
    intro A1 A2 x hn hs hd r
    have e : A2 = [] := List.length_eq_zero_iff.mp (by omega)
    subst e
    rw [List.nil_append] at hs hd
    have hd2 := List.nodup_append.mp hd
    rcases hs A1 x _ rfl q r with z | z | ⟨y, hy, r1, r2, r3⟩
    · exact absurd rfl (hd2.2.2 q z q (by simp))
    · have := (List.nodup_cons.mp hd2.2.1).1
      rw [z] at this
      exact absurd List.mem_cons_self this
    · rcases List.mem_cons.mp hy with z | z
      · rw [z] at r1 r2
        exact .inl ⟨r1, r2⟩
      · exact .inr ⟨y, z, r1, r2⟩
  | succ n ih =>
    intro A1 A2 x hn hs hd r
    have hd2 := List.nodup_append.mp hd
    rcases hs A1 x _ rfl q r with z | z | ⟨y, hy, r1, r2, r3⟩
    · exact absurd rfl (hd2.2.2 q z q (by simp))
    · have := (List.nodup_cons.mp hd2.2.1).1
      rw [z] at this
      exact absurd (by simp) this
    · rcases List.mem_append.mp hy with z | z
      · obtain ⟨C1, C2, rfl⟩ := List.append_of_mem z
        have e2 : A1 ++ x :: (C1 ++ y :: C2 ++ q :: B) = (A1 ++ x :: C1) ++ y :: (C2 ++ q :: B) := by simp
        rw [e2] at hs hd
        have hl : C2.length ≤ n := by
          rw [List.length_append, List.length_cons] at hn
          omega
        rcases ih hl hs hd r3 with w | ⟨v, hv, w⟩
        · exact .inl (Mut.trans ⟨r1, r2⟩ w)
        · exact .inr ⟨v, hv, Mut.trans ⟨r1, r2⟩ w⟩
      · rcases List.mem_cons.mp z with w | w
        · rw [w] at r1 r2
          exact .inl ⟨r1, r2⟩
        · exact .inr ⟨y, w, r1, r2⟩
theorem class_of {E : Nat → Nat → Prop} {A B : List Nat} {q : Nat} {S : Nat → Prop} (hs : StarL E (A ++ q :: B)) (hd : (A ++ q :: B).Nodup) (hall : ∀ x, Rch E x q → x ∈ A ++ q :: B) (hS : ∀ x, S x ↔ ∃ y ∈ B, Mut E y x) (hq : ¬ S q) (x : Nat) : (Rch E x q ∧ ¬ S x) ↔ Mut E q x := by
  constructor
  · rintro ⟨r, hn⟩
    rcases List.mem_append.mp (hall x r) with z | z
    · obtain ⟨A1, A2, rfl⟩ := List.append_of_mem z
      rw [show A1 ++ x :: A2 ++ q :: B = A1 ++ x :: (A2 ++ q :: B) by simp] at hs hd
      rcases star_class A2.length (Nat.le_refl _) hs hd r with w | ⟨y, hy, w⟩
      · exact w.symm
      · exact absurd ((hS x).mpr ⟨y, hy, w.symm⟩) hn
    · rcases List.mem_cons.mp z with w | w
      · rw [w]; exact mut_refl q
      · exact absurd ((hS x).mpr ⟨x, w, mut_refl x⟩) hn
  · intro h
    refine ⟨h.2, fun z => hq ?_⟩
    obtain ⟨y, hy, w⟩ := (hS x).mp z
    exact (hS q).mpr ⟨y, hy, w.trans h.symm⟩
/-! ### as they are told -/
noncomputable def bdec (p : Prop) : Bool := @decide p (Classical.propDecidable p)
theorem bdec_iff {p : Prop} : bdec p = true ↔ p := by
  unfold bdec
  exact @decide_eq_true_iff p (Classical.propDecidable p)
noncomputable def clsL (E : Nat → Nat → Prop) (N p : Nat) : List Nat := (List.range N).filter fun x => bdec (Mut E p x)
theorem clsL_mem {E : Nat → Nat → Prop} {N p x : Nat} : x ∈ clsL E N p ↔ x < N ∧ Mut E p x := by
  unfold clsL
  rw [List.mem_filter, List.mem_range, bdec_iff]
theorem clsL_rising {E : Nat → Nat → Prop} {N p : Nat} : (clsL E N p).Pairwise (· < ·) := by
  unfold clsL
  exact List.Pairwise.filter _ List.pairwise_lt_range
theorem clsL_same {E : Nat → Nat → Prop} {N p q : Nat} (h : Mut E p q) : clsL E N p = clsL E N q := by
  unfold clsL
  congr 1
  funext x
  have e : Mut E p x ↔ Mut E q x := ⟨fun z => h.symm.trans z, fun z => h.trans z⟩
  rw [show (Mut E p x) = (Mut E q x) from propext e]
noncomputable def headsL (E : Nat → Nat → Prop) (N : Nat) : List Nat := (List.range N).filter fun p => bdec (∀ x, x < p → ¬ Mut E p x)
theorem headsL_mem {E : Nat → Nat → Prop} {N p : Nat} : p ∈ headsL E N ↔ p < N ∧ ∀ x, x < p → ¬ Mut E p x := by
  unfold headsL
  rw [List.mem_filter, List.mem_range, bdec_iff]
theorem headsL_rising {E : Nat → Nat → Prop} {N : Nat} : (headsL E N).Pairwise (· < ·) := by
  unfold headsL
  exact List.Pairwise.filter _ List.pairwise_lt_range
noncomputable def partsL (E : Nat → Nat → Prop) (N : Nat) : List (List Nat) := (headsL E N).map (clsL E N)
theorem least_of {P : Nat → Prop} : ∀ n, P n → ∃ m, P m ∧ ∀ x, x < m → ¬ P x := by
  intro n
  induction n using Nat.strongRecOn with
  | ind n ih =>
    intro hn
    by_cases c : ∃ x, x < n ∧ P x
    · obtain ⟨x, hx, h⟩ := c
      exact ih x hx h
    · exact ⟨n, hn, fun x hx h => c ⟨x, hx, h⟩⟩
/-- each point's least companion -/
theorem head_of {E : Nat → Nat → Prop} {N p : Nat} (hp : p < N) : ∃ h ∈ headsL E N, Mut E p h := by
  obtain ⟨m, h1, h2⟩ := least_of (P := fun x => Mut E p x) p (mut_refl p)
  refine ⟨m, headsL_mem.mpr ⟨?_, fun x hx hm => h2 x hx (h1.trans hm)⟩, h1⟩
  rcases Nat.lt_or_ge p m with c | c
  · exact absurd (mut_refl p) (h2 p c)
  · omega
theorem head_unique {E : Nat → Nat → Prop} {N a b : Nat} (ha : a ∈ headsL E N) (hb : b ∈ headsL E N) (h : Mut E a b) : a = b := by
  rw [headsL_mem] at ha hb
  rcases Nat.lt_trichotomy a b with c | c | c
  · exact absurd h.symm (hb.2 a c)
  · exact c
  · exact absurd h (ha.2 b c)
theorem clsL_head {E : Nat → Nat → Prop} {N p : Nat} (hp : p ∈ headsL E N) : ∃ r, clsL E N p = p :: r := by
  have h0 := headsL_mem.mp hp
  have hm : p ∈ clsL E N p := clsL_mem.mpr ⟨h0.1, mut_refl p⟩
  have hr := clsL_rising (E := E) (N := N) (p := p)
  cases e : clsL E N p with
  | nil => rw [e] at hm; simp at hm
  | cons a r =>
    rw [e] at hm hr
    have ha : a ∈ clsL E N p := by rw [e]; simp
    rcases List.mem_cons.mp hm with z | z
    · exact ⟨r, by rw [z]⟩
    · have h1 := (List.pairwise_cons.mp hr).1 p z
      exact absurd (clsL_mem.mp ha).2 (h0.2 a h1)
theorem parts_back {E F : Nat → Nat → Prop} (h : ∀ a b, F a b ↔ E b a) (N : Nat) : partsL F N = partsL E N := by
  have e : Mut F = Mut E := by
    funext u v
    exact propext (mut_back h)
  unfold partsL headsL clsL
  rw [e]
/-! ### sorted -/
abbrev dn (L : List Nat) : PyData := .list (L.map fun n : Nat => PyData.int (n : Int))
theorem keyTok_dn (a : Nat) (r : List Nat) : ∃ t, keyToks (dn (a :: r)) = .inl 1 :: .inl (a : Int) :: t := by
  refine ⟨keyToksAll (r.map fun n : Nat => PyData.int (n : Int)), ?_⟩
  show keyToks (.list (PyData.int (a : Int) :: (r.map fun n : Nat => PyData.int (n : Int)))) = _
  rw [keyToks, keyToksAll, keyToks]
  rfl
theorem dataLe_refl (d : PyData) : dataLe false id d d = true := by
  show (!(listOrd itemOrd).blt (keyToks d) (keyToks d)) = true
  rw [(listOrd itemOrd).irrefl]
  rfl
theorem dataLe_dn {a b : Nat} {r t : List Nat} (h : a ≠ b) : dataLe false id (dn (a :: r)) (dn (b :: t)) = decide (a ≤ b) := by
  obtain ⟨x, hx⟩ := keyTok_dn a r
  obtain ⟨y, hy⟩ := keyTok_dn b t
  show (!(lexLt itemOrd (keyToks (dn (b :: t))) (keyToks (dn (a :: r))))) = _
  rw [hx, hy, lex_cons, lex_cons]
  have e1 : itemOrd.blt (Sum.inl 1) (Sum.inl 1) = false := itemOrd.irrefl _
  have e2 : itemOrd.blt (Sum.inl (b : Int)) (Sum.inl (a : Int)) = decide ((b : Int) < (a : Int)) := rfl
  have e3 : itemOrd.blt (Sum.inl (a : Int)) (Sum.inl (b : Int)) = decide ((a : Int) < (b : Int)) := rfl
  rw [e1, e2, e3]
  by_cases c : a ≤ b
  · have h1 : (a : Int) < (b : Int) := by omega
    have h2 : ¬ (b : Int) < (a : Int) := by omega
    simp [c, h1, h2]
  · have h1 : ¬ (a : Int) < (b : Int) := by omega
    have h2 : (b : Int) < (a : Int) := by omega
    simp [c, h2]
theorem sort_parts {E : Nat → Nat → Prop} {N : Nat} {hs : List Nat} (hp : hs.Perm (headsL E N)) : ((hs.map (clsL E N)).map dn).mergeSort (dataLe false id) = (partsL E N).map dn := by
  have hmem : ∀ a ∈ hs, a ∈ headsL E N := fun a ha => hp.mem_iff.mp ha
  rw [List.map_map, ← List.map_mergeSort (f := dn ∘ clsL E N) (r := fun a b : Nat => decide (a ≤ b)) (s := dataLe false id) (l := hs) (fun a ha b hb => ?_)]
  · unfold partsL
    rw [List.map_map]
    congr 1
    have h1 : (hs.mergeSort fun a b : Nat => decide (a ≤ b)).Pairwise (fun a b => decide (a ≤ b) = true) := List.pairwise_mergeSort (fun a b c h k => by simp at *; omega) (fun a b => by simp; omega) hs
    have h2 : (hs.mergeSort fun a b : Nat => decide (a ≤ b)).Perm (headsL E N) := (List.mergeSort_perm _ _).trans hp
    refine h2.eq_of_pairwise ?_ (h1.imp fun h => of_decide_eq_true h) (headsL_rising.imp fun h => Nat.le_of_lt h)
    intro a b _ _ h k
    omega
  · by_cases c : a = b
    · subst c
      show decide (a ≤ a) = dataLe false id _ _
      rw [dataLe_refl]
      simp
    · obtain ⟨r, er⟩ := clsL_head (hmem a ha)
      obtain ⟨t, et⟩ := clsL_head (hmem b hb)
      show decide (a ≤ b) = dataLe false id (dn (clsL E N a)) (dn (clsL E N b))
      rw [er, et, dataLe_dn c]
end My
namespace My
open PySem L2 PyProof.Rows
abbrev cn (L : List Nat) : List Int := L.map fun n : Nat => (n : Int)
theorem cn_rising {L : List Nat} (h : L.Pairwise (· < ·)) : (cn L).Pairwise (· < ·) := List.Pairwise.map _ (fun a b hab => by show (a : Int) < (b : Int); omega) h
theorem cn_nodup {L : List Nat} (h : L.Nodup) : (cn L).Nodup := List.Pairwise.map (R := (· ≠ ·)) _ (fun a b hab z => hab (by omega)) h
theorem cls_sorted {E : Nat → Nat → Prop} {N q : Nat} {M : List Nat} {ys : List Int} (hn : M.Nodup) (hm : ∀ x, x ∈ M ↔ x < N ∧ Mut E q x) (hp : ys.Perm (cn M)) (hs : ys.Pairwise (· ≤ ·)) : ys = cn (clsL E N q) := by
  refine rising_ext (rising_of hs ((hp.nodup_iff).mpr (cn_nodup hn))) (cn_rising clsL_rising) fun z => ?_
  rw [hp.mem_iff, List.mem_map, List.mem_map]
  constructor
  · rintro ⟨x, hx, rfl⟩
    exact ⟨x, clsL_mem.mpr ((hm x).mp hx), rfl⟩
  · rintro ⟨x, hx, rfl⟩
    exact ⟨x, (hm x).mpr (clsL_mem.mp hx), rfl⟩
noncomputable def headO (E : Nat → Nat → Prop) (N p : Nat) : Nat := @dite _ (p < N) (Classical.propDecidable _) (fun h => Classical.choose (head_of (E := E) h)) fun _ => 0
theorem headO_spec {E : Nat → Nat → Prop} {N p : Nat} (h : p < N) : headO E N p ∈ headsL E N ∧ Mut E p (headO E N p) := by
  unfold headO
  rw [dif_pos h]
  exact Classical.choose_spec (head_of (E := E) h)
theorem reps_heads {E : Nat → Nat → Prop} {N : Nat} {HS : List Nat} (hR : HS.Pairwise fun a b => ¬ Mut E a b) (hlt : ∀ q ∈ HS, q < N) (hall : ∀ x, x < N → ∃ q ∈ HS, Mut E x q) : ∃ hs : List Nat, hs.Perm (headsL E N) ∧ HS.map (clsL E N) = hs.map (clsL E N) := by
  refine ⟨HS.map (headO E N), ?_, ?_⟩
  · have hnd : (HS.map (headO E N)).Nodup := by
      rw [List.Nodup, List.pairwise_map]
      refine List.Pairwise.imp_of_mem ?_ hR
      intro a b ha hb h e
      have h1 := (headO_spec (E := E) (hlt a ha)).2
      have h2 := (headO_spec (E := E) (hlt b hb)).2
      rw [e] at h1
      exact h (h1.trans h2.symm)
    refine (List.perm_ext_iff_of_nodup hnd (headsL_rising.imp fun h => Nat.ne_of_lt h)).mpr fun x => ?_
    rw [List.mem_map]
    constructor
    · rintro ⟨q, hq, rfl⟩
      exact (headO_spec (hlt q hq)).1
    · intro hx
      have hx0 := headsL_mem.mp hx
      obtain ⟨q, hq, hm⟩ := hall x hx0.1
      have h2 := headO_spec (E := E) (hlt q hq)
      exact ⟨q, hq, (head_unique hx h2.1 (hm.trans h2.2)).symm⟩
  · rw [List.map_map]
    refine List.map_congr_left fun q hq => ?_
    exact clsL_same (headO_spec (hlt q hq)).2
abbrev Ed (ts : List (Nat × Nat)) : Nat → Nat → Prop := Edge ts []
theorem ed_low {ts : List (Nat × Nat)} {N : Nat} (ho : OkWeb N ts) {a b : Nat} (e : Ed ts a b) : a < N ∧ b < N := by
  obtain ⟨i, h, _⟩ := e
  exact ho.ok _ (List.mem_of_getElem? h)
theorem ed_swaps {ts : List (Nat × Nat)} (a b : Nat) : Ed (swaps ts) a b ↔ Ed ts b a := by
  unfold Ed Edge swaps
  constructor
  · rintro ⟨i, h, n⟩
    rw [List.getElem?_map] at h
    cases e : ts[i]? with
    | none => rw [e] at h; cases h
    | some p =>
      rw [e] at h
      cases h
      exact ⟨i, e, n⟩
  · rintro ⟨i, h, n⟩
    refine ⟨i, ?_, n⟩
    rw [List.getElem?_map, h]
    rfl
theorem edf {ts : List (Nat × Nat)} : (fun u v => v ∈ outs ts [] u) = Ed ts := by
  funext u v
  exact propext outs_mem
theorem lf_ok {ts : List (Nat × Nat)} {N : Nat} (ho : OkWeb N ts) : LfOk (outs ts []) N :=
  ⟨ho.n1, fun u v h => (ed_low ho (outs_mem.mp h)).2, fun u => Nat.le_trans (outN_len ts [] u ts.length) ho.m⟩
def LolAt (H : Hp) (l : Addr) (LL : List (List Nat)) : Prop := ∃ as : List Addr, H l = some (.lst (as.map V.ref)) ∧ Paired (fun (p : Addr) (L : List Nat) => H p = some (.lst (iv L))) as LL
theorem LolAt.same {H H' : Hp} {l : Addr} {LL : List (List Nat)} (h : LolAt H l LL) (s : Same H H') : LolAt H' l LL := by
  obtain ⟨as, h1, h2⟩ := h
  exact ⟨as, s _ _ h1, paired_mono (fun p e hp => s _ _ hp) h2⟩
theorem outN_at {ts : List (Nat × Nat)} {i u v : Nat} (h : ts[i]? = some (u, v)) (j : Nat) : outN ts [] j (i + 1) = if u = j then outN ts [] j i ++ [v] else outN ts [] j i := by
  show (match ts[i]? with | some e => if e.1 = j ∧ i ∉ [] then outN ts [] j i ++ [e.2] else outN ts [] j i | none => outN ts [] j i) = _
  rw [h]
  by_cases c : u = j
  · show (if u = j ∧ i ∉ [] then _ else _) = _
    rw [if_pos c, if_pos ⟨c, by simp⟩]
  · show (if u = j ∧ i ∉ [] then _ else _) = _
    rw [if_neg c, if_neg (fun z => c z.1)]
theorem swaps_at {ts : List (Nat × Nat)} {i u v : Nat} (h : ts[i]? = some (u, v)) : (swaps ts)[i]? = some (v, u) := by
  unfold swaps
  rw [List.getElem?_map, h]
  rfl
theorem swaps_len (ts : List (Nat × Nat)) : (swaps ts).length = ts.length := by
  unfold swaps
  rw [List.length_map]
/-- rows that grow -/
theorem row_put {H : Hp} {fas : List Addr} {f g : Nat → List Nat} {u v : Nat} {xu : Addr} (hn : fas.Nodup) (eu : fas[u]? = some xu) (h : ∀ (j : Nat) (x : Addr), fas[j]? = some x → H x = some (.lst (iv (f j)))) (hg : ∀ j, g j = if u = j then f j ++ [v] else f j) :
    ∀ (j : Nat) (x : Addr), fas[j]? = some x → (upd H xu (.lst (iv (f u) ++ [.int (v : Int)]))) x = some (.lst (iv (g j))) := fun j x e => by
  by_cases c : u = j
  · subst c
    rw [eu] at e
    cases e
    rw [upd_same, hg, if_pos rfl, iv_app]
  · have nx : x ≠ xu := fun z => c (nodup_get hn eu (by rw [← z]; exact e))
    rw [upd_ne nx, hg, if_neg c]
    exact h j x e
structure Pass1 (ts : List (Nat × Nat)) (N i : Nat) (L : List Nat) (S : List Bool) : Prop where
  nd : L.Nodup
  lt : ∀ x ∈ L, x < N
  got : ∀ x, Got S x ↔ x ∈ L
  ln : S.length = N
  cl : ∀ u v, Got S u → v ∈ outs ts [] u → Got S v
  up : ∀ x, x < i → x ∈ L
  star : StarL (Ed ts) L
theorem rep_false (N : Nat) : (List.replicate (N : Int).toNat [V.bl false]).flatten = bv (List.replicate N false) := by
  rw [Int.toNat_natCast]
  induction N with
  | zero => rfl
  | succ n ih =>
    rw [List.replicate_succ, List.replicate_succ, List.flatten_cons, ih]
    rfl
theorem no_got (N x : Nat) : ¬ Got (List.replicate N false) x := fun h => by
  unfold Got at h
  rw [List.getElem?_replicate] at h
  split at h
  · cases h
  · cases h
theorem pass1_start (ts : List (Nat × Nat)) (N : Nat) : Pass1 ts N 0 [] (List.replicate N false) :=
  ⟨by simp, by simp, fun x => ⟨fun h => absurd h (no_got N x), fun h => by simp at h⟩, by simp, fun u v h => absurd h (no_got N u), fun x h => by omega, star_nil⟩
theorem pass1_old {ts : List (Nat × Nat)} {N i : Nat} {L : List Nat} {S : List Bool} (h : Pass1 ts N i L S) (hi : Got S i) : Pass1 ts N (i + 1) L S :=
  ⟨h.nd, h.lt, h.got, h.ln, h.cl, fun x hx => by
    by_cases c : x = i
    · rw [c]; exact (h.got i).mp hi
    · exact h.up x (by omega), h.star⟩
theorem pass1_new {ts : List (Nat × Nat)} {N i : Nat} {L M : List Nat} {S S' : List Bool} (h : Pass1 ts N i L S) (r : LfRes (outs ts []) N i S S' M) (hi : ¬ Got S i) : Pass1 ts N (i + 1) (L ++ M) S' := by
  refine ⟨?_, fun x hx => ?_, fun x => ?_, r.ln, r.cl, fun x hx => ?_, star_app h.star fun A q B e x rr => ?_⟩
  · rw [List.nodup_append]
    refine ⟨h.nd, r.nd, fun a ha b hb e => ?_⟩
    rw [← e] at hb
    exact ((r.mem a).mp hb).2 ((h.got a).mpr ha)
  · rcases List.mem_append.mp hx with z | z
    · exact h.lt x z
    · exact r.lt x z
  · rw [r.got, h.got, List.mem_append]
  · by_cases c : x = i
    · rw [c]
      exact List.mem_append_right _ ((r.mem i).mpr ⟨rch_refl i, hi⟩)
    · exact List.mem_append_left _ (h.up x (by omega))
  · have hr := r.star A q B e x (by rw [edf]; exact rr)
    rw [edf] at hr
    rcases hr with z | z
    · exact .inl ((h.got x).mp z)
    · exact .inr z
theorem iv_bv {L : List Nat} {S : List Bool} (h : iv L = bv S) : S = [] := by
  cases S with
  | nil => rfl
  | cons b r =>
    cases L with
    | nil => cases h
    | cons n t => cases (List.cons.inj h).1
theorem LolAt.put {H : Hp} {l p : Addr} {LL : List (List Nat)} {S S2 : List Bool} (h : LolAt H l LL) (hl : l ≠ p) (hp : H p = some (.lst (bv S))) (hS : S ≠ []) {H' : Hp} (k : Kept p H H') : LolAt H' l LL := by
  obtain ⟨as, h1, h2⟩ := h
  refine ⟨as, k _ _ h1 hl, paired_mono (fun q L hq => k _ _ hq fun z => ?_) h2⟩
  rw [z, hp] at hq
  exact hS (iv_bv (HO.lst.inj (Option.some.inj hq)).symm)
theorem LolAt.push {H : Hp} {l p : Addr} {LL : List (List Nat)} {L : List Nat} (h : LolAt H l LL) (np : H p = none) : ∃ xs, (upd H p (.lst (iv L))) l = some (.lst xs) ∧ xs.length = LL.length ∧ LolAt (upd (upd H p (.lst (iv L))) l (.lst (xs ++ [.ref p]))) l (LL ++ [L]) := by
  obtain ⟨as, h1, h2⟩ := h
  have nl : l ≠ p := ne_of_none h1 np
  refine ⟨as.map V.ref, by rw [upd_ne nl]; exact h1, by rw [List.length_map]; exact paired_len h2, as ++ [p], by rw [upd_same, List.map_append]; rfl, paired_app ?_ (by rw [upd_ne nl.symm, upd_same])⟩
  have key : ∀ (q : Addr) (M : List Nat), q ∈ as → H q = some (.lst (iv M)) → q ≠ l := fun q M hq e z => by
    rw [z, h1] at e
    have e := HO.lst.inj (Option.some.inj e)
    have hm : V.ref q ∈ iv M := by rw [← e]; exact List.mem_map.mpr ⟨q, hq, rfl⟩
    obtain ⟨n, _, z2⟩ := List.mem_map.mp hm
    cases z2
  clear h1
  have go : ∀ {bs : List Addr} {MM : List (List Nat)}, (∀ q ∈ bs, q ∈ as) → Paired (fun (p : Addr) (L : List Nat) => H p = some (.lst (iv L))) bs MM → Paired (fun (q : Addr) (M : List Nat) => (upd (upd H p (.lst (iv L))) l (.lst (as.map V.ref ++ [.ref p]))) q = some (.lst (iv M))) bs MM := by
    intro bs MM hb hp
    induction hp with
    | nil => exact .nil
    | @cons q M bs MM r t ih =>
      refine .cons ?_ (ih fun x hx => hb x (List.mem_cons_of_mem _ hx))
      rw [upd_ne (key q M (hb q List.mem_cons_self) r), upd_ne (ne_of_none r np)]
      exact r
  exact go (fun q hq => hq) h2
/-- what a list tells is new -/
def NewIn (H H' : Hp) (l : Addr) : Prop := ∀ xs q, H' l = some (.lst xs) → V.ref q ∈ xs → H q = none
theorem NewIn.keep {H H' H2 : Hp} {l : Addr} (h : NewIn H H' l) (e : H2 l = H' l) : NewIn H H2 l := fun xs q hx hq => h xs q (e ▸ hx) hq
structure Pass2 (ts : List (Nat × Nat)) (N : Nat) (B : List Nat) (S : List Bool) (HS : List Nat) : Prop where
  ln : S.length = N
  got : ∀ x, Got S x ↔ ∃ y ∈ B, Mut (Ed ts) y x
  cl : ∀ u v, Got S u → v ∈ outs (swaps ts) [] u → Got S v
  rep : HS.Pairwise fun a b => ¬ Mut (Ed ts) a b
  sub : ∀ q ∈ HS, q ∈ B
  all : ∀ y ∈ B, ∃ q ∈ HS, Mut (Ed ts) y q
theorem pass2_start (ts : List (Nat × Nat)) (N : Nat) : Pass2 ts N [] (List.replicate N false) [] :=
  ⟨by simp, fun x => ⟨fun h => absurd h (no_got N x), fun ⟨y, hy, _⟩ => by simp at hy⟩, fun u v h => absurd h (no_got N u), by simp, by simp, by simp⟩
theorem pass2_old {ts : List (Nat × Nat)} {N q : Nat} {B : List Nat} {S : List Bool} {HS : List Nat} (h : Pass2 ts N B S HS) (hq : Got S q) : Pass2 ts N (B ++ [q]) S HS := by
  obtain ⟨y0, hy0, m0⟩ := (h.got q).mp hq
  refine ⟨h.ln, fun x => ?_, h.cl, h.rep, fun z hz => List.mem_append_left _ (h.sub z hz), fun y hy => ?_⟩
  · rw [h.got]
    constructor
    · rintro ⟨y, hy, m⟩
      exact ⟨y, List.mem_append_left _ hy, m⟩
    · rintro ⟨y, hy, m⟩
      rcases List.mem_append.mp hy with z | z
      · exact ⟨y, z, m⟩
      · rw [List.mem_singleton.mp z] at m
        exact ⟨y0, hy0, m0.trans m⟩
  · rcases List.mem_append.mp hy with z | z
    · exact h.all y z
    · rw [List.mem_singleton.mp z]
      obtain ⟨r, hr, m⟩ := h.all y0 hy0
      exact ⟨r, hr, m0.symm.trans m⟩
theorem pass2_mem {ts : List (Nat × Nat)} {N q : Nat} {A B L : List Nat} {S S' : List Bool} {HS M : List Nat} (ho : OkWeb N ts) (h : Pass2 ts N B S HS) (hL : L = A ++ q :: B.reverse) (hst : StarL (Ed ts) L) (hnd : L.Nodup) (hall : ∀ x, x < N → x ∈ L) (hqN : q < N) (hq : ¬ Got S q) (r : LfRes (outs (swaps ts) []) N q S S' M) (x : Nat) : x ∈ M ↔ x < N ∧ Mut (Ed ts) q x := by
  subst hL
  have hc := class_of hst hnd (fun y hy => hall y (rch_low (fun a b e => (ed_low ho e).1) hqN hy)) (S := Got S) (fun y => by rw [h.got]; simp) hq x
  rw [r.mem, edf, rch_back (fun a b => ed_swaps a b), hc]
  exact ⟨fun z => ⟨rch_low (fun a b e => (ed_low ho e).1) hqN z.2, z⟩, fun z => z.2⟩
theorem pass2_new {ts : List (Nat × Nat)} {N q : Nat} {B : List Nat} {S S' : List Bool} {HS M : List Nat} (ho : OkWeb N ts) (h : Pass2 ts N B S HS) (hq : ¬ Got S q) (hqN : q < N) (r : LfRes (outs (swaps ts) []) N q S S' M) (hm : ∀ x, x ∈ M ↔ x < N ∧ Mut (Ed ts) q x) : Pass2 ts N (B ++ [q]) S' (HS ++ [q]) := by
  refine ⟨r.ln, fun x => ?_, r.cl, ?_, fun z hz => ?_, fun y hy => ?_⟩
  · rw [r.got, h.got, hm]
    constructor
    · rintro (⟨y, hy, m⟩ | ⟨_, m⟩)
      · exact ⟨y, List.mem_append_left _ hy, m⟩
      · exact ⟨q, by simp, m⟩
    · rintro ⟨y, hy, m⟩
      rcases List.mem_append.mp hy with z | z
      · exact .inl ⟨y, z, m⟩
      · rw [List.mem_singleton.mp z] at m
        exact .inr ⟨rch_low (fun a b e => (ed_low ho e).1) hqN m.2, m⟩
  · rw [List.pairwise_append]
    refine ⟨h.rep, by simp, fun a ha b hb m => ?_⟩
    rw [List.mem_singleton.mp hb] at m
    exact hq ((h.got q).mpr ⟨a, h.sub a ha, m⟩)
  · rcases List.mem_append.mp hz with w | w
    · exact List.mem_append_left _ (h.sub z w)
    · exact List.mem_append_right _ w
  · rcases List.mem_append.mp hy with z | z
    · obtain ⟨p, hp, m⟩ := h.all y z
      exact ⟨p, List.mem_append_left _ hp, m⟩
    · rw [List.mem_singleton.mp z]
      exact ⟨q, by simp, mut_refl q⟩
section
variable {P : Program} {w : World} {K : PySem.W.Frag} {mg : Str → Option Value} {base : Heap} {C : Addr}
def spparts_in_turn (_ : PySem.W.Frag) (_ : Addr) : Sp := fun vs H Q _ => ∃ N s ts, vs = [.int ((N : Nat) : Int), .ref s] ∧ StepsAt H s ts ∧ OkWeb N ts ∧ ∀ H' l (hs : List Nat), H l = none → Same H H' → hs.Perm (headsL (Ed ts) N) → LolAt H' l (hs.map (clsL (Ed ts) N)) → NewIn H H' l → Q (.ref l) H'
theorem okparts_in_turn (D : Def K mg "parts_in_turn" sparts_in_turn ["points", "steps"]) (B : Bs mg) (Glb : Glo mg) (WK : WebK K mg C)
    (h_left_from : Good P w K mg base "_left_from" s_left_from ["ends", "point", "seen"] 1 (sp_left_from K C)) :
    Good P w K mg base "parts_in_turn" sparts_in_turn ["points", "steps"] 2 (spparts_in_turn K C) := by
  refine D.good fun f fd F => ?_
  obtain ⟨f_left_from, d_left_from, O_left_from, m_left_from, k_left_from, b_left_from, F_left_from⟩ := h_left_from
  refine F.ok scparts_in_turn (fun vs H Q E h => ?_) (fun cdv A outer s H vs Q E hr h => ?_)
  · obtain ⟨N, s, ts, rfl, hs, ho, q⟩ := h
    first | rfl | (rcases h with ⟨_, _, rfl, _⟩ | ⟨_, rfl, _⟩ <;> rfl)
  obtain ⟨N, s, ts, rfl, hs, ho, q⟩ := h
  refine ⟨_, (pss_cons (ps_setLc (i := 2) (own := [("_", 6)]) (g := gName 6) (by rfl) scparts_in_turn.nd rfl rfl (sw_true rfl rfl rfl (by decide +kernel)) (pi_range1 (by rfl) B.range (pa_cons (pv 0) pa_nil)) (blkOk_by (own := [("_", 6)]) (N := ["points", "steps", "ahead", "behind", "near", "far", "_", "left", "seen", "point", "parts"]) (sc := defScope sparts_in_turn) (by decide +kernel)) (fun _ _ _ _ _ => (pg_name (i := 6) scparts_in_turn.nd rfl (by first | exact Or.inl rfl | exact Or.inr rfl))) (fun _ _ _ _ _ => pts_nil) (fun _ _ _ _ _ => (pe_lst pa_nil)))
  (pss_cons (ps_setLc (i := 3) (own := [("_", 6)]) (g := gName 6) (by rfl) scparts_in_turn.nd rfl rfl (sw_true rfl rfl rfl (by decide +kernel)) (pi_range1 (by rfl) B.range (pa_cons (pv 0) pa_nil)) (blkOk_by (own := [("_", 6)]) (N := ["points", "steps", "ahead", "behind", "near", "far", "_", "left", "seen", "point", "parts"]) (sc := defScope sparts_in_turn) (by decide +kernel)) (fun _ _ _ _ _ => (pg_name (i := 6) scparts_in_turn.nd rfl (by first | exact Or.inl rfl | exact Or.inr rfl))) (fun _ _ _ _ _ => pts_nil) (fun _ _ _ _ _ => (pe_lst pa_nil)))
  (pss_cons (ps_for PassesOwn.never rfl (pi_list (pv 1)) (pg_tup rfl (pgs_cons (pg_name (i := 4) scparts_in_turn.nd rfl (by first | exact Or.inl rfl | exact Or.inr rfl)) (pgs_cons (pg_name (i := 5) scparts_in_turn.nd rfl (by first | exact Or.inl rfl | exact Or.inr rfl)) (pgs_cons (pg_name (i := 6) scparts_in_turn.nd rfl (by first | exact Or.inl rfl | exact Or.inr rfl)) pgs_nil))))
    (pss_cons (ps_expr (pe_bm PySem.F.plainAttrs_list PySem.F.slot_list_append PySem.F.type_list_append mt_append (pe_ix ix_list (pv 2) (pv 4) (fun _ _ => rfl)) (pa_cons (pv 5) pa_nil)))
  (pss_one (ps_expr (pe_bm PySem.F.plainAttrs_list PySem.F.slot_list_append PySem.F.type_list_append mt_append (pe_ix ix_list (pv 3) (pv 5) (fun _ _ => rfl)) (pa_cons (pv 4) pa_nil))))))
  (pss_cons (ps_set (i := 7) scparts_in_turn.nd rfl (by first | exact Or.inl rfl | exact Or.inr rfl) (pe_lst pa_nil))
  (pss_cons (ps_set (i := 8) scparts_in_turn.nd rfl (by first | exact Or.inl rfl | exact Or.inr rfl) (pe_op op_rep (pe_lst (pa_cons pe_bl pa_nil)) (pv 0)))
  (pss_cons (ps_for PassesOwn.never rfl (pi_range1 (by rfl) B.range (pa_cons (pv 0) pa_nil)) (pg_name (i := 9) scparts_in_turn.nd rfl (by first | exact Or.inl rfl | exact Or.inr rfl))
    (pss_one (ps_if (pt_not (pt_val (pe_ix ix_list (pv 8) (pv 9) (fun _ _ => rfl))))
    (pss_one (ps_expr (pe_bm PySem.F.plainAttrs_list PySem.F.slot_list_extend PySem.F.type_list_extend mt_extend (pv 7) (pa_cons (pe_call O_left_from hr rfl m_left_from k_left_from b_left_from .nil pass0 (pa_cons (pv 2) (pa_cons (pv 9) (pa_cons (pv 8) pa_nil)))) pa_nil)))) pss_nil)))
  (pss_cons (ps_set (i := 10) scparts_in_turn.nd rfl (by first | exact Or.inl rfl | exact Or.inr rfl) (pe_lst pa_nil))
  (pss_cons (ps_set (i := 8) scparts_in_turn.nd rfl (by first | exact Or.inl rfl | exact Or.inr rfl) (pe_op op_rep (pe_lst (pa_cons pe_bl pa_nil)) (pv 0)))
  (pss_cons (ps_for PassesOwn.never rfl (pi_list (pe_revL (pv 7))) (pg_name (i := 9) scparts_in_turn.nd rfl (by first | exact Or.inl rfl | exact Or.inr rfl))
    (pss_one (ps_if (pt_not (pt_val (pe_ix ix_list (pv 8) (pv 9) (fun _ _ => rfl))))
    (pss_one (ps_expr (pe_bm PySem.F.plainAttrs_list PySem.F.slot_list_append PySem.F.type_list_append mt_append (pv 10) (pa_cons (pe_callB cr_sortedI (by rfl) B.sorted (by decide +kernel) (pa_cons (pe_call O_left_from hr rfl m_left_from k_left_from b_left_from .nil pass0 (pa_cons (pv 3) (pa_cons (pv 9) (pa_cons (pv 8) pa_nil)))) pa_nil)) pa_nil)))) pss_nil)))
  (pss_one (ps_ret (pv 10)))))))))))), ?_⟩
  have hN := ho.n1
  have hm := ho.m
  refine ⟨_, rfl, _, rfl, by omega, by omega, fun D1 nD1 => ?_⟩
  refine lc_range (lo := 0) (n := N) (fun i H' => Fresh H D1 i H') (Fresh.zero nD1) ?_ ?_
  · intro i H' hi hf
    exact ⟨rfl, Nat.zero_le _, fun p np => hf.step nD1 (by omega) np⟩
  rintro H1 ⟨fas, f1, f2, f3, f4, f5, f6⟩
  refine ⟨_, rfl, _, rfl, by omega, by omega, fun D2 nD2 => ?_⟩
  refine lc_range (lo := 0) (n := N) (fun i H' => Fresh H1 D2 i H') (Fresh.zero nD2) ?_ ?_
  · intro i H' hi hf
    exact ⟨rfl, Nat.zero_le _, fun p np => hf.step nD2 (by omega) np⟩
  rintro H2 ⟨os, g1, g2, g3, g4, g5, g6⟩
  obtain ⟨sas, s1, s2, s3⟩ := hs
  have fo : ∀ x ∈ fas, x ∉ os := fun x hx z => by
    have h := (g3 x z).1
    rw [f6 x hx] at h
    cases h
  have D1f : D1 ∉ fas := fun z => (f3 D1 z).2 rfl
  have D1o : D1 ∉ os := fun z => by
    have h := (g3 D1 z).1
    rw [f5] at h
    cases h
  have D2o : D2 ∉ os := fun z => (g3 D2 z).2 rfl
  have D2f : D2 ∉ fas := fun z => by
    have h := f6 D2 z
    rw [nD2] at h
    cases h
  have nin : ∀ {b : Addr}, b ∉ fas → b ∉ os → b ∉ fas ++ os := fun h1 h2 z => (List.mem_append.mp z).elim h1 h2
  have old : ∀ b o, H b = some o → H2 b = some o ∧ b ∉ fas ++ os := fun b o e => by
    have h5 := f4 _ _ e
    refine ⟨g4 _ _ h5, nin (fun z => ?_) (fun z => ?_)⟩
    · rw [(f3 b z).1] at e; cases e
    · rw [(g3 b z).1] at h5; cases h5
  have hD12 : H2 D1 = some (.lst (fas.map V.ref)) := g4 _ _ f5
  refine ⟨_, rfl, s, rfl, ⟨_, SqL.of (old _ _ s1).1⟩, ?_⟩
  refine for_list (K := K) (a := s) (xs := sas.map V.ref) (fun i σ H' => ∃ v4 v5 v6 : Option V, σ = [some (.int (N : Int)), some (.ref s), some (.ref D1), some (.ref D2), v4, v5, v6, none, none, none, none] ∧ KeptR (fas ++ os) H2 H' ∧ (∀ (j : Nat) (x : Addr), fas[j]? = some x → H' x = some (.lst (iv (outN ts [] j i)))) ∧ (∀ (j : Nat) (x : Addr), os[j]? = some x → H' x = some (.lst (iv (outN (swaps ts) [] j i))))) ?_ ?_ ?_ ?_
  · exact ⟨_, _, _, rfl, .refl _ _, fun j x e => g4 _ _ (f6 x (List.mem_of_getElem? e)), fun j x e => g6 x (List.mem_of_getElem? e)⟩
  · rintro i σ H' hi ⟨v4, v5, v6, rfl, hk, _⟩
    exact SqL.of (hk _ _ (old _ _ s1).1 (old _ _ s1).2)
  · rintro i x σ H3 hx ⟨v4, v5, v6, rfl, hk, hf, hos⟩
    have hi := (List.getElem?_eq_some_iff.mp hx).1
    rw [List.length_map] at hi
    obtain ⟨⟨u, v⟩, he⟩ : ∃ e, ts[i]? = some e := ⟨ts[i]'(by omega), List.getElem?_eq_getElem _⟩
    obtain ⟨p, e1, e2⟩ := s3 i u v he
    rw [List.getElem?_map, e1] at hx
    cases hx
    obtain ⟨hu, hv⟩ := ho.ok _ (List.mem_of_getElem? he)
    have hp3 : H3 p = some (.tup [.int (u : Int), .int (v : Int), .int (i : Int)]) := hk _ _ (old _ _ e2).1 (old _ _ e2).2
    obtain ⟨xu, eu⟩ : ∃ x, fas[u]? = some x := ⟨fas[u]'(by omega), List.getElem?_eq_getElem _⟩
    obtain ⟨xv, ev⟩ : ∃ x, os[v]? = some x := ⟨os[v]'(by omega), List.getElem?_eq_getElem _⟩
    have mu := List.mem_of_getElem? eu
    have mv := List.mem_of_getElem? ev
    have hxu := hf u xu eu
    have hbi : i < 1000 := by omega
    refine ⟨p, _, rfl, SqT.of hp3, rfl, _, _, rfl, _, _, rfl, _, _, rfl, rfl, ?_⟩
    refine ⟨_, rfl, _, rfl, _, _, _, .ref xu, rfl, rfl, SqL.of (hk _ _ hD12 (nin D1f D1o)), atI_nat (by rw [List.getElem?_map, eu]; rfl), .inl ⟨rfl, _, SqL.of hxu⟩, _, rfl, xu, _, _, rfl, rfl, hxu, ?_, ?_⟩
    · rw [List.length_map]
      exact Nat.lt_of_le_of_lt (outN_len ts [] u i) (Nat.lt_trans hbi (by decide))
    have hk4 : KeptR (fas ++ os) H2 (upd H3 xu (.lst (iv (outN ts [] u i) ++ [.int (v : Int)]))) := hk.put (List.mem_append_left _ mu)
    have hf4 := row_put f2 eu hf (g := fun j => outN ts [] j (i + 1)) (v := v) (outN_at he)
    have ho4 : ∀ (j : Nat) (x : Addr), os[j]? = some x → (upd H3 xu (.lst (iv (outN ts [] u i) ++ [.int (v : Int)]))) x = some (.lst (iv (outN (swaps ts) [] j i))) := fun j x e => by
      rw [upd_ne (fun z => fo xu mu (by rw [← z]; exact List.mem_of_getElem? e))]
      exact hos j x e
    generalize upd H3 xu (.lst (iv (outN ts [] u i) ++ [.int (v : Int)])) = H4 at hk4 hf4 ho4
    have hxv := ho4 v xv ev
    refine ⟨_, rfl, _, rfl, _, _, _, .ref xv, rfl, rfl, SqL.of (hk4 _ _ g5 (nin D2f D2o)), atI_nat (by rw [List.getElem?_map, ev]; rfl), .inl ⟨rfl, _, SqL.of hxv⟩, _, rfl, xv, _, _, rfl, rfl, hxv, ?_, ?_⟩
    · rw [List.length_map]
      exact Nat.lt_of_le_of_lt (outN_len (swaps ts) [] v i) (Nat.lt_trans hbi (by decide))
    refine ⟨_, _, _, rfl, hk4.put (List.mem_append_right _ mv), fun j x e => ?_, row_put (u := v) (v := u) (f := fun j => outN (swaps ts) [] j i) (g := fun j => outN (swaps ts) [] j (i + 1)) g2 ev ho4 (outN_at (swaps_at he))⟩
    rw [upd_ne (fun z => fo x (List.mem_of_getElem? e) (by rw [z]; exact mv))]
    exact hf4 j x e
  rintro σ H3 ⟨v4, v5, v6, rfl, hk, hf, hos⟩
  rw [List.length_map, s2] at hf hos
  rw [← swaps_len ts] at hos
  have hS03 : Same H H3 := fun b o e => hk _ _ (old _ _ e).1 (old _ _ e).2
  have hR1 : RowsAt H3 D1 N (outs ts []) := ⟨fas, hk _ _ hD12 (nin D1f D1o), f1, hf⟩
  have hR2 : RowsAt H3 D2 N (outs (swaps ts) []) := ⟨os, hk _ _ g5 (nin D2f D2o), g1, hos⟩
  clear hk hf hos hD12
  refine ⟨Nat.zero_le _, fun ll nll => ⟨(by show 1 ≤ sizeLine; decide), fun b1 nb1 => ⟨_, rfl, b1, _, _, rfl, rfl, upd_same, by omega, by omega, ?_, fun sl nsl => ?_⟩⟩⟩
  · show 1 * (N : Int).toNat ≤ sizeLine
    rw [Int.toNat_natCast, Nat.one_mul]
    exact Nat.le_trans hN (by decide)
  rw [rep_false]
  have hS34 : Same H3 (upd (upd (upd H3 ll (.lst [])) b1 (.lst [.bl false])) sl (.lst (bv (List.replicate N false)))) := fun b o e => same_new nsl _ _ _ (same_new nb1 _ _ _ (same_new nll _ _ _ e))
  have hsl4 : (upd (upd (upd H3 ll (.lst [])) b1 (.lst [.bl false])) sl (.lst (bv (List.replicate N false)))) sl = some (.lst (bv (List.replicate N false))) := upd_same
  have hll4 : (upd (upd (upd H3 ll (.lst [])) b1 (.lst [.bl false])) sl (.lst (bv (List.replicate N false)))) ll = some (.lst (iv [])) := same_new nsl _ _ _ (same_new nb1 _ _ _ upd_same)
  have nls : ll ≠ sl := ne_of_none (same_new nb1 (.lst [.bl false]) _ _ (upd_same (H := H3) (a := ll) (o := .lst []))) nsl
  have nsl3 : H3 sl = none := by
    have h1 : Same H3 (upd (upd H3 ll (.lst [])) b1 (.lst [.bl false])) := fun b o e => same_new nb1 _ _ _ (same_new nll _ _ _ e)
    exact h1.free nsl
  generalize upd (upd (upd H3 ll (.lst [])) b1 (.lst [.bl false])) sl (.lst (bv (List.replicate N false))) = H4 at hS34 hsl4 hll4
  refine ⟨_, rfl, _, rfl, by omega, by omega, ?_⟩
  refine for_range (lo := 0) (n := N) (fun i σ H' => ∃ (v9 : Option V) (L : List Nat) (S : List Bool), σ = [some (.int (N : Int)), some (.ref s), some (.ref D1), some (.ref D2), v4, v5, v6, some (.ref ll), some (.ref sl), v9, none] ∧ Same H3 H' ∧ H' ll = some (.lst (iv L)) ∧ H' sl = some (.lst (bv S)) ∧ Pass1 ts N i L S) ⟨_, [], _, rfl, hS34, hll4, hsl4, pass1_start ts N⟩ ?_ ?_
  · rintro i σ H5 hi ⟨v9, L, S, rfl, hS5, hll5, hsl5, p1⟩
    rw [Int.zero_add]
    rcases bl_of (L := S) (j := i) (by rw [p1.ln]; exact hi) with hb | hb
    · exact ⟨_, rfl, _, rfl, _, _, _, _, rfl, rfl, SqL.of hsl5, bv_at hb, _, rfl, iteF ⟨_, L, S, rfl, hS5, hll5, hsl5, pass1_old p1 hb⟩⟩
    · refine ⟨_, rfl, _, rfl, _, _, _, _, rfl, rfl, SqL.of hsl5, bv_at hb, _, rfl, iteT ?_⟩
      have hno : ¬ Got S i := fun z => by unfold Got at z; rw [hb] at z; cases z
      refine ⟨_, rfl, .inl ⟨rfl, _, SqL.of hll5⟩, _, rfl, _, rfl, _, rfl, D1, i, sl, outs ts [], N, S, rfl, hR1.same hS5, lf_ok ho, hi, hsl5, p1.ln, hno, p1.cl, fun H6 m M S' nm hm6 hs6 hk6 res => ?_⟩
      have hll6 := hk6 _ _ hll5 nls
      have p1' := pass1_new p1 res hno
      have hfew := few p1'.nd p1'.lt
      rw [List.length_append] at hfew
      refine ⟨ll, m, _, _, rfl, rfl, hll6, hm6, ?_, ?_⟩
      · rw [List.length_map, List.length_map]
        exact Nat.le_trans hfew (Nat.le_trans hN (by decide))
      refine ⟨_, L ++ M, S', rfl, fun b o e => ?_, by rw [upd_same, iv, iv, iv, List.map_append], by rw [upd_ne nls.symm]; exact hs6, p1'⟩
      rw [upd_ne (ne_of_none e nll)]
      exact hk6 _ _ (hS5 _ _ e) (ne_of_none e nsl3)
  rintro σ H5 ⟨v9, L, S1, rfl, hS5, hll5, hsl5, p1⟩
  have hS05 := hS03.trans hS5
  have pN : ∀ x, x < N → x ∈ L := p1.up
  refine ⟨Nat.zero_le _, fun pl npl => ⟨(by show 1 ≤ sizeLine; decide), fun b2 nb2 => ⟨_, rfl, b2, _, _, rfl, rfl, upd_same, by omega, by omega, ?_, fun tl ntl => ?_⟩⟩⟩
  · show 1 * (N : Int).toNat ≤ sizeLine
    rw [Int.toNat_natCast, Nat.one_mul]
    exact Nat.le_trans hN (by decide)
  rw [rep_false]
  have hSq : Same H5 (upd (upd H5 pl (.lst [])) b2 (.lst [.bl false])) := fun b o e => same_new nb2 _ _ _ (same_new npl _ _ _ e)
  have hS56 : Same H5 (upd (upd (upd H5 pl (.lst [])) b2 (.lst [.bl false])) tl (.lst (bv (List.replicate N false)))) := fun b o e => same_new ntl _ _ _ (hSq _ _ e)
  have hpl6 : LolAt (upd (upd (upd H5 pl (.lst [])) b2 (.lst [.bl false])) tl (.lst (bv (List.replicate N false)))) pl [] := ⟨[], same_new ntl _ _ _ (same_new nb2 _ _ _ upd_same), .nil⟩
  have htl6 : (upd (upd (upd H5 pl (.lst [])) b2 (.lst [.bl false])) tl (.lst (bv (List.replicate N false)))) tl = some (.lst (bv (List.replicate N false))) := upd_same
  have npt : pl ≠ tl := ne_of_none (same_new nb2 (.lst [.bl false]) _ _ (upd_same (H := H5) (a := pl) (o := .lst []))) ntl
  have ntl5 : H5 tl = none := hSq.free ntl
  have npl0 : H pl = none := hS05.free npl
  generalize upd (upd (upd H5 pl (.lst [])) b2 (.lst [.bl false])) tl (.lst (bv (List.replicate N false))) = H6 at hS56 hpl6 htl6
  refine ⟨_, rfl, ll, _, rfl, SqL.of (hS56 _ _ hll5), fun rl nrl => ⟨rl, rfl, ⟨_, SqL.of upd_same⟩, ?_⟩⟩
  have hS57 : Same H5 (upd H6 rl (.lst (iv L).reverse)) := fun b o e => same_new nrl _ _ _ (hS56 _ _ e)
  have hpl7 := hpl6.same (same_new nrl (.lst (iv L).reverse))
  have htl7 := same_new nrl (.lst (iv L).reverse) _ _ htl6
  have hrl7 : (upd H6 rl (.lst (iv L).reverse)) rl = some (.lst (iv L.reverse)) := by rw [upd_same, iv, iv, List.map_reverse]
  have nrt : rl ≠ tl := (ne_of_none htl6 nrl).symm
  have nrp : rl ≠ pl := by
    obtain ⟨as, e, _⟩ := hpl6
    exact (ne_of_none e nrl).symm
  have hni7 : NewIn H (upd H6 rl (.lst (iv L).reverse)) pl := fun xs q hx hq => by
    obtain ⟨as, e, hp⟩ := hpl7
    cases hp
    rw [e] at hx
    cases hx
    simp at hq
  generalize upd H6 rl (.lst (iv L).reverse) = H7 at hni7 hS57 hpl7 htl7 hrl7
  refine for_list (K := K) (a := rl) (xs := iv L.reverse) (fun i σ H' => ∃ (v9 : Option V) (S : List Bool) (HS : List Nat), σ = [some (.int (N : Int)), some (.ref s), some (.ref D1), some (.ref D2), v4, v5, v6, some (.ref ll), some (.ref tl), v9, some (.ref pl)] ∧ Same H5 H' ∧ H' rl = some (.lst (iv L.reverse)) ∧ H' tl = some (.lst (bv S)) ∧ LolAt H' pl (HS.map (clsL (Ed ts) N)) ∧ NewIn H H' pl ∧ Pass2 ts N (L.reverse.take i) S HS) ⟨_, _, [], rfl, hS57, hrl7, htl7, hpl7, hni7, pass2_start ts N⟩ (fun i σ H' _ ⟨_, _, _, _, _, h, _⟩ => SqL.of h) ?_ ?_
  · rintro i x σ H8 hx ⟨v9', S, HS, rfl, hS8, hrl8, htl8, hpl8, hni8, p2⟩
    rw [List.getElem?_map] at hx
    obtain ⟨q0, hq0, rfl⟩ : ∃ q, L.reverse[i]? = some q ∧ x = V.int (q : Int) := by
      cases e : L.reverse[i]? with
      | none => rw [e] at hx; cases hx
      | some q => rw [e] at hx; exact ⟨q, rfl, (Option.some.inj hx).symm⟩
    have hqN : q0 < N := p1.lt q0 (List.mem_reverse.mp (List.mem_of_getElem? hq0))
    have htk := take_snocE hq0
    have hL : L = (L.reverse.drop (i + 1)).reverse ++ q0 :: (L.reverse.take i).reverse := by
      have e1 : L.reverse = L.reverse.take i ++ q0 :: L.reverse.drop (i + 1) := by
        conv => lhs; rw [← List.take_append_drop (i + 1) L.reverse, htk]
        simp
      have e2 := congrArg List.reverse e1
      rw [List.reverse_reverse] at e2
      exact e2.trans (by rw [List.reverse_append, List.reverse_cons, List.append_assoc]; rfl)
    rcases bl_of (L := S) (j := q0) (by rw [p2.ln]; exact hqN) with hb | hb
    · exact ⟨_, rfl, _, rfl, _, _, _, _, rfl, rfl, SqL.of htl8, bv_at hb, _, rfl, iteF ⟨_, S, HS, rfl, hS8, hrl8, htl8, hpl8, hni8, by rw [htk]; exact pass2_old p2 hb⟩⟩
    · refine ⟨_, rfl, _, rfl, _, _, _, _, rfl, rfl, SqL.of htl8, bv_at hb, _, rfl, iteT ?_⟩
      have hno : ¬ Got S q0 := fun z => by unfold Got at z; rw [hb] at z; cases z
      have hSne : S ≠ [] := fun z => by have := p2.ln; rw [z] at this; simp at this; omega
      obtain ⟨as8, hpl8a, hpl8b⟩ := id hpl8
      refine ⟨_, rfl, .inl ⟨rfl, _, SqL.of hpl8a⟩, _, rfl, _, rfl, _, rfl, D2, q0, tl, outs (swaps ts) [], N, S, rfl, hR2.same (hS5.trans hS8), lf_ok (okWeb_swaps ho), hqN, htl8, p2.ln, hno, p2.cl, fun H9 m M S' nm hm9 hs9 hk9 res => ?_⟩
      have hmm := pass2_mem ho p2 hL p1.star p1.nd pN hqN hno res
      have p2' := pass2_new ho p2 hno hqN res hmm
      refine ⟨m, cn M, rfl, SqL.of (by rw [hm9, iv_iz]), fun ys yl hperm hsort nyl => ?_⟩
      have hys := cls_sorted (E := Ed ts) (N := N) (q := q0) res.nd hmm hperm hsort
      subst hys
      have hpl9 := hpl8.put (S2 := S) npt htl8 hSne hk9
      obtain ⟨xs, g1', g2', g3'⟩ := hpl9.push (L := clsL (Ed ts) N q0) nyl
      rw [show (cn (clsL (Ed ts) N q0)).map V.int = iv (clsL (Ed ts) N q0) from (iv_iz _).symm]
      refine ⟨pl, _, _, rfl, rfl, g1', ?_, ?_⟩
      · rw [g2', List.length_map]
        have hnd : HS.Nodup := p2.rep.imp fun {a b} h e => h (by rw [e]; exact mut_refl b)
        have := few (N := N) hnd (fun y hy => p1.lt y (List.mem_reverse.mp (List.mem_of_mem_take (p2.sub y hy))))
        exact Nat.lt_of_le_of_lt (Nat.le_trans this hN) (by decide)
      refine ⟨_, S', HS ++ [q0], rfl, fun b o e => ?_, ?_, ?_, by rw [List.map_append]; exact g3', ?_, by rw [htk]; exact p2'⟩
      · rw [upd_ne (ne_of_none e npl)]
        exact same_new nyl _ _ _ (hk9 _ _ (hS8 _ _ e) (ne_of_none e ntl5))
      · rw [upd_ne nrp]
        exact same_new nyl _ _ _ (hk9 _ _ hrl8 nrt)
      · rw [upd_ne npt.symm]
        exact same_new nyl _ _ _ hs9
      · intro zs q1 hz hq1
        rw [upd_same] at hz
        cases hz
        have hpl8k : H9 pl = H8 pl := by
          rw [hpl8a]
          exact hk9 _ _ hpl8a npt
        rcases List.mem_append.mp hq1 with z | z
        · refine hni8 xs q1 ?_ z
          rw [← hpl8k]
          rw [upd_ne (ne_of_none (hk9 _ _ hpl8a npt) nyl)] at g1'
          exact g1'
        · have z := V.ref.inj (List.mem_singleton.mp z)
          rw [z]
          exact hS05.free (hS8.free (by
            cases e : H8 yl with
            | none => rfl
            | some o =>
              by_cases c : yl = tl
              · rw [c, hs9] at nyl; cases nyl
              · rw [hk9 _ _ e c] at nyl; cases nyl))
  rintro σ H8 ⟨v9', S, HS, rfl, hS8, hrl8, htl8, hpl8, hni8, p2⟩
  rw [List.length_map, List.take_length] at p2
  obtain ⟨hs, hperm, heq⟩ := reps_heads (N := N) p2.rep (fun q hq => p1.lt q (List.mem_reverse.mp (p2.sub q hq))) (fun x hx => p2.all x (List.mem_reverse.mpr (pN x hx)))
  rw [heq] at hpl8
  exact ⟨_, rfl, q H8 pl hs npl0 (hS05.trans hS8) hperm hpl8 hni8⟩
end
end My
namespace My
open PySem L2 PyProof.Rows
/-! ### lists of lists as data -/
theorem dn_dz (L : List Nat) : dn L = dz (cn L) := by
  show PyData.list _ = PyData.list _
  rw [List.map_map]
  rfl
theorem dn_inj {L M : List Nat} (h : dn L = dn M) : L = M := by
  have h := PyData.list.inj h
  exact (List.map_inj_right (fun a b e => by have := PyData.int.inj e; omega)).mp h
theorem dpAll_lol {K : PySem.W.Frag} {H : Hp} : ∀ {as : List Addr} {LL : List (List Nat)}, Paired (fun (p : Addr) (L : List Nat) => H p = some (.lst (iv L))) as LL → DpAll K H (as.map V.ref) (LL.map dn)
  | _, _, .nil => .nil
  | _, _, .cons (b := L) h r => .cons (by rw [dn_dz]; exact dp_iv h) (dpAll_lol r)
theorem alikeAll_dn : ∀ L M : List Nat, PySem.W.alikeAll (L.map fun n : Nat => PyData.int (n : Int)) (M.map fun n : Nat => PyData.int (n : Int)) = true
  | [], _ => by rw [List.map_nil, PySem.W.alikeAll]
  | _ :: _, [] => by simp [PySem.W.alikeAll]
  | a :: L, b :: M => by
    rw [List.map_cons, List.map_cons, PySem.W.alikeAll, alikeAll_dn L M]
    simp [PySem.W.alike]
theorem lol_alike (LL : List (List Nat)) : PySem.W.AllAlike (LL.map dn) := by
  intro d hd e he
  obtain ⟨L, _, rfl⟩ := List.mem_map.mp hd
  obtain ⟨M, _, rfl⟩ := List.mem_map.mp he
  rw [PySem.W.alike]
  exact alikeAll_dn L M
theorem lol_sortable (LL : List (List Nat)) : PySem.W.Sortable (LL.map dn) := .others (enc := dn) fun b => ⟨fun z => (by cases z), fun xs z => (by cases z)⟩
theorem dn_depth (L : List Nat) : (dn L).depth ≤ 8 := by
  rw [dn_dz]
  show PyData.depth (.list ((cn L).map PyData.int)) ≤ 8
  unfold PyData.depth
  rw [depthAll_iz]
  omega
theorem lol_pick {H : Hp} {as : List Addr} {LL : List (List Nat)} (hp : Paired (fun (p : Addr) (L : List Nat) => H p = some (.lst (iv L))) as LL) : ∀ {zs : List V} {PP : List (List Nat)}, Paired (fun (z : V) (d : PyData) => ∃ j : Nat, (as.map V.ref)[j]? = some z ∧ (LL.map dn)[j]? = some d) zs (PP.map dn) →
    ∃ bs : List Addr, zs = bs.map V.ref ∧ Paired (fun (p : Addr) (L : List Nat) => H p = some (.lst (iv L))) bs PP ∧ ∀ b ∈ bs, b ∈ as
  | _, [], .nil => ⟨[], rfl, .nil, fun b hb => by simp at hb⟩
  | _, L :: PP, .cons ⟨j, h1, h2⟩ t => by
    obtain ⟨bs, e1, e2, e3⟩ := lol_pick hp t
    rw [List.getElem?_map] at h1 h2
    cases ea : as[j]? with
    | none => rw [ea] at h1; cases h1
    | some a =>
      cases el : LL[j]? with
      | none => rw [el] at h2; cases h2
      | some M =>
        rw [ea] at h1
        rw [el] at h2
        have eM : M = L := dn_inj (Option.some.inj h2)
        obtain ⟨M', k1, k2⟩ := paired_get hp ea
        rw [el] at k1
        cases k1
        subst eM
        have ez := Option.some.inj h1
        refine ⟨a :: bs, by rw [e1, ← ez]; rfl, .cons k2 e2, fun b hb => ?_⟩
        rcases List.mem_cons.mp hb with z | z
        · rw [z]; exact List.mem_of_getElem? ea
        · exact e3 b z
theorem LolAt.add {H : Hp} {l x : Addr} {LL : List (List Nat)} {L : List Nat} (h : LolAt H l LL) (hx : H x = some (.lst (iv L))) (nx : x ≠ l) : ∃ xs, H l = some (.lst xs) ∧ xs.length = LL.length ∧ LolAt (upd H l (.lst (xs ++ [.ref x]))) l (LL ++ [L]) := by
  obtain ⟨as, h1, h2⟩ := h
  refine ⟨as.map V.ref, h1, by rw [List.length_map]; exact paired_len h2, as ++ [x], by rw [upd_same, List.map_append]; rfl, paired_app ?_ (by rw [upd_ne nx]; exact hx)⟩
  have key : ∀ (q : Addr) (M : List Nat), q ∈ as → H q = some (.lst (iv M)) → q ≠ l := fun q M hq e z => by
    rw [z, h1] at e
    have e := HO.lst.inj (Option.some.inj e)
    have hm : V.ref q ∈ iv M := by rw [← e]; exact List.mem_map.mpr ⟨q, hq, rfl⟩
    obtain ⟨n, _, z2⟩ := List.mem_map.mp hm
    cases z2
  clear h1
  have go : ∀ {bs : List Addr} {MM : List (List Nat)}, (∀ q ∈ bs, q ∈ as) → Paired (fun (p : Addr) (L : List Nat) => H p = some (.lst (iv L))) bs MM → Paired (fun (q : Addr) (M : List Nat) => (upd H l (.lst (as.map V.ref ++ [.ref x]))) q = some (.lst (iv M))) bs MM := by
    intro bs MM hb hp
    induction hp with
    | nil => exact .nil
    | @cons q M bs MM r t ih =>
      refine .cons ?_ (ih fun y hy => hb y (List.mem_cons_of_mem _ hy))
      rw [upd_ne (key q M (hb q List.mem_cons_self) r)]
      exact r
  exact go (fun q hq => hq) h2
theorem LolAt.get {H : Hp} {l : Addr} {LL : List (List Nat)} (h : LolAt H l LL) {i : Nat} {L : List Nat} (e : LL[i]? = some L) : ∃ xs x, H l = some (.lst xs) ∧ atI xs (i : Int) = some (.ref x) ∧ H x = some (.lst (iv L)) := by
  obtain ⟨as, h1, h2⟩ := h
  have hi : i < as.length := by rw [paired_len h2]; exact (List.getElem?_eq_some_iff.mp e).1
  obtain ⟨M, k1, k2⟩ := paired_get h2 (List.getElem?_eq_getElem hi)
  rw [e] at k1
  cases k1
  exact ⟨_, as[i], h1, atI_nat (by rw [List.getElem?_map, List.getElem?_eq_getElem hi]; rfl), k2⟩
theorem range_map_at {α : Type} (f : Nat → α) {N i : Nat} (h : i < N) : ((List.range N).map f)[i]? = some (f i) := by
  rw [List.getElem?_map, List.getElem?_range h]
  rfl
/-! ### what is come to, as a list -/
noncomputable def rchL (E : Nat → Nat → Prop) (N p : Nat) : List Nat := (List.range N).filter fun x => bdec (Rch E p x)
theorem rchL_mem {E : Nat → Nat → Prop} {N p x : Nat} : x ∈ rchL E N p ↔ x < N ∧ Rch E p x := by
  unfold rchL
  rw [List.mem_filter, List.mem_range, bdec_iff]
theorem rchL_rising {E : Nat → Nat → Prop} {N p : Nat} : (rchL E N p).Pairwise (· < ·) := by
  unfold rchL
  exact List.Pairwise.filter _ List.pairwise_lt_range
theorem rch_up {E : Nat → Nat → Prop} {N : Nat} (h : ∀ a b, E a b → b < N) {u v : Nat} (hu : u < N) (r : Rch E u v) : v < N := by
  obtain ⟨k, r⟩ := r
  cases r with
  | nil => exact hu
  | snoc _ e => exact h _ _ e
theorem filter_cls {ts : List (Nat × Nat)} {N p : Nat} (hp : p < N) : (rchL (Ed ts) N p).filter (fun o => decide (p ∈ rchL (Ed ts) N o)) = clsL (Ed ts) N p := by
  unfold rchL clsL
  rw [List.filter_filter]
  refine List.filter_congr fun x hx => ?_
  rw [Bool.eq_iff_iff, Bool.and_eq_true, bdec_iff, bdec_iff, decide_eq_true_iff]
  show p ∈ rchL (Ed ts) N x ∧ Rch (Ed ts) p x ↔ Mut (Ed ts) p x
  rw [rchL_mem]
  exact ⟨fun z => ⟨z.2, z.1.2⟩, fun z => ⟨⟨hp, z.2⟩, z.1⟩⟩
noncomputable def headsN (E : Nat → Nat → Prop) (i : Nat) : List Nat := (List.range i).filter fun p => bdec (∀ x, x < p → ¬ Mut E p x)
theorem headsN_yes {E : Nat → Nat → Prop} {N i : Nat} (hi : i < N) (h : i ∈ headsL E N) : headsN E (i + 1) = headsN E i ++ [i] := by
  unfold headsN
  rw [List.range_succ, List.filter_append]
  congr 1
  rw [List.filter_cons, List.filter_nil]
  exact if_pos (bdec_iff.mpr (headsL_mem.mp h).2)
theorem headsN_no {E : Nat → Nat → Prop} {N i : Nat} (hi : i < N) (h : i ∉ headsL E N) : headsN E (i + 1) = headsN E i := by
  unfold headsN
  rw [List.range_succ, List.filter_append, List.filter_cons, List.filter_nil, if_neg (fun z => h (headsL_mem.mpr ⟨hi, bdec_iff.mp z⟩)), List.append_nil]
theorem cls_first {E : Nat → Nat → Prop} {N p : Nat} (hp : p < N) : ∃ a r, clsL E N p = a :: r ∧ (a = p ↔ p ∈ headsL E N) := by
  have hm : p ∈ clsL E N p := clsL_mem.mpr ⟨hp, mut_refl p⟩
  have hr := clsL_rising (E := E) (N := N) (p := p)
  cases e : clsL E N p with
  | nil => rw [e] at hm; simp at hm
  | cons a r =>
    refine ⟨a, r, rfl, ?_, ?_⟩
    · rintro rfl
      refine headsL_mem.mpr ⟨hp, fun x hx hmx => ?_⟩
      have hx2 : x ∈ clsL E N a := clsL_mem.mpr ⟨by omega, hmx⟩
      rw [e] at hx2 hr
      rcases List.mem_cons.mp hx2 with z | z
      · omega
      · have := (List.pairwise_cons.mp hr).1 x z
        omega
    · intro h
      obtain ⟨r', e'⟩ := clsL_head h
      rw [e] at e'
      exact (List.cons.inj e').1
theorem nodup_len {N : Nat} {L : List Nat} (h : L.Pairwise (· < ·)) (hl : ∀ x ∈ L, x < N) : L.length ≤ N := few (h.imp fun z => Nat.ne_of_lt z) hl
theorem parts_len {E : Nat → Nat → Prop} {N : Nat} : (partsL E N).length ≤ N := by
  unfold partsL
  rw [List.length_map]
  exact nodup_len headsL_rising fun x hx => (headsL_mem.mp hx).1
section
variable {P : Program} {w : World} {K : PySem.W.Frag} {mg : Str → Option Value} {base : Heap} {C : Addr}
def spparts_of (_ : PySem.W.Frag) (C : Addr) : Sp := fun vs H Q _ => ∃ a N ts, vs = [.ref a] ∧ WebAt C a N ts H ∧ OkWeb N ts ∧ ∀ H' l, H l = none → Same H H' → LolAt H' l (partsL (Ed ts) N) → NewIn H H' l → Q (.ref l) H'
theorem okparts_of (D : Def K mg "parts_of" sparts_of ["web"]) (B : Bs mg) (Glb : Glo mg) (WK : WebK K mg C)
    (hneed_web : Good P w K mg base "need_web" sneed_web ["web"] 3 (spneed_web K C))
    (hparts_in_turn : Good P w K mg base "parts_in_turn" sparts_in_turn ["points", "steps"] 2 (spparts_in_turn K C))
    (hweb_steps : Good P w K mg base "web_steps" sweb_steps ["web"] 3 (spweb_steps K C))
    (hWeb_places : GoodP P w K mg base C "places" "Web.places" sWeb_places ["self"] 1 (spWeb_places K C)) :
    Good P w K mg base "parts_of" sparts_of ["web"] 4 (spparts_of K C) := by
  refine D.good fun f fd F => ?_
  obtain ⟨fneed_web, dneed_web, Oneed_web, mneed_web, kneed_web, bneed_web, Fneed_web⟩ := hneed_web
  obtain ⟨fparts_in_turn, dparts_in_turn, Oparts_in_turn, mparts_in_turn, kparts_in_turn, bparts_in_turn, Fparts_in_turn⟩ := hparts_in_turn
  obtain ⟨fweb_steps, dweb_steps, Oweb_steps, mweb_steps, kweb_steps, bweb_steps, Fweb_steps⟩ := hweb_steps
  obtain ⟨qWeb_places, fWeb_places, dWeb_places, OWeb_places, pWeb_places, bWeb_places⟩ := hWeb_places
  refine F.ok scparts_of (fun vs H Q E h => ?_) (fun cdv A outer s H vs Q E hr h => ?_)
  · obtain ⟨a, N, ts, rfl, hw, ho, q⟩ := h
    first | rfl | (rcases h with ⟨_, _, rfl, _⟩ | ⟨_, rfl, _⟩ <;> rfl)
  obtain ⟨a, N, ts, rfl, hw, ho, q⟩ := h
  refine ⟨_, (pss_cons (ps_expr (pe_call Oneed_web hr rfl mneed_web kneed_web bneed_web .nil pass0 (pa_cons (pv 0) pa_nil)))
  (pss_one (ps_ret (pe_callB (cr_sortD hr.units) (by rfl) B.sorted (by decide +kernel) (pa_cons (pe_call Oparts_in_turn (hr.mono (by decide)) rfl mparts_in_turn kparts_in_turn bparts_in_turn .nil pass0 (pa_cons (pe_prop (pv 0) WK.cl pWeb_places OWeb_places (hr.mono (by decide)) bWeb_places .nil pass0 (by rfl)) (pa_cons (pe_call Oweb_steps hr rfl mweb_steps kweb_steps bweb_steps .nil pass0 (pa_cons (pv 0) pa_nil)) pa_nil))) pa_nil))))), ?_⟩
  obtain ⟨dx, tl, fl, ol, h1, h23⟩ := id hw
  refine ⟨_, rfl, a, N, ts, rfl, hw, ?_⟩
  refine ⟨_, rfl, a, dx, _, rfl, h1, a, N, ts, rfl, hw, _, rfl, a, N, ts, rfl, hw, ho, fun H1 l nl hS1 hst => ?_⟩
  refine ⟨N, l, ts, rfl, hst, ho, fun H2 pl hs npl hS2 hperm ⟨as, g1, g2⟩ hni => ?_⟩
  refine ⟨pl, as.map V.ref, (hs.map (clsL (Ed ts) N)).map dn, rfl, SqL.of g1, dpAll_lol g2, lol_alike _, lol_sortable _, fun d hd => ?_, ?_, fun zs p hz np => ?_⟩
  · obtain ⟨L, _, rfl⟩ := List.mem_map.mp hd
    exact dn_depth L
  · rw [List.length_map, paired_len g2, List.length_map, hperm.length_eq]
    exact Nat.le_trans (nodup_len headsL_rising fun x hx => (headsL_mem.mp hx).1) (Nat.le_trans ho.n1 (by decide))
  rw [sort_parts hperm] at hz
  obtain ⟨bs, rfl, k1, k2⟩ := lol_pick g2 hz
  have hS02 := hS1.trans hS2
  refine q _ p (hS02.free np) (fun b o e => same_new np _ _ _ (hS02 _ _ e)) ⟨bs, upd_same, paired_mono (fun x L hx => same_new np _ _ _ hx) k1⟩ fun xs x hx hq => ?_
  rw [upd_same] at hx
  cases hx
  obtain ⟨b, hb, e⟩ := List.mem_map.mp hq
  cases e
  exact hS1.free (hni _ _ g1 (List.mem_map.mpr ⟨_, k2 _ hb, rfl⟩))
end
end My
namespace My
open PySem L2 PyProof.Rows
def Closed (N : Nat) (ts : List (Nat × Nat)) : Prop := 0 < ts.length ∧ (partsL (Ed ts) N).length = 1
noncomputable def closedB (N : Nat) (ts : List (Nat × Nat)) : Bool := decide (0 < ts.length) && decide ((partsL (Ed ts) N).length = 1)
theorem layAll_dn : ∀ LL : List (List Nat), PyData.canLayAll0 (LL.map dn) = true
  | [] => rfl
  | L :: r => by
    show (PyData.canLay0 (dn L) && PyData.canLayAll0 (r.map dn)) = true
    rw [layAll_dn r, dn_dz]
    have h1 : PyData.canLay0 (dz (cn L)) = true := by
      show PyData.canLay0 (.list ((cn L).map PyData.int)) = true
      unfold PyData.canLay0
      exact layAll_iz _
    rw [h1]
    rfl
theorem depthAll_dn : ∀ LL : List (List Nat), PyData.depthAll (LL.map dn) ≤ 1
  | [] => by
    show PyData.depthAll [] ≤ 1
    decide
  | L :: r => by
    show max (PyData.depth (dn L)) (PyData.depthAll (r.map dn)) ≤ 1
    have h1 := depthAll_dn r
    have h2 : PyData.depth (dn L) = 1 := by
      rw [dn_dz]
      show PyData.depth (.list ((cn L).map PyData.int)) = 1
      unfold PyData.depth
      rw [depthAll_iz]
    omega
theorem shaped_lol (LL : List (List Nat)) : SeqAt.shaped (.list (LL.map dn)) = true := by
  unfold SeqAt.shaped
  have h1 : PyData.canLay0 (.list (LL.map dn)) = true := by
    unfold PyData.canLay0
    exact layAll_dn LL
  have h2 : PyData.depth (.list (LL.map dn)) ≤ 64 := by
    unfold PyData.depth
    have := depthAll_dn LL
    omega
  rw [h1, decide_eq_true h2]
  rfl
theorem shaped_dn (L : List Nat) : SeqAt.shaped (dn L) = true := by rw [dn_dz]; exact shaped_iz _
theorem dp_lol {K : PySem.W.Frag} {H : Hp} {l : Addr} {LL : List (List Nat)} (h : LolAt H l LL) : Dp K H (.ref l) (.list (LL.map dn)) := by
  obtain ⟨as, h1, h2⟩ := h
  exact .lst (SqL.of h1) (dpAll_lol h2)
theorem dp_dn {K : PySem.W.Frag} {H : Hp} {l : Addr} {L : List Nat} (h : H l = some (.lst (iv L))) : Dp K H (.ref l) (dn L) := by rw [dn_dz]; exact dp_iv h
theorem eqv_dn (L : List Nat) : PyData.eqv (dn L) (dn L) = true := SeqAt.eqv_refl _ (SeqAt.canLay_of_shaped (shaped_dn L))
theorem any_dn {LL : List (List Nat)} {L : List Nat} (h : L ∈ LL) : ((LL.map dn).any fun z => PyData.eqv z (dn L)) = true := List.any_eq_true.mpr ⟨dn L, List.mem_map.mpr ⟨L, h, rfl⟩, eqv_dn L⟩
section
variable {P : Program} {w : World} {K : PySem.W.Frag} {mg : Str → Option Value} {base : Heap} {C : Addr}
def spis_close (_ : PySem.W.Frag) (C : Addr) : Sp := fun vs H Q _ => ∃ a N ts, vs = [.ref a] ∧ WebAt C a N ts H ∧ OkWeb N ts ∧ ∀ H', Same H H' → Q (.bl (closedB N ts)) H'
theorem okis_close (D : Def K mg "is_close" sis_close ["web"]) (B : Bs mg) (Glb : Glo mg) (WK : WebK K mg C)
    (hneed_web : Good P w K mg base "need_web" sneed_web ["web"] 3 (spneed_web K C))
    (hparts_of : Good P w K mg base "parts_of" sparts_of ["web"] 4 (spparts_of K C))
    (hWeb_many : GoodP P w K mg base C "many" "Web.many" sWeb_many ["self"] 1 (spWeb_many K C)) :
    Good P w K mg base "is_close" sis_close ["web"] 5 (spis_close K C) := by
  refine D.good fun f fd F => ?_
  obtain ⟨fneed_web, dneed_web, Oneed_web, mneed_web, kneed_web, bneed_web, Fneed_web⟩ := hneed_web
  obtain ⟨fparts_of, dparts_of, Oparts_of, mparts_of, kparts_of, bparts_of, Fparts_of⟩ := hparts_of
  obtain ⟨qWeb_many, fWeb_many, dWeb_many, OWeb_many, pWeb_many, bWeb_many⟩ := hWeb_many
  refine F.ok scis_close (fun vs H Q E h => ?_) (fun cdv A outer s H vs Q E hr h => ?_)
  · obtain ⟨a, N, ts, rfl, hw, ho, q⟩ := h
    first | rfl | (rcases h with ⟨_, _, rfl, _⟩ | ⟨_, rfl, _⟩ <;> rfl)
  obtain ⟨a, N, ts, rfl, hw, ho, q⟩ := h
  refine ⟨_, (pss_cons (ps_expr (pe_call Oneed_web (hr.mono (by decide)) rfl mneed_web kneed_web bneed_web .nil pass0 (pa_cons (pv 0) pa_nil)))
  (pss_one (ps_ret (pe_and (pe_cmpR op_gt (pe_prop (pv 0) WK.cl pWeb_many OWeb_many (hr.mono (by decide)) bWeb_many .nil pass0 (by rfl)) pe_int (nomark _)) (pe_one (pe_cmpR op_eq (pe_callB call_len_seq (by rfl) B.len (by decide +kernel) (pa_cons (pe_call Oparts_of hr rfl mparts_of kparts_of bparts_of .nil pass0 (pa_cons (pv 0) pa_nil)) pa_nil)) pe_int (nomark _))))))), ?_⟩
  obtain ⟨dx, tl, fl, ol, h1, h23⟩ := id hw
  refine ⟨_, rfl, a, N, ts, rfl, hw, ?_⟩
  refine ⟨_, rfl, a, dx, _, rfl, h1, a, N, ts, rfl, hw, _, _, rfl, rfl, _, rfl, ?_⟩
  dsimp only
  have qc : closedB N ts = (decide (0 < ts.length) && decide ((partsL (Ed ts) N).length = 1)) := rfl
  by_cases c : 0 < ts.length
  · refine iteYes (by omega) ⟨_, rfl, a, N, ts, rfl, hw, ho, fun H1 l nl hS1 ⟨as, g1, g2⟩ _ => ⟨l, _, rfl, .inl (SqL.of g1), rfl, ?_⟩⟩
    have := q H1 hS1
    rw [qc, decide_eq_true c, Bool.true_and, ← paired_len g2] at this
    rw [List.length_map]
    have e : (V.int (as.length : Int) = V.int 1) ↔ as.length = 1 := ⟨fun z => by have := int_eq.mp z; omega, fun z => by rw [z]; rfl⟩
    rw [show (decide (V.int (as.length : Int) = V.int 1)) = decide (as.length = 1) from decide_eq_decide.mpr e]
    exact this
  · refine iteNo (by omega) ?_
    have := q H fun b o e => e
    rw [qc, decide_eq_false c, Bool.false_and] at this
    exact this
end
end My
namespace My
open PySem L2 PyProof.Rows
/-- a value, and which triple it is -/
inductive Tri (H : Hp) : V → Option (Option Int × Option Int × Option (List (Option Int))) → Prop where
  | int (n : Int) : Tri H (.int n) none
  | non : Tri H .non none
  | bl (b : Bool) : Tri H (.bl b) none
  | str (s : Str) : Tri H (.str s) none
  | lst {a : Addr} {xs : List V} (h : H a = some (.lst xs)) : Tri H (.ref a) none
  | dK {a : Addr} {ks : List (Key × V)} (h : H a = some (.dK ks)) : Tri H (.ref a) none
  | tup {a : Addr} {xs : List V} (h : H a = some (.tup xs)) (n : xs.length ≠ 3) : Tri H (.ref a) none
  | tri {a : Addr} {x y z : V} {i j : Option Int} {o : Option (List (Option Int))} (h : H a = some (.tup [x, y, z])) (hx : Num H x i) (hy : Num H y j) (hz : Val H z o) : Tri H (.ref a) (some (i, j, o))
theorem Tri.same {H H' : Hp} {v : V} {t : Option (Option Int × Option Int × Option (List (Option Int)))} (h : Tri H v t) (s : Same H H') : Tri H' v t := by
  cases h with
  | int n => exact .int n
  | non => exact .non
  | bl b => exact .bl b
  | str x => exact .str x
  | lst h => exact .lst (s _ _ h)
  | dK h => exact .dK (s _ _ h)
  | tup h n => exact .tup (s _ _ h) n
  | tri h hx hy hz => exact .tri (s _ _ h) (hx.same s) (hy.same s) (hz.same s)
/-- a road around the i-th to the j-th step of W -/
structure RoadAt (ts : List (Nat × Nat)) (W : List Nat) (i j : Nat) (R : List Nat) : Prop where
  i1 : 1 ≤ i
  ij : i ≤ j
  jl : j < W.length
  ch : Chain ts R
  ends : ∃ x y wj wi e f g h, R[0]? = some x ∧ R[R.length - 1]? = some y ∧ W[j]? = some wj ∧ W[i - 1]? = some wi ∧ ts[x]? = some e ∧ ts[y]? = some f ∧ ts[wj]? = some g ∧ ts[wi]? = some h ∧ e.1 = g.1 ∧ f.2 = h.2
  nj : ∀ w, W[j]? = some w → w ∉ R
  ni : ∀ w, W[i - 1]? = some w → w ∉ R
def RoadOk (ts : List (Nat × Nat)) (W : List Nat) (t : Option (Option Int × Option Int × Option (List (Option Int)))) : Prop := ∃ i j R, t = some (some ((i : Nat) : Int), some ((j : Nat) : Int), some (nz R)) ∧ RoadAt ts W i j R
abbrev two (a b : Nat) : PyData := .tuple [.int (a : Int), .int (b : Int)]
theorem dp_two {K : PySem.W.Frag} {H : Hp} {p : Addr} {a b : Nat} (h : H p = some (.tup [.int (a : Int), .int (b : Int)])) : Dp K H (.ref p) (two a b) := .tup (SqT.of h) (.cons (.int _) (.cons (.int _) .nil))
theorem shaped_two (a b : Nat) : SeqAt.shaped (two a b) = true := by
  unfold SeqAt.shaped
  simp [PyData.canLay0, PyData.canLayAll0, PyData.depth, PyData.depthAll]
theorem eqv_twos (a b c d : Nat) : PyData.eqv (two a b) (two c d) = decide (a = c ∧ b = d) := by
  show (((a : Int) == (c : Int)) && (((b : Int) == (d : Int)) && true)) = _
  rw [Bool.eq_iff_iff]
  simp only [Bool.and_eq_true, beq_iff_eq, decide_eq_true_iff, and_true]
  omega
theorem btwO_yes {a b : Int} {o : Option Int} (h : btwO a b o = true) : ∃ n, o = some n ∧ a ≤ n ∧ n ≤ b := by
  cases o with
  | none => cases h
  | some n =>
    have h1 : (decide (a ≤ n) && decide (n ≤ b)) = true := h
    rw [Bool.and_eq_true, decide_eq_true_iff, decide_eq_true_iff] at h1
    exact ⟨n, rfl, h1.1, h1.2⟩
theorem btwO_of {a b n : Int} (h1 : a ≤ n) (h2 : n ≤ b) : btwO a b (some n) = true := btw h1 h2
section
variable {P : Program} {w : World} {K : PySem.W.Frag} {mg : Str → Option Value} {base : Heap} {C : Addr}
def spneed_close (_ : PySem.W.Frag) (C : Addr) : Sp := fun vs H Q _ => ∃ a N ts, vs = [.ref a] ∧ WebAt C a N ts H ∧ OkWeb N ts ∧ closedB N ts = true ∧ ∀ H', Same H H' → Q .non H'
theorem okneed_close (D : Def K mg "need_close" sneed_close ["web"]) (B : Bs mg) (Glb : Glo mg) (WK : WebK K mg C)
    (his_close : Good P w K mg base "is_close" sis_close ["web"] 5 (spis_close K C)) :
    Good P w K mg base "need_close" sneed_close ["web"] 6 (spneed_close K C) := by
  refine D.good fun f fd F => ?_
  obtain ⟨fis_close, dis_close, Ois_close, mis_close, kis_close, bis_close, Fis_close⟩ := his_close
  refine F.ok scneed_close (fun vs H Q E h => ?_) (fun cdv A outer s H vs Q E hr h => ?_)
  · obtain ⟨a, N, ts, rfl, hw, ho, hcl, q⟩ := h
    first | rfl | (rcases h with ⟨_, _, rfl, _⟩ | ⟨_, rfl, _⟩ <;> rfl)
  obtain ⟨a, N, ts, rfl, hw, ho, hcl, q⟩ := h
  refine ⟨_, (pss_one (ps_if (pt_not (pt_val (pe_call Ois_close hr rfl mis_close kis_close bis_close .nil pass0 (pa_cons (pv 0) pa_nil))))
    (pss_one ps_never) pss_nil)), ?_⟩
  refine ⟨_, rfl, a, N, ts, rfl, hw, ho, fun H1 hS1 => ⟨_, rfl, ?_⟩⟩
  rw [hcl]
  exact iteF (q H1 hS1)
def spneed_walk_of_close (_ : PySem.W.Frag) (C : Addr) : Sp := fun vs H Q _ => ∃ a N ts s W, vs = [.ref a, .ref s] ∧ WebAt C a N ts H ∧ OkWeb N ts ∧ closedB N ts = true ∧ SeqAt H s W ∧ Chain ts W ∧ W.length ≤ 400 ∧ ∀ H', Same H H' → Q .non H'
theorem okneed_walk_of_close (D : Def K mg "need_walk_of_close" sneed_walk_of_close ["web", "walk"]) (B : Bs mg) (Glb : Glo mg) (WK : WebK K mg C)
    (hneed_web : Good P w K mg base "need_web" sneed_web ["web"] 3 (spneed_web K C))
    (hneed_walk : Good P w K mg base "need_walk" sneed_walk ["web", "walk"] 7 (spneed_walk K C))
    (hneed_close : Good P w K mg base "need_close" sneed_close ["web"] 6 (spneed_close K C)) :
    Good P w K mg base "need_walk_of_close" sneed_walk_of_close ["web", "walk"] 8 (spneed_walk_of_close K C) := by
  refine D.good fun f fd F => ?_
  obtain ⟨fneed_web, dneed_web, Oneed_web, mneed_web, kneed_web, bneed_web, Fneed_web⟩ := hneed_web
  obtain ⟨fneed_walk, dneed_walk, Oneed_walk, mneed_walk, kneed_walk, bneed_walk, Fneed_walk⟩ := hneed_walk
  obtain ⟨fneed_close, dneed_close, Oneed_close, mneed_close, kneed_close, bneed_close, Fneed_close⟩ := hneed_close
  refine F.ok scneed_walk_of_close (fun vs H Q E h => ?_) (fun cdv A outer s H vs Q E hr h => ?_)
  · obtain ⟨a, N, ts, s, W, rfl, hw, ho, hcl, hs, hW, hl, q⟩ := h
    first | rfl | (rcases h with ⟨_, _, rfl, _⟩ | ⟨_, rfl, _⟩ <;> rfl)
  obtain ⟨a, N, ts, s, W, rfl, hw, ho, hcl, hs, hW, hl, q⟩ := h
  refine ⟨_, (pss_cons (ps_expr (pe_call Oneed_web (hr.mono (by decide)) rfl mneed_web kneed_web bneed_web .nil pass0 (pa_cons (pv 0) pa_nil)))
  (pss_cons (ps_expr (pe_call Oneed_walk hr rfl mneed_walk kneed_walk bneed_walk .nil pass0 (pa_cons (pv 0) (pa_cons (pv 1) pa_nil))))
  (pss_one (ps_expr (pe_call Oneed_close (hr.mono (by decide)) rfl mneed_close kneed_close bneed_close .nil pass0 (pa_cons (pv 0) pa_nil)))))), ?_⟩
  refine ⟨_, rfl, a, N, ts, rfl, hw, _, rfl, _, rfl, a, N, ts, s, W, rfl, hw, hs, hW, hl, fun H1 hS1 => ?_⟩
  exact ⟨_, rfl, a, N, ts, rfl, hw.same hS1, ho, hcl, fun H2 hS2 => q H2 (hS1.trans hS2)⟩
def spleads (_ : PySem.W.Frag) (C : Addr) : Sp := fun vs H Q _ => ∃ a N ts s R, vs = [.ref a, .ref s] ∧ WebAt C a N ts H ∧ SeqAt H s R ∧ Chain ts R ∧ R.length ≤ 400 ∧ ∀ H' t x y e f, R[0]? = some x → R[R.length - 1]? = some y → ts[x]? = some e → ts[y]? = some f → Same H H' → H t = none → H' t = some (.tup [.int ((e.1 : Nat) : Int), .int ((f.2 : Nat) : Int)]) → Q (.ref t) H'
theorem okleads (D : Def K mg "leads" sleads ["web", "walk"]) (B : Bs mg) (Glb : Glo mg) (WK : WebK K mg C)
    (hneed_web : Good P w K mg base "need_web" sneed_web ["web"] 3 (spneed_web K C))
    (hneed_walk : Good P w K mg base "need_walk" sneed_walk ["web", "walk"] 7 (spneed_walk K C))
    (hWeb_ties : GoodM P w K mg base C "ties" "Web.ties" sWeb_ties ["self"] 1 (spWeb_ties K C)) :
    Good P w K mg base "leads" sleads ["web", "walk"] 8 (spleads K C) := by
  refine D.good fun f fd F => ?_
  obtain ⟨fneed_web, dneed_web, Oneed_web, mneed_web, kneed_web, bneed_web, Fneed_web⟩ := hneed_web
  obtain ⟨fneed_walk, dneed_walk, Oneed_walk, mneed_walk, kneed_walk, bneed_walk, Fneed_walk⟩ := hneed_walk
  obtain ⟨fWeb_ties, dWeb_ties, OWeb_ties, tWeb_ties, bWeb_ties, FWeb_ties⟩ := hWeb_ties
  refine F.ok scleads (fun vs H Q E h => ?_) (fun cdv A outer s H vs Q E hr h => ?_)
  · obtain ⟨a, N, ts, s, R, rfl, hw, hs, hc, h4, q⟩ := h
    first | rfl | (rcases h with ⟨_, _, rfl, _⟩ | ⟨_, rfl, _⟩ <;> rfl)
  obtain ⟨a, N, ts, s, R, rfl, hw, hs, hc, h4, q⟩ := h
  refine ⟨_, (pss_cons (ps_expr (pe_call Oneed_web (hr.mono (by decide)) rfl mneed_web kneed_web bneed_web .nil pass0 (pa_cons (pv 0) pa_nil)))
  (pss_cons (ps_expr (pe_call Oneed_walk hr rfl mneed_walk kneed_walk bneed_walk .nil pass0 (pa_cons (pv 0) (pa_cons (pv 1) pa_nil))))
  (pss_cons (ps_set (i := 2) scleads.nd rfl (by first | exact Or.inl rfl | exact Or.inr rfl) (pe_meth0 (pv 0) WK.cl tWeb_ties OWeb_ties (hr.mono (by decide)) bWeb_ties .nil pass0))
  (pss_one (ps_ret (pe_tup (pa_cons (pe_ix ix_tup (pe_ix ix_list (pv 2) (pe_ix ix_seq (pv 1) pe_int (fun _ _ => rfl)) (fun _ _ => rfl)) pe_int (fun _ _ => rfl)) (pa_cons (pe_ix ix_tup (pe_ix ix_list (pv 2) (pe_ix ix_seq (pv 1) (pe_un un_neg pe_int) (fun _ _ => rfl)) (fun _ _ => rfl)) pe_int (fun _ _ => rfl)) pa_nil)))))))), ?_⟩
  have h0 := hc.n0
  refine ⟨_, rfl, a, N, ts, rfl, hw, _, rfl, _, rfl, a, N, ts, s, R, rfl, hw, hs, hc, h4, fun H1 hS1 => ?_⟩
  have hw2 := hw.same hS1
  obtain ⟨dx, tl, fl, ol, g1, _⟩ := id hw2
  refine ⟨_, rfl, a, dx, _, rfl, g1, (by rfl), a, N, ts, rfl, hw2, fun H3 l nl hS3 hT => ?_⟩
  have hs3 := (hs.same hS1).same hS3
  obtain ⟨x, e, e1, e3⟩ := ends_get hc.num (i := 0) (by omega)
  obtain ⟨y, f, e2, e4⟩ := ends_get hc.num (i := R.length - 1) (by omega)
  obtain ⟨xs, p, k1, k2, k3⟩ := hT.at_ e3
  obtain ⟨xs', p', k1', k2', k3'⟩ := hT.at_ e4
  refine ⟨_, rfl, _, rfl, hs3.ix (iv_at (j := 0) e1) ⟨_, _, _, _, rfl, rfl, SqL.of k1, k2, _, _, _, _, rfl, rfl, SqT.of k3, rfl, ?_⟩⟩
  refine ⟨_, rfl, _, rfl, _, rfl, hs3.ix (b := y) (iv_back e2) ⟨_, _, _, _, rfl, rfl, SqL.of k1', k2', _, _, _, _, rfl, rfl, SqT.of k3', rfl, (by show 2 ≤ sizeLine; decide), fun t nt => ?_⟩⟩
  exact q _ t x y e f e1 e2 e3 e4 ((hS1.trans hS3).trans (same_new nt _)) ((hS1.trans hS3).free nt) upd_same
def spleads_around (_ : PySem.W.Frag) (C : Addr) : Sp := fun vs H Q _ => ∃ a N ts s W v t, vs = [.ref a, .ref s, v] ∧ WebAt C a N ts H ∧ H s = some (.lst (iv W)) ∧ Chain ts W ∧ W.length ≤ 100 ∧ Tri H v t ∧ (∀ i j os, t = some (i, j, some os) → os.length ≤ 400) ∧ ∀ b H', (b = true ↔ RoadOk ts W t) → Same H H' → Q (.bl b) H'
theorem okleads_around (D : Def K mg "leads_around" sleads_around ["web", "walk", "value"]) (B : Bs mg) (Glb : Glo mg) (WK : WebK K mg C)
    (his_walk : Good P w K mg base "is_walk" sis_walk ["web", "value"] 6 (spis_walk K C))
    (his_between : Good P w K mg base "is_between" sis_between ["value", "least", "most"] 2 (spis_between K C))
    (hleads : Good P w K mg base "leads" sleads ["web", "walk"] 8 (spleads K C))
    (hWeb_ties : GoodM P w K mg base C "ties" "Web.ties" sWeb_ties ["self"] 1 (spWeb_ties K C)) :
    Good P w K mg base "leads_around" sleads_around ["web", "walk", "value"] 9 (spleads_around K C) := by
  refine D.good fun f fd F => ?_
  obtain ⟨fis_walk, dis_walk, Ois_walk, mis_walk, kis_walk, bis_walk, Fis_walk⟩ := his_walk
  obtain ⟨fis_between, dis_between, Ois_between, mis_between, kis_between, bis_between, Fis_between⟩ := his_between
  obtain ⟨fleads, dleads, Oleads, mleads, kleads, bleads, Fleads⟩ := hleads
  obtain ⟨fWeb_ties, dWeb_ties, OWeb_ties, tWeb_ties, bWeb_ties, FWeb_ties⟩ := hWeb_ties
  refine F.ok scleads_around (fun vs H Q E h => ?_) (fun cdv A outer s H vs Q E hr h => ?_)
  · obtain ⟨a, N, ts, s, W, v, t, rfl, hw, hs, hW, hWl, ht, hlen, q⟩ := h
    first | rfl | (rcases h with ⟨_, _, rfl, _⟩ | ⟨_, rfl, _⟩ <;> rfl)
  obtain ⟨a, N, ts, s, W, v, t, rfl, hw, hs, hW, hWl, ht, hlen, q⟩ := h
  refine ⟨_, (pss_cons (ps_if (PW.pt (pw_or (pt_not (pt_val (pe_callB call_isi (by rfl) B.isinstance (by decide +kernel) (pa_cons (pv 2) (pa_cons (pe_bltn (v := .ty "tuple") (by rfl) B.tuple (by decide +kernel) rfl) pa_nil))))) (pw_or1 (pt_cmpR op_ne (pe_callB call_len_seq (by rfl) B.len (by decide +kernel) (pa_cons (pv 2) pa_nil)) pe_int (nomark _)))))
    (pss_one (ps_ret pe_bl)) pss_nil)
  (pss_cons (ps_asg (pv 2) (pg_tup rfl (pgs_cons (pg_name (i := 3) scleads_around.nd rfl (by first | exact Or.inl rfl | exact Or.inr rfl)) (pgs_cons (pg_name (i := 4) scleads_around.nd rfl (by first | exact Or.inl rfl | exact Or.inr rfl)) (pgs_cons (pg_name (i := 5) scleads_around.nd rfl (by first | exact Or.inl rfl | exact Or.inr rfl)) pgs_nil)))))
  (pss_cons (ps_if (PW.pt (pw_or (pt_not (pt_val (pe_call Ois_between (hr.mono (by decide)) rfl mis_between kis_between bis_between .nil pass0 (pa_cons (pv 4) (pa_cons pe_int (pa_cons (pe_op op_sub (pe_callB call_len_seq (by rfl) B.len (by decide +kernel) (pa_cons (pv 1) pa_nil)) pe_int) pa_nil)))))) (pw_or1 (pt_not (pt_val (pe_call Ois_between (hr.mono (by decide)) rfl mis_between kis_between bis_between .nil pass0 (pa_cons (pv 3) (pa_cons pe_int (pa_cons (pv 4) pa_nil)))))))))
    (pss_one (ps_ret pe_bl)) pss_nil)
  (pss_cons (ps_if (pt_not (pt_val (pe_call Ois_walk (hr.mono (by decide)) rfl mis_walk kis_walk bis_walk .nil pass0 (pa_cons (pv 0) (pa_cons (pv 5) pa_nil)))))
    (pss_one (ps_ret pe_bl)) pss_nil)
  (pss_cons (ps_set (i := 6) scleads_around.nd rfl (by first | exact Or.inl rfl | exact Or.inr rfl) (pe_meth0 (pv 0) WK.cl tWeb_ties OWeb_ties (hr.mono (by decide)) bWeb_ties .nil pass0))
  (pss_cons (ps_set (i := 7) scleads_around.nd rfl (by first | exact Or.inl rfl | exact Or.inr rfl) (pe_tup (pa_cons (pe_ix ix_tup (pe_ix ix_list (pv 6) (pe_ix ix_list (pv 1) (pv 4) (fun _ _ => rfl)) (fun _ _ => rfl)) pe_int (fun _ _ => rfl)) (pa_cons (pe_ix ix_tup (pe_ix ix_list (pv 6) (pe_ix ix_list (pv 1) (pe_op op_sub (pv 3) pe_int) (fun _ _ => rfl)) (fun _ _ => rfl)) pe_int (fun _ _ => rfl)) pa_nil))))
  (pss_one (ps_ret (pe_and (pe_cmpR (op_eqD hr.units) (pe_call Oleads hr rfl mleads kleads bleads .nil pass0 (pa_cons (pv 0) (pa_cons (pv 5) pa_nil))) (pv 7) (nomark _)) (pe_and (pe_cmpR op_notIn_seq (pe_ix ix_list (pv 1) (pv 4) (fun _ _ => rfl)) (pv 5) (by rfl)) (pe_one (pe_cmpR op_notIn_seq (pe_ix ix_list (pv 1) (pe_op op_sub (pv 3) pe_int) (fun _ _ => rfl)) (pv 5) (by rfl))))))))))))), ?_⟩
  have no : ∀ H', ¬ RoadOk ts W t → Same H H' → Q (.bl false) H' := fun H' h => q false H' ⟨(fun z => nomatch z), fun z => absurd z h⟩
  have h0 := hW.n0
  cases ht with
  | int n => exact ⟨_, rfl, _, _, _, _, false, rfl, .ty _, .base (.int n), kit_ty (by decide +kernel), _, rfl, iteT (no H (fun ⟨_, _, _, e, _⟩ => nomatch e) (Same.refl H))⟩
  | non => exact ⟨_, rfl, _, _, _, _, false, rfl, .ty _, .base .non, kit_ty (by decide +kernel), _, rfl, iteT (no H (fun ⟨_, _, _, e, _⟩ => nomatch e) (Same.refl H))⟩
  | bl b => exact ⟨_, rfl, _, _, _, _, false, rfl, .ty _, .base (.bl b), kit_ty (by decide +kernel), _, rfl, iteT (no H (fun ⟨_, _, _, e, _⟩ => nomatch e) (Same.refl H))⟩
  | str x => exact ⟨_, rfl, _, _, _, _, false, rfl, .ty _, .base (.str x), kit_ty (by decide +kernel), _, rfl, iteT (no H (fun ⟨_, _, _, e, _⟩ => nomatch e) (Same.refl H))⟩
  | lst h => exact ⟨_, rfl, _, _, _, _, false, rfl, .ty _, .base (.lst h), kit_ty (by decide +kernel), _, rfl, iteT (no H (fun ⟨_, _, _, e, _⟩ => nomatch e) (Same.refl H))⟩
  | dK h => exact ⟨_, rfl, _, _, _, _, false, rfl, .ty _, .base (.dK h), kit_ty (by decide +kernel), _, rfl, iteT (no H (fun ⟨_, _, _, e, _⟩ => nomatch e) (Same.refl H))⟩
  | tup h n =>
    refine ⟨_, rfl, _, _, _, _, true, rfl, .ty _, .base (.tup h), kit_ty (by decide +kernel), _, rfl, iteF ⟨_, rfl, _, _, rfl, .inr (SqT.of h), rfl, _, rfl, iteNot (fun z => n (by have := int_eq.mp z; omega)) ?_⟩⟩
    exact no H (fun ⟨_, _, _, e, _⟩ => nomatch e) (Same.refl H)
  | @tri va x y z i j o h hx hy hz =>
    refine ⟨_, rfl, _, _, _, _, true, rfl, .ty _, .base (.tup h), kit_ty (by decide +kernel), _, rfl, iteF ⟨_, rfl, _, _, rfl, .inr (SqT.of h), rfl, _, rfl, iteNot' rfl ?_⟩⟩
    refine ⟨_, rfl, va, _, rfl, SqT.of h, rfl, _, _, rfl, _, _, rfl, _, _, rfl, rfl, ?_⟩
    refine ⟨_, rfl, _, rfl, s, _, rfl, .inl (SqL.of hs), _, _, rfl, rfl, y, j, 1, (W.length : Int) - 1, by rw [List.length_map]; rfl, hy, _, rfl, ?_⟩
    cases c1 : btwO 1 ((W.length : Int) - 1) j with
    | false =>
      refine iteNbF rfl (no H (fun ⟨i', j', R, e, hr⟩ => ?_) (Same.refl H))
      cases e
      have := hr.i1
      have := hr.ij
      have := hr.jl
      rw [btwO_of (by omega) (by omega)] at c1
      cases c1
    | true =>
    refine iteNb rfl ?_
    obtain ⟨n, rfl, n1, n2⟩ := btwO_yes c1
    cases hy.some_is
    refine ⟨_, rfl, _, rfl, x, i, 1, n, rfl, hx, _, rfl, ?_⟩
    cases c2 : btwO 1 n i with
    | false =>
      refine iteNbF rfl (no H (fun ⟨i', j', R, e, hr⟩ => ?_) (Same.refl H))
      cases e
      have := hr.i1
      have := hr.ij
      rw [btwO_of (by omega) (by omega)] at c2
      cases c2
    | true =>
    refine iteNb rfl ?_
    obtain ⟨m, rfl, m1, m2⟩ := btwO_yes c2
    cases hx.some_is
    obtain ⟨jn, rfl⟩ : ∃ jn : Nat, n = (jn : Int) := ⟨n.toNat, by omega⟩
    obtain ⟨im, rfl⟩ : ∃ im : Nat, m = (im : Int) := ⟨m.toNat, by omega⟩
    refine ⟨_, rfl, _, rfl, a, N, ts, z, o, rfl, hw, hz, fun os e => hlen _ _ os (by rw [e]), fun b H1 hb hS1 => ⟨_, rfl, ?_⟩⟩
    cases b with
    | false =>
      refine iteT (no H1 (fun ⟨i', j', R, e, hr⟩ => ?_) hS1)
      cases e
      cases hb.mpr (walk_nz.mpr hr.ch)
    | true =>
    refine iteF ?_
    obtain ⟨R, rfl, hc⟩ := hb.mp rfl
    obtain ⟨sr, rfl, hsr⟩ := (hz.same hS1).seqAt
    have hw1 := hw.same hS1
    obtain ⟨dx, tl, fl, ol, g1, _⟩ := id hw1
    refine ⟨_, rfl, a, dx, _, rfl, g1, (by rfl), a, N, ts, rfl, hw1, fun H2 l nl hS2 hT => ?_⟩
    have hs2 := hS2 _ _ (hS1 _ _ hs)
    obtain ⟨wj, eg, j1, j2⟩ := ends_get hW.num (i := jn) (by omega)
    obtain ⟨wi, eh, i1, i2⟩ := ends_get hW.num (i := im - 1) (by omega)
    obtain ⟨xs, p, k1, k2, k3⟩ := hT.at_ j2
    obtain ⟨xs', p', k1', k2', k3'⟩ := hT.at_ i2
    refine ⟨_, rfl, _, rfl, _, rfl, _, _, _, .int (wj : Int), rfl, rfl, SqL.of hs2, iv_at j1, _, _, _, .ref p, rfl, rfl, SqL.of k1, k2, _, _, _, .int (eg.1 : Int), rfl, rfl, SqT.of k3, rfl, ?_⟩
    refine ⟨_, rfl, _, rfl, _, rfl, _, _, rfl, rfl, _, _, _, .int (wi : Int), rfl, rfl, SqL.of hs2, by rw [show ((im : Nat) : Int) - 1 = ((im - 1 : Nat) : Int) by omega]; exact iv_at i1, _, _, _, .ref p', rfl, rfl, SqL.of k1', k2', _, _, _, .int (eh.2 : Int), rfl, rfl, SqT.of k3', rfl, (by show 2 ≤ sizeLine; decide), fun tp ntp => ?_⟩
    have hS3 := hS2.trans (same_new ntp (.tup [.int (eg.1 : Int), .int (eh.2 : Int)]))
    have htp : upd H2 tp (.tup [.int (eg.1 : Int), .int (eh.2 : Int)]) tp = some (.tup [.int (eg.1 : Int), .int (eh.2 : Int)]) := upd_same
    generalize upd H2 tp (.tup [.int (eg.1 : Int), .int (eh.2 : Int)]) = H3 at hS3 htp
    refine ⟨_, rfl, _, rfl, a, N, ts, sr, R, rfl, hw1.same hS3, hsr.same hS3, hc, by have := hlen _ _ _ rfl; rw [len_nz] at this; exact this, fun H4 t' x0 y0 e f r1 r2 r3 r4 hS4 nt ht => ⟨_, rfl, _, _, dp_two ht, dp_two (hS4 _ _ htp), shaped_two _ _, shaped_two _ _, _, rfl, ?_⟩⟩
    have hS04 := (hS1.trans hS3).trans hS4
    have uniq : RoadOk ts W (some (some ((im : Nat) : Int), some ((jn : Nat) : Int), some (nz R))) → RoadAt ts W im jn R := fun ⟨i', j', R', e, hr⟩ => by
      have e1 := Option.some.inj e
      have e2 := congrArg Prod.fst e1
      have e3 := congrArg (fun q => q.2.1) e1
      have e4 := congrArg (fun q => q.2.2) e1
      have q1 : (im : Int) = (i' : Int) := Option.some.inj e2
      have q2 : (jn : Int) = (j' : Int) := Option.some.inj e3
      have q3 := nz_inj (Option.some.inj e4)
      have q1' : im = i' := by omega
      have q2' : jn = j' := by omega
      subst q1' q2' q3
      exact hr
    rw [eqv_twos]
    by_cases c3 : e.1 = eg.1 ∧ f.2 = eh.2
    · refine iteYes c3 ?_
      have hs4 := hS04 _ _ hs
      have hsr4 := (hsr.same hS3).same hS4
      refine ⟨_, rfl, _, rfl, _, _, _, .int (wj : Int), rfl, rfl, SqL.of hs4, iv_at j1, _, rfl, sr, _, rfl, hsr4.seq, rfl, flat_iv _, _, rfl, ?_⟩
      rw [inV_iv]
      by_cases d1 : wj ∈ R
      · refine iteNot' d1 (no H4 (fun hr => (uniq hr).nj wj j1 d1) hS04)
      refine iteNot d1 ?_
      refine ⟨_, rfl, _, rfl, _, _, rfl, rfl, _, _, _, .int (wi : Int), rfl, rfl, SqL.of hs4, by rw [show ((im : Nat) : Int) - 1 = ((im - 1 : Nat) : Int) by omega]; exact iv_at i1, _, rfl, sr, _, rfl, hsr4.seq, rfl, flat_iv _, ?_⟩
      rw [inV_iv]
      refine q (!decide (wi ∈ R)) H4 ?_ hS04
      rw [Bool.not_eq_true', decide_eq_false_iff_not]
      constructor
      · intro d2
        refine ⟨im, jn, R, rfl, by omega, by omega, by omega, hc, ⟨x0, y0, wj, wi, e, f, eg, eh, r1, r2, j1, i1, r3, r4, j2, i2, c3.1, c3.2⟩, fun w hw' => ?_, fun w hw' => ?_⟩
        · rw [j1] at hw'
          cases hw'
          exact d1
        · rw [i1] at hw'
          cases hw'
          exact d2
      · exact fun hr => (uniq hr).ni wi i1
    · refine iteNo c3 (no H4 (fun hr => c3 ?_) hS04)
      obtain ⟨x', y', wj', wi', e', f', g', h', s1, s2, s3, s4, s5, s6, s7, s8, s9, s10⟩ := (uniq hr).ends
      rw [r1] at s1
      rw [r2] at s2
      rw [j1] at s3
      rw [i1] at s4
      cases s1
      cases s2
      cases s3
      cases s4
      rw [r3] at s5
      rw [r4] at s6
      rw [j2] at s7
      rw [i2] at s8
      cases s5
      cases s6
      cases s7
      cases s8
      exact ⟨s9, s10⟩
def spis_road_around (_ : PySem.W.Frag) (C : Addr) : Sp := fun vs H Q _ => ∃ a N ts s W v t, vs = [.ref a, .ref s, v] ∧ WebAt C a N ts H ∧ OkWeb N ts ∧ closedB N ts = true ∧ H s = some (.lst (iv W)) ∧ Chain ts W ∧ W.length ≤ 100 ∧ Tri H v t ∧ (∀ i j os, t = some (i, j, some os) → os.length ≤ 400) ∧ ∀ b H', (b = true ↔ RoadOk ts W t) → Same H H' → Q (.bl b) H'
theorem okis_road_around (D : Def K mg "is_road_around" sis_road_around ["web", "walk", "value"]) (B : Bs mg) (Glb : Glo mg) (WK : WebK K mg C)
    (hneed_walk_of_close : Good P w K mg base "need_walk_of_close" sneed_walk_of_close ["web", "walk"] 8 (spneed_walk_of_close K C))
    (hleads_around : Good P w K mg base "leads_around" sleads_around ["web", "walk", "value"] 9 (spleads_around K C)) :
    Good P w K mg base "is_road_around" sis_road_around ["web", "walk", "value"] 10 (spis_road_around K C) := by
  refine D.good fun f fd F => ?_
  obtain ⟨fneed_walk_of_close, dneed_walk_of_close, Oneed_walk_of_close, mneed_walk_of_close, kneed_walk_of_close, bneed_walk_of_close, Fneed_walk_of_close⟩ := hneed_walk_of_close
  obtain ⟨fleads_around, dleads_around, Oleads_around, mleads_around, kleads_around, bleads_around, Fleads_around⟩ := hleads_around
  refine F.ok scis_road_around (fun vs H Q E h => ?_) (fun cdv A outer s H vs Q E hr h => ?_)
  · obtain ⟨a, N, ts, s, W, v, t, rfl, hw, ho, hcl, hs, hW, hWl, ht, hlen, q⟩ := h
    first | rfl | (rcases h with ⟨_, _, rfl, _⟩ | ⟨_, rfl, _⟩ <;> rfl)
  obtain ⟨a, N, ts, s, W, v, t, rfl, hw, ho, hcl, hs, hW, hWl, ht, hlen, q⟩ := h
  refine ⟨_, (pss_cons (ps_expr (pe_call Oneed_walk_of_close (hr.mono (by decide)) rfl mneed_walk_of_close kneed_walk_of_close bneed_walk_of_close .nil pass0 (pa_cons (pv 0) (pa_cons (pv 1) pa_nil))))
  (pss_one (ps_ret (pe_call Oleads_around hr rfl mleads_around kleads_around bleads_around .nil pass0 (pa_cons (pv 0) (pa_cons (pv 1) (pa_cons (pv 2) pa_nil))))))), ?_⟩
  refine ⟨_, rfl, _, rfl, a, N, ts, s, W, rfl, hw, ho, hcl, .inl hs, hW, by omega, fun H1 hS1 => ?_⟩
  exact ⟨_, rfl, _, rfl, _, rfl, a, N, ts, s, W, v, t, rfl, hw.same hS1, hS1 _ _ hs, hW, hWl, ht.same hS1, hlen, fun b H2 hb hS2 => q b H2 hb (hS1.trans hS2)⟩
end
end My
namespace My
/-! ### turnings in their order -/
def rot (l : List Nat) (p : Nat) : List Nat := rd l p l.length
theorem rot_len (l : List Nat) (p : Nat) : (rot l p).length = l.length := rd_len _ _ _
def gt (l : List Nat) (i : Nat) : Nat := l.getD (i % l.length) 0
theorem rd_gt (l : List Nat) (p n : Nat) : rd l p n = (List.range n).map fun k => gt l (p + k) := rfl
theorem rd_split (l : List Nat) (p a b : Nat) : rd l p (a + b) = rd l p a ++ rd l (p + a) b := by
  induction b with
  | zero => simp [rd_zero]
  | succ b ih => rw [← Nat.add_assoc, rd_succ, ih, rd_succ, List.append_assoc, Nat.add_assoc]
theorem rd_cons (l : List Nat) (p n : Nat) : rd l p (n + 1) = gt l p :: rd l (p + 1) n := by
  rw [Nat.add_comm n 1, rd_split]
  rfl
theorem rd_congr {l : List Nat} {p q n : Nat} (h : ∀ j, j < n → gt l (p + j) = gt l (q + j)) : rd l p n = rd l q n := by
  rw [rd_gt, rd_gt]
  apply List.map_congr_left
  intro k hk
  exact h k (List.mem_range.mp hk)
theorem gt_congr {l : List Nat} {p q n : Nat} (h : rd l p n = rd l q n) (j : Nat) (hj : j < n) : gt l (p + j) = gt l (q + j) := by
  have e := congrArg (fun z : List Nat => z[j]?) h
  simp only [rd_get _ _ _ _ hj] at e
  exact Option.some.inj e
theorem lt_append {a x y : List Nat} (h : x < y) : a ++ x < a ++ y := by
  induction a with
  | nil => exact h
  | cons c r ih =>
    rw [List.cons_append, List.cons_append, List.cons_lt_cons_iff]
    exact .inr ⟨rfl, ih⟩
/-- alike for k letters, then less: less -/
theorem rot_lt {l : List Nat} {p q k : Nat} (hk : k < l.length) (h : ∀ j, j < k → gt l (p + j) = gt l (q + j)) (hl : gt l (p + k) < gt l (q + k)) : rot l p < rot l q := by
  unfold rot
  rw [show l.length = k + ((l.length - k - 1) + 1) by omega, rd_split l p, rd_split l q, rd_congr h]
  apply lt_append
  rw [rd_cons, rd_cons, List.cons_lt_cons_iff]
  exact .inl hl
def Bad (l : List Nat) (p : Nat) : Prop := ∃ q, rot l q < rot l p
def Opt (l : List Nat) (p : Nat) : Prop := ∀ q, ¬ rot l q < rot l p
theorem opt_bad {l : List Nat} {p : Nat} (h : Opt l p) (b : Bad l p) : False := by
  obtain ⟨q, hq⟩ := b
  exact h q hq
theorem rot_mod (l : List Nat) (p : Nat) : rot l (p % l.length) = rot l p := rd_mod _ _ _
/-- there is a least one -/
theorem opt_ex {l : List Nat} (h0 : 0 < l.length) : ∃ p, p < l.length ∧ Opt l p := by
  have key : ∀ n, 0 < n → ∃ p, p < n ∧ ∀ q, q < n → ¬ rot l q < rot l p := by
    intro n
    induction n with
    | zero => intro h; omega
    | succ n ih =>
      intro _
      rcases Nat.eq_zero_or_pos n with z | z
      · subst z
        refine ⟨0, by omega, fun q hq => ?_⟩
        have e : q = 0 := by omega
        subst e
        exact List.lt_irrefl _
      · obtain ⟨p, hp, hm⟩ := ih z
        by_cases c : rot l n < rot l p
        · refine ⟨n, by omega, fun q hq hlt => ?_⟩
          by_cases e : q = n
          · subst e; exact List.lt_irrefl _ hlt
          · exact hm q (by omega) (List.lt_trans hlt c)
        · refine ⟨p, by omega, fun q hq => ?_⟩
          by_cases e : q = n
          · subst e; exact c
          · exact hm q (by omega)
  obtain ⟨p, hp, hm⟩ := key l.length h0
  refine ⟨p, hp, fun q => ?_⟩
  rw [← rot_mod l q]
  exact hm _ (Nat.mod_lt _ h0)
structure Two (l : List Nat) (one two alike : Nat) : Prop where
  ne : one ≠ two
  in_ : one < l.length ∨ two < l.length
  same : ∀ j, j < alike → gt l (one + j) = gt l (two + j)
  bad : ∀ p, p < max one two → p ≠ one → p ≠ two → Bad l p
  b1 : one ≤ 2 * l.length
  b2 : two ≤ 2 * l.length + 1
  b3 : alike ≤ l.length
theorem two_start {l : List Nat} (h : 0 < l.length) : Two l 0 1 0 := by
  refine ⟨by omega, .inl h, fun j hj => by omega, fun p hp h0 h1 => ?_, by omega, by omega, by omega⟩
  have : max 0 1 = 1 := rfl
  omega
theorem two_alike {l : List Nat} {one two alike : Nat} (h : Two l one two alike) (ha : alike < l.length) (e : gt l (one + alike) = gt l (two + alike)) : Two l one two (alike + 1) := by
  refine ⟨h.ne, h.in_, fun j hj => ?_, h.bad, h.b1, h.b2, by omega⟩
  by_cases c : j = alike
  · subst c; exact e
  · exact h.same j (by omega)
theorem bad_run {l : List Nat} {a b alike : Nat} (ha : alike < l.length) (hs : ∀ j, j < alike → gt l (a + j) = gt l (b + j)) (hg : gt l (b + alike) < gt l (a + alike)) {p : Nat} (h1 : a ≤ p) (h2 : p ≤ a + alike) : Bad l p := by
  refine ⟨b + (p - a), rot_lt (k := alike - (p - a)) (by omega) (fun j hj => ?_) ?_⟩
  · have := hs (p - a + j) (by omega)
    rw [show b + (p - a) + j = b + (p - a + j) by omega, show p + j = a + (p - a + j) by omega]
    exact this.symm
  · rw [show b + (p - a) + (alike - (p - a)) = b + alike by omega, show p + (alike - (p - a)) = a + alike by omega]
    exact hg
theorem two_one {l : List Nat} {one two alike : Nat} (h : Two l one two alike) (h1 : one < l.length) (h2 : two < l.length) (ha : alike < l.length) (hg : gt l (two + alike) < gt l (one + alike)) :
    Two l (one + alike + 1) (if one + alike + 1 = two then two + 1 else two) 0 := by
  have run := fun p => bad_run (p := p) ha h.same hg
  have old := h.bad
  by_cases c : one + alike + 1 = two
  · rw [if_pos c]
    refine ⟨by omega, .inl (by omega), fun j hj => by omega, fun p hp n1 n2 => ?_, by omega, by omega, by omega⟩
    by_cases p1 : p < one
    · exact old p (by omega) (by omega) (by omega)
    · exact run p (by omega) (by omega)
  · rw [if_neg c]
    refine ⟨by omega, .inr h2, fun j hj => by omega, fun p hp n1 n2 => ?_, by omega, by omega, by omega⟩
    by_cases p1 : p < one
    · exact old p (by omega) (by omega) (by omega)
    · by_cases p2 : p ≤ one + alike
      · exact run p (by omega) p2
      · exact old p (by omega) (by omega) n2
theorem two_two {l : List Nat} {one two alike : Nat} (h : Two l one two alike) (h1 : one < l.length) (h2 : two < l.length) (ha : alike < l.length) (hg : gt l (one + alike) < gt l (two + alike)) :
    Two l one (if one = two + alike + 1 then two + alike + 1 + 1 else two + alike + 1) 0 := by
  have run := fun p => bad_run (p := p) ha (fun j hj => (h.same j hj).symm) hg
  have old := h.bad
  by_cases c : one = two + alike + 1
  · rw [if_pos c]
    refine ⟨by omega, .inl h1, fun j hj => by omega, fun p hp n1 n2 => ?_, by omega, by omega, by omega⟩
    by_cases p1 : p < two
    · exact old p (by omega) (by omega) (by omega)
    · exact run p (by omega) (by omega)
  · rw [if_neg c]
    refine ⟨by omega, .inl h1, fun j hj => by omega, fun p hp n1 n2 => ?_, by omega, by omega, by omega⟩
    by_cases p1 : p < two
    · exact old p (by omega) (by omega) (by omega)
    · by_cases p2 : p ≤ two + alike
      · exact run p (by omega) p2
      · exact old p (by omega) n1 (by omega)
theorem rot_shift {l : List Nat} {a b : Nat} (h0 : 0 < l.length) (h : rot l a = rot l b) (i : Nat) : rot l (a + i) = rot l (b + i) := by
  unfold rot at *
  refine rd_congr fun j _ => ?_
  have := gt_congr h ((i + j) % l.length) (Nat.mod_lt _ h0)
  unfold gt at *
  rw [Nat.add_mod_mod, Nat.add_mod_mod] at this
  rw [Nat.add_assoc, Nat.add_assoc]
  exact this
theorem two_end {l : List Nat} {one two alike : Nat} (h0 : 0 < l.length) (h : Two l one two alike) (e : ¬ (one < l.length ∧ two < l.length ∧ alike < l.length)) : min one two < l.length ∧ Opt l (min one two) := by
  obtain ⟨p, hp, ho⟩ := opt_ex h0
  have hne := h.ne
  by_cases c1 : one < l.length
  · by_cases c2 : two < l.length
    · have e3 : rot l one = rot l two := rd_congr fun j hj => h.same j (by omega)
      refine ⟨by omega, ?_⟩
      have both : rot l (min one two) = rot l (max one two) := by
        rcases Nat.lt_or_ge one two with z | z
        · rw [Nat.min_eq_left (by omega), Nat.max_eq_right (by omega)]; exact e3
        · rw [Nat.min_eq_right (by omega), Nat.max_eq_left (by omega)]; exact e3.symm
      have lo_opt : ∀ p, Opt l p → Opt l (min one two) := by
        intro p
        induction p using Nat.strongRecOn with
        | _ p ih =>
          intro ho
          by_cases q1 : p = min one two
          · rw [← q1]; exact ho
          by_cases q2 : p = max one two
          · unfold Opt
            rw [both, ← q2]
            exact ho
          by_cases q3 : p < max one two
          · exact (opt_bad ho (h.bad p q3 (by omega) (by omega))).elim
          · have hs := rot_shift h0 both (p - max one two)
            rw [show max one two + (p - max one two) = p by omega] at hs
            refine ih (min one two + (p - max one two)) (by omega) ?_
            unfold Opt
            rw [hs]
            exact ho
      exact lo_opt p ho
    · have ep : p = one := by
        by_cases q : p = one
        · exact q
        · exact (opt_bad ho (h.bad p (by omega) q (by omega))).elim
      rw [Nat.min_eq_left (by omega), ← ep]
      exact ⟨hp, ho⟩
  · have c2 : two < l.length := by rcases h.in_ with z | z <;> omega
    have ep : p = two := by
      by_cases q : p = two
      · exact q
      · exact (opt_bad ho (h.bad p (by omega) (by omega) q)).elim
    rw [Nat.min_eq_right (by omega), ← ep]
    exact ⟨hp, ho⟩
/-! ### the normal -/
def IsLeast (l m : List Nat) : Prop := ∃ p, p < l.length ∧ m = rot l p ∧ Opt l p
theorem least_unique {l a b : List Nat} (h1 : IsLeast l a) (h2 : IsLeast l b) : a = b := by
  obtain ⟨p, _, rfl, ho⟩ := h1
  obtain ⟨q, _, rfl, hq⟩ := h2
  exact List.le_antisymm (List.not_lt.mp (ho q)) (List.not_lt.mp (hq p))
theorem rot_rot (l : List Nat) (b p : Nat) (h0 : 0 < l.length) : rot (rot l b) p = rot l (b + p) := by
  unfold rot
  rw [rd_len]
  exact rd_turned l b p l.length h0
theorem least_rot {l m : List Nat} {b : Nat} (h0 : 0 < l.length) (h : IsLeast (rot l b) m) : IsLeast l m := by
  obtain ⟨p, hp, rfl, ho⟩ := h
  rw [rot_rot _ _ _ h0]
  refine ⟨(b + p) % l.length, Nat.mod_lt _ h0, (rot_mod _ _).symm, fun q hq => ?_⟩
  rw [rot_mod] at hq
  refine ho (q + (l.length - b % l.length)) ?_
  rw [rot_rot _ _ _ h0, rot_rot _ _ _ h0]
  have e : rot l (b + (q + (l.length - b % l.length))) = rot l q := by
    rw [← rot_mod]
    have h1 := Nat.div_add_mod b l.length
    have h2 : b % l.length < l.length := Nat.mod_lt _ h0
    have e : b + (q + (l.length - b % l.length)) = q + l.length * (b / l.length + 1) := by
      rw [Nat.mul_succ]
      omega
    rw [e, Nat.add_mul_mod_self_left, rot_mod]
  rw [e]
  exact hq
/-- one ring is the other one turned exactly if they have one normal -/
theorem alike_iff {l o a b : List Nat} (h0 : 0 < l.length) (h1 : 0 < o.length) (ha : IsLeast l a) (hb : IsLeast o b) : a = b ↔ ∃ p, p < l.length ∧ o = rot l p := by
  constructor
  · rintro rfl
    obtain ⟨p, _, e1, _⟩ := ha
    obtain ⟨q, hq, e2, _⟩ := hb
    have en : o.length = l.length := by
      have e3 := congrArg List.length e1
      have e4 := congrArg List.length e2
      rw [rot_len] at e3 e4
      omega
    have e5 : rot a (o.length - q) = o := by
      rw [e2, rot_rot _ _ _ h1, show q + (o.length - q) = o.length by omega, ← rot_mod, Nat.mod_self]
      exact rd_self o
    rw [e1, rot_rot _ _ _ h0] at e5
    exact ⟨(p + (o.length - q)) % l.length, Nat.mod_lt _ h0, by rw [rot_mod]; exact e5.symm⟩
  · rintro ⟨p, _, rfl⟩
    exact least_unique ha (least_rot h0 hb)
/-! ### the period is the least -/
theorem rot_zero (l : List Nat) : rot l 0 = l := rd_self l
theorem per_cyc {l : List Nat} {d : Nat} (h0 : 0 < l.length) (h : rot l d = l) (q : Nat) : gt l (q + d) = gt l q := by
  have h2 : rot l d = rot l 0 := by rw [h, rot_zero]
  have h3 := rot_shift h0 h2 q
  have := gt_congr h3 0 (by omega)
  rw [Nat.zero_add, Nat.add_comm d q] at this
  exact this
theorem per_mult {l : List Nat} {d : Nat} (h0 : 0 < l.length) (h : rot l d = l) : ∀ (k q : Nat), gt l (q + k * d) = gt l q
  | 0, q => by simp
  | k + 1, q => by
    rw [Nat.succ_mul, ← Nat.add_assoc, per_cyc h0 h]
    exact per_mult h0 h k q
theorem cyc_rot {l : List Nat} {d : Nat} (h : ∀ q, q < l.length → gt l (q + d) = gt l q) : rot l d = l := by
  have e : rd l d l.length = rd l 0 l.length := rd_congr fun j hj => by rw [Nat.zero_add, Nat.add_comm]; exact h j hj
  unfold rot
  rw [e, rd_self]
theorem least_per {l : List Nat} (h0 : 0 < l.length) : ∃ d, 0 < d ∧ d ≤ l.length ∧ rot l d = l ∧ ∀ p, 0 < p → p < d → rot l p ≠ l := by
  have key : ∀ n, 0 < n → rot l n = l → ∃ d, 0 < d ∧ d ≤ n ∧ rot l d = l ∧ ∀ p, 0 < p → p < d → rot l p ≠ l := by
    intro n
    induction n using Nat.strongRecOn with
    | _ n ih =>
      intro hn hr
      by_cases c : ∃ p, 0 < p ∧ p < n ∧ rot l p = l
      · obtain ⟨p, p0, pn, pr⟩ := c
        obtain ⟨d, d0, dn, dr, dm⟩ := ih p pn p0 pr
        exact ⟨d, d0, by omega, dr, dm⟩
      · exact ⟨n, hn, Nat.le_refl _, hr, fun p p0 pn pr => c ⟨p, p0, pn, pr⟩⟩
  exact key l.length h0 (by rw [← rot_mod, Nat.mod_self, rot_zero])
theorem per_divides {l : List Nat} {d : Nat} (h0 : 0 < l.length) (d0 : 0 < d) (hr : rot l d = l) (hm : ∀ p, 0 < p → p < d → rot l p ≠ l) : l.length % d = 0 := by
  by_cases c : l.length % d = 0
  · exact c
  · exfalso
    have hlt : l.length % d < d := Nat.mod_lt _ d0
    refine hm (l.length % d) (by omega) hlt (cyc_rot fun q _ => ?_)
    have e := Nat.div_add_mod l.length d
    have h1 := per_mult h0 hr (l.length / d) (q + l.length % d)
    rw [← h1, show q + l.length % d + l.length / d * d = q + l.length by rw [Nat.mul_comm (l.length / d) d]; omega]
    unfold gt
    rw [Nat.add_mod_right]
theorem gt_lt {l : List Nat} {i : Nat} (h : i < l.length) : gt l i = l.getD i 0 := by
  unfold gt
  rw [Nat.mod_eq_of_lt h]
theorem per_is {l : List Nat} {b d : Nat} (h : IsLB l b) (d0 : 0 < d) (dn : d ≤ l.length) (hr : rot l d = l) (hm : ∀ p, 0 < p → p < d → rot l p ≠ l) : per l b = d := by
  have hb := h.1
  have h0 : 0 < l.length := by omega
  have sd : l.length - b ≤ d := by
    by_cases c : d = l.length
    · omega
    · have e : rd l d l.length = l := hr
      rw [rd_turn l d (by omega)] at e
      have e2 : l.take (l.length - d) = l.drop d := by
        have := congrArg (List.take (l.length - d)) e
        rw [List.take_append_of_le_length (by rw [List.length_drop]; omega), List.take_of_length_le (by rw [List.length_drop]; omega)] at this
        exact this.symm
      have hs : l.take (l.length - d) <:+ l := by
        rw [e2]
        exact List.drop_suffix _ _
      have := h.2.2 (l.length - d) (by omega) hs
      omega
  have back : (∀ q, q < l.length → gt l (q + (l.length - b)) = gt l q) → d ≤ l.length - b := fun hc => by
    by_cases c : d ≤ l.length - b
    · exact c
    · exact absurd (cyc_rot hc) (hm _ (by omega) (by omega))
  have hline := line_period h
  unfold per
  split
  · rename_i c
    have := back fun q hq => by
      unfold gt
      rw [Nat.mod_eq_of_lt hq]
      exact round_period (by omega) (by omega) c hline q hq
    omega
  · rename_i c
    by_cases cd : d = l.length
    · exact cd.symm
    · exfalso
      have dd := per_divides h0 d0 hr hm
      have d2 : d + d ≤ l.length := by
        have e := Nat.div_add_mod l.length d
        rw [dd, Nat.add_zero] at e
        have q2 : 2 ≤ l.length / d := by
          rcases Nat.lt_or_ge (l.length / d) 2 with z | z
          · exfalso
            have : l.length / d = 0 ∨ l.length / d = 1 := by
              generalize l.length / d = x at z ⊢
              omega
            rcases this with z | z <;> rw [z] at e <;> omega
          · exact z
        have := Nat.mul_le_mul_left d q2
        omega
      have hcyc : ∀ q, q < l.length → gt l (q + (l.length - b)) = gt l q := fun q hq => by
        by_cases c1 : q + (l.length - b) < l.length
        · rw [gt_lt c1, gt_lt hq]
          exact hline q c1
        · have e1 : gt l q = gt l (q - d) := by
            have := per_cyc h0 hr (q - d)
            rw [show q - d + d = q by omega] at this
            exact this
          have e2 : gt l (q - d + (l.length - b)) = gt l (q - d) := by
            rw [gt_lt (by omega), gt_lt (by omega)]
            exact hline (q - d) (by omega)
          have e3 := per_cyc h0 hr (q - d + (l.length - b))
          rw [show q - d + (l.length - b) + d = q + (l.length - b) by omega] at e3
          rw [e3, e2, e1]
      have := back hcyc
      have e : d = l.length - b := by omega
      rw [← e] at c
      exact c dd
theorem per_facts {l : List Nat} {b : Nat} (h : IsLB l b) : 0 < per l b ∧ per l b ≤ l.length ∧ rot l (per l b) = l ∧ (∀ p, 0 < p → p < per l b → rot l p ≠ l) ∧ l.length % per l b = 0 := by
  have h0 : 0 < l.length := by have := h.1; omega
  obtain ⟨d, d0, dn, dr, dm⟩ := least_per h0
  rw [per_is h d0 dn dr dm]
  exact ⟨d0, dn, dr, dm, per_divides h0 d0 dr dm⟩
/-- as many unlike turnings as the period -/
theorem rot_per {l : List Nat} {d : Nat} (h0 : 0 < l.length) (_d0 : 0 < d) (h : rot l d = l) (p : Nat) : rot l p = rot l (p % d) := by
  unfold rot
  refine rd_congr fun j _ => ?_
  have e := Nat.div_add_mod p d
  have := per_mult h0 h (p / d) (p % d + j)
  rw [← this, show p % d + j + p / d * d = p + j by rw [Nat.mul_comm (p / d) d]; omega]
theorem rot_unlike {l : List Nat} {d : Nat} (h0 : 0 < l.length) (dn : d ≤ l.length) (hm : ∀ p, 0 < p → p < d → rot l p ≠ l) {p q : Nat} (hp : p < q) (hq : q < d) : rot l p ≠ rot l q := by
  intro e
  have h1 := rot_shift h0 e (l.length - p)
  rw [show p + (l.length - p) = l.length by omega, ← rot_mod, Nat.mod_self, rot_zero, ← rot_mod, show q + (l.length - p) = (q - p) + l.length by omega, Nat.add_mod_right, rot_mod] at h1
  exact hm (q - p) (by omega) (by omega) h1.symm
/-- the root again and again -/
theorem root_again {l : List Nat} {d : Nat} (h0 : 0 < l.length) (h : rot l d = l) : ∀ k, k * d ≤ l.length → (List.replicate k (l.take d)).flatten = l.take (k * d)
  | 0, _ => by simp
  | k + 1, hk => by
    rw [Nat.succ_mul] at hk
    rw [List.replicate_succ', List.flatten_append, root_again h0 h k (by omega), List.flatten_singleton, Nat.succ_mul, List.take_add]
    congr 1
    apply List.ext_getElem?
    intro i
    by_cases hi : i < d
    · rw [List.getElem?_take_of_lt hi, List.getElem?_take_of_lt hi, List.getElem?_drop, getD_lt (by omega), getD_lt (by omega)]
      have := per_mult h0 h k i
      rw [gt_lt (by omega), gt_lt (by omega)] at this
      rw [Nat.add_comm (k * d) i, this]
    · rw [List.getElem?_eq_none (by rw [List.length_take]; omega), List.getElem?_eq_none (by rw [List.length_take, List.length_drop]; omega)]
end My
/-! Detours: behind each turn of a round some road and then the word's inner part are gone; the word doesn't stand any more. -/
namespace My
/-- the heart: a word X of |u| + 2 letters that were read over a detour of r letters from its place h on -/
theorem word_over_road {X : Nat → Nat} {U h r : Nat} {B : Nat → Prop} (h1 : 1 ≤ h) (r1 : 1 ≤ r) (hr : h + r ≤ U + 1)
    (e1 : ∀ y, y < h → X y = X (y + (U + 1 - h))) (e2 : ∀ z, z < r → B (X (h + z))) (e3 : ∀ x, h + r + x ≤ U + 1 → X (h + r + x) = X (1 + x)) : B (X (U + 1)) := by
  refine Classical.byContradiction fun nb => ?_
  have key : ∀ k, (U + (k + 1) * (U + 1 - h)) % (U + r) < U ∧ X ((U + (k + 1) * (U + 1 - h)) % (U + r) + 1) = X (U + 1) := by
    intro k
    induction k with
    | zero =>
      have e : (U + (0 + 1) * (U + 1 - h)) % (U + r) = U + 1 - h - r := by
        rw [show U + (0 + 1) * (U + 1 - h) = (U + 1 - h - r) + (U + r) by omega, Nat.add_mod_right, Nat.mod_eq_of_lt (by omega)]
      rw [e]
      refine ⟨by omega, ?_⟩
      have := e3 (U + 1 - h - r) (by omega)
      rw [show h + r + (U + 1 - h - r) = U + 1 by omega] at this
      rw [this, show 1 + (U + 1 - h - r) = U + 1 - h - r + 1 by omega]
    | succ k ih =>
      obtain ⟨i1, i2⟩ := ih
      have e : (U + (k + 1 + 1) * (U + 1 - h)) % (U + r) = ((U + (k + 1) * (U + 1 - h)) % (U + r) + (U + 1 - h)) % (U + r) := by
        rw [show U + (k + 1 + 1) * (U + 1 - h) = U + (k + 1) * (U + 1 - h) + (U + 1 - h) by rw [Nat.succ_mul (k + 1)]; omega, Nat.mod_add_mod]
      rw [e]
      generalize (U + (k + 1) * (U + 1 - h)) % (U + r) = w at i1 i2
      by_cases c : w + 1 < h
      · rw [Nat.mod_eq_of_lt (by omega)]
        refine ⟨by omega, ?_⟩
        rw [← i2, e1 (w + 1) c, show w + (U + 1 - h) + 1 = w + 1 + (U + 1 - h) by omega]
      · by_cases c2 : w + 1 < h + r
        · refine absurd ?_ nb
          have := e2 (w + 1 - h) (by omega)
          rw [show h + (w + 1 - h) = w + 1 by omega, i2] at this
          exact this
        · have e4 : (w + (U + 1 - h)) % (U + r) = w + 1 - h - r := by
            rw [show w + (U + 1 - h) = (w + 1 - h - r) + (U + r) by omega, Nat.add_mod_right, Nat.mod_eq_of_lt (by omega)]
          rw [e4]
          refine ⟨by omega, ?_⟩
          have := e3 (w + 1 - h - r) (by omega)
          rw [show h + r + (w + 1 - h - r) = w + 1 by omega] at this
          rw [← i2, this, show 1 + (w + 1 - h - r) = w + 1 - h - r + 1 by omega]
  have := (key (U + r - 1)).1
  rw [show U + r - 1 + 1 = U + r by omega, Nat.add_mul_mod_self_left, Nat.mod_eq_of_lt (by omega)] at this
  omega
/-- a round f, what is gone instead (g), where the old ones stand in it (P), and where a detour of road and u is gone -/
structure Gone (f g P : Nat → Nat) (turn : Nat → Prop) (road u : List Nat) (a b : Nat) (X : Nat → Nat) : Prop where
  r0 : 0 < road.length
  xa : X 0 = a
  xu : ∀ k, k < u.length → u[k]? = some (X (1 + k))
  xb : X (u.length + 1) = b
  na : a ∉ road
  nb : b ∉ road
  gp : ∀ i, g (P i) = f i
  gr : ∀ i z x, turn i → road[z]? = some x → g (P i + 1 + z) = x
  gu : ∀ i z x, turn i → u[z]? = some x → g (P i + 1 + road.length + z) = x
  py : ∀ i, turn i → P (i + 1) = P i + 1 + road.length + u.length
  pn : ∀ i, ¬ turn i → P (i + 1) = P i + 1
  tn : ∀ s, (∀ k, k < u.length + 2 → f (s + k) = X k) → turn (s + u.length)
  ty : ∀ s, turn (s + u.length) → ∀ k, k < u.length + 2 → f (s + k) = X k
section
variable {f g P : Nat → Nat} {turn : Nat → Prop} {road u : List Nat} {a b : Nat} {X : Nat → Nat}
/-- an old tie, or one of the inner part gone once more -/
def Old (P : Nat → Nat) (turn : Nat → Prop) (road u : List Nat) (m p : Nat) : Prop := m = P p ∨ ∃ i x, turn i ∧ u.length ≤ i ∧ x < u.length ∧ m = P i + 1 + road.length + x ∧ p + u.length = i + 1 + x
def OnRoad (P : Nat → Nat) (turn : Nat → Prop) (road : List Nat) (m : Nat) : Prop := ∃ i z, turn i ∧ z < road.length ∧ m = P i + 1 + z
theorem Gone.onRoad (h : Gone f g P turn road u a b X) {m : Nat} (o : OnRoad P turn road m) : g m ∈ road := by
  obtain ⟨i, z, t, hz, rfl⟩ := o
  rw [h.gr i z _ t (List.getElem?_eq_getElem hz)]
  exact List.getElem_mem hz
theorem Gone.old (h : Gone f g P turn road u a b X) {m p : Nat} (o : Old P turn road u m p) : g m = f p := by
  rcases o with rfl | ⟨i, x, t, hi, hx, rfl, e⟩
  · exact h.gp p
  · rw [h.gu i x _ t (h.xu x hx)]
    have := h.ty (i - u.length) (by rw [Nat.sub_add_cancel hi]; exact t) (1 + x) (by omega)
    rw [← this]
    exact congrArg f (by omega)
theorem Gone.next (h : Gone f g P turn road u a b X) {m p : Nat} (o : Old P turn road u m p) : Old P turn road u (m + 1) (p + 1) ∨ OnRoad P turn road (m + 1) := by
  rcases o with rfl | ⟨i, x, t, hi, hx, rfl, e⟩
  · by_cases t : turn p
    · exact .inr ⟨p, 0, t, h.r0, rfl⟩
    · exact .inl (.inl (h.pn p t).symm)
  · by_cases c : x + 1 < u.length
    · exact .inl (.inr ⟨i, x + 1, t, hi, c, rfl, by omega⟩)
    · refine .inl (.inl ?_)
      rw [show p + 1 = i + 1 by omega, h.py i t]
      omega
theorem Gone.prev (h : Gone f g P turn road u a b X) {m p : Nat} (hp : u.length ≤ p) (o : Old P turn road u (m + 1) (p + 1)) : Old P turn road u m p ∨ OnRoad P turn road m := by
  rcases o with e | ⟨i, x, t, hi, hx, e1, e⟩
  · by_cases t : turn p
    · rw [h.py p t] at e
      by_cases c : 0 < u.length
      · exact .inl (.inr ⟨p, u.length - 1, t, hp, by omega, by omega, by omega⟩)
      · exact .inr ⟨p, road.length - 1, t, by have := h.r0; omega, by have := h.r0; omega⟩
    · rw [h.pn p t] at e
      exact .inl (.inl (by omega))
  · by_cases c : 0 < x
    · exact .inl (.inr ⟨i, x - 1, t, hi, by omega, by omega, by omega⟩)
    · exact .inr ⟨i, road.length - 1, t, by have := h.r0; omega, by have := h.r0; omega⟩
theorem Gone.at_ (h : Gone f g P turn road u a b X) (hp0 : P 0 = 0) : ∀ m, ∃ i, P i ≤ m ∧ m < P (i + 1)
  | 0 => ⟨0, by omega, by
    by_cases t : turn 0
    · rw [h.py 0 t]; omega
    · rw [h.pn 0 t]; omega⟩
  | m + 1 => by
    obtain ⟨i, h1, h2⟩ := h.at_ hp0 m
    by_cases c : m + 1 < P (i + 1)
    · exact ⟨i, by omega, c⟩
    · refine ⟨i + 1, by omega, ?_⟩
      by_cases t : turn (i + 1)
      · rw [h.py (i + 1) t]; omega
      · rw [h.pn (i + 1) t]; omega
theorem Gone.mono (h : Gone f g P turn road u a b X) (i : Nat) : ∀ k, P i + k ≤ P (i + k)
  | 0 => Nat.le_refl _
  | k + 1 => by
    have := h.mono i k
    by_cases t : turn (i + k)
    · have := h.py (i + k) t; rw [show i + (k + 1) = i + k + 1 by omega]; omega
    · have := h.pn (i + k) t; rw [show i + (k + 1) = i + k + 1 by omega]; omega
theorem Gone.cases (h : Gone f g P turn road u a b X) (hp0 : P 0 = 0) {m : Nat} (hm : P u.length ≤ m) : (∃ p, Old P turn road u m p) ∨ OnRoad P turn road m := by
  obtain ⟨i, h1, h2⟩ := h.at_ hp0 m
  have hi : u.length ≤ i := by
    refine Classical.byContradiction fun z => ?_
    have := h.mono (i + 1) (u.length - (i + 1))
    rw [show i + 1 + (u.length - (i + 1)) = u.length by omega] at this
    omega
  by_cases t : turn i
  · rw [h.py i t] at h2
    by_cases c : m = P i
    · exact .inl ⟨i, .inl c⟩
    · by_cases c2 : m < P i + 1 + road.length
      · exact .inr ⟨i, m - P i - 1, t, by omega, by omega⟩
      · exact .inl ⟨i + 1 + (m - P i - 1 - road.length) - u.length, .inr ⟨i, m - P i - 1 - road.length, t, hi, by omega, by omega, by omega⟩⟩
  · rw [h.pn i t] at h2
    exact .inl ⟨i, .inl (by omega)⟩
theorem least_with {p : Nat → Prop} (n : Nat) (hn : p n) : ∃ k, p k ∧ ∀ j, j < k → ¬ p j := by
  induction n using Nat.strongRecOn with
  | ind n ih =>
    by_cases c : ∃ j, j < n ∧ p j
    · obtain ⟨j, hj, hp⟩ := c
      exact ih j hj hp
    · exact ⟨n, hn, fun j hj hp => c ⟨j, hj, hp⟩⟩
theorem Gone.lacks (h : Gone f g P turn road u a b X) (hp0 : P 0 = 0) {m : Nat} (hm : P (u.length + u.length + 2) ≤ m) : ¬ ∀ k, k < u.length + 2 → g (m + k) = X k := by
  intro hX
  have hmu : P u.length ≤ m := by
    have := h.mono u.length (u.length + 2)
    rw [show u.length + (u.length + 2) = u.length + u.length + 2 by omega] at this
    omega
  have r0 := h.r0
  by_cases c : ∃ k, k < u.length + 2 ∧ OnRoad P turn road (m + k)
  · obtain ⟨n, hn⟩ := c
    obtain ⟨h', ⟨hk, i, z, t, hz, e⟩, hmin0⟩ := least_with (p := fun k => k < u.length + 2 ∧ OnRoad P turn road (m + k)) n hn
    have hmin : ∀ j, j < h' → ¬ OnRoad P turn road (m + j) := fun j hj o => hmin0 j hj ⟨by omega, o⟩
    have hroad : ∀ y, y < road.length → g (P i + 1 + y) ∈ road := fun y hy => h.onRoad ⟨i, y, t, hy, rfl⟩
    have h1 : 1 ≤ h' := by
      refine Classical.byContradiction fun q => ?_
      have := hroad z hz
      rw [← e, show h' = 0 by omega, hX 0 (by omega), h.xa] at this
      exact h.na this
    have hz0 : z = 0 := by
      refine Classical.byContradiction fun q => ?_
      exact hmin (h' - 1) (by omega) ⟨i, z - 1, t, by omega, by omega⟩
    subst hz0
    have hmi : u.length + u.length + 2 ≤ i := by
      refine Classical.byContradiction fun q => ?_
      have := h.mono i (u.length + u.length + 2 - i)
      rw [show i + (u.length + u.length + 2 - i) = u.length + u.length + 2 by omega] at this
      omega
    have h2 : h' ≤ u.length := by
      refine Classical.byContradiction fun q => ?_
      have := hroad 0 hz
      rw [← e, show h' = u.length + 1 by omega, hX _ (by omega), h.xb] at this
      exact h.nb this
    have back : ∀ y, y < h' → Old P turn road u (m + h' - 1 - y) (i - y) := by
      intro y
      induction y with
      | zero => exact fun _ => .inl (by simp only [Nat.sub_zero]; omega)
      | succ y ih =>
        intro hy
        have o := ih (by omega)
        rw [show m + h' - 1 - y = m + h' - 1 - (y + 1) + 1 by omega, show i - y = i - (y + 1) + 1 by omega] at o
        rcases h.prev (by omega) o with q | q
        · exact q
        · rw [show m + h' - 1 - (y + 1) = m + (h' - 1 - (y + 1)) by omega] at q
          exact absurd q (hmin _ (by omega))
    have hty := h.ty (i - u.length) (by rw [Nat.sub_add_cancel (by omega)]; exact t)
    have hr : h' + road.length ≤ u.length + 1 := by
      refine Classical.byContradiction fun q => ?_
      have := hroad (u.length + 1 - h') (by omega)
      rw [show P i + 1 + (u.length + 1 - h') = m + (u.length + 1) by omega, hX _ (by omega), h.xb] at this
      exact h.nb this
    have := word_over_road (X := X) (U := u.length) (h := h') (r := road.length) (B := fun x => x ∈ road) h1 r0 hr ?_ ?_ ?_
    · rw [h.xb] at this
      exact h.nb this
    · intro y hy
      have o := h.old (back (h' - 1 - y) (by omega))
      rw [show m + h' - 1 - (h' - 1 - y) = m + y by omega, hX y (by omega)] at o
      rw [o, ← hty (y + (u.length + 1 - h')) (by omega)]
      exact congrArg f (by omega)
    · intro y hy
      have := hroad y hy
      rw [show P i + 1 + y = m + (h' + y) by omega, hX _ (by omega)] at this
      exact this
    · intro x hx
      rw [← hX _ (by omega), show m + (h' + road.length + x) = P i + 1 + road.length + x by omega]
      exact h.gu i x _ t (h.xu x (by omega))
  · have noRoad : ∀ k, k < u.length + 2 → ¬ OnRoad P turn road (m + k) := fun k hk o => c ⟨k, hk, o⟩
    rcases h.cases hp0 hmu with ⟨p, o⟩ | o
    · have step : ∀ k, k < u.length + 2 → Old P turn road u (m + k) (p + k) := by
        intro k
        induction k with
        | zero => exact fun _ => o
        | succ k ih =>
          intro hk
          rcases h.next (ih (by omega)) with q | q
          · exact q
          · exact absurd q (noRoad (k + 1) hk)
      have t : turn (p + u.length) := h.tn p fun k hk => by rw [← h.old (step k hk), hX k hk]
      rcases step u.length (by omega) with e | ⟨i, x, ti, hi, hx, e, e2⟩
      · exact noRoad (u.length + 1) (by omega) ⟨p + u.length, 0, t, r0, by omega⟩
      · exact noRoad (u.length - 1 - x) (by omega) ⟨i, road.length - 1, ti, by omega, by omega⟩
    · exact noRoad 0 (by omega) o
theorem Gone.on (h : Gone f g P turn road u a b X) (hp0 : P 0 = 0) {R : Nat → Nat → Prop} (hf : ∀ i, R (f i) (f (i + 1))) (hx : ∀ k, k < u.length + 1 → R (X k) (X (k + 1)))
    (hb : ∀ x, road[0]? = some x → R (X u.length) x) (hr : ∀ z x y, road[z]? = some x → road[z + 1]? = some y → R x y) (he : ∀ x, road[road.length - 1]? = some x → R x (X 1)) {m : Nat} (hm : P u.length ≤ m) : R (g m) (g (m + 1)) := by
  obtain ⟨i, h1, h2⟩ := h.at_ hp0 m
  have r0 := h.r0
  have hi : u.length ≤ i := by
    refine Classical.byContradiction fun z => ?_
    have := h.mono (i + 1) (u.length - (i + 1))
    rw [show i + 1 + (u.length - (i + 1)) = u.length by omega] at this
    omega
  by_cases t : turn i
  · have hty := h.ty (i - u.length) (by rw [Nat.sub_add_cancel hi]; exact t)
    rw [h.py i t] at h2
    -- what comes at each place behind P i
    have g1 : ∀ z, (hz : z < road.length) → g (P i + 1 + z) = road[z] := fun z hz => h.gr i z _ t (List.getElem?_eq_getElem hz)
    have g2 : ∀ x, x < u.length + 1 → g (P i + 1 + road.length + x) = X (1 + x) := fun x hx' => by
      by_cases c : x < u.length
      · exact h.gu i x _ t (h.xu x c)
      · have hl : x = u.length := by omega
        subst hl
        rw [← h.py i t, h.gp, show 1 + u.length = u.length + 1 by omega, ← hty (u.length + 1) (by omega)]
        exact congrArg f (by omega)
    by_cases c0 : m = P i
    · rw [c0, h.gp, g1 0 r0]
      have := hb _ (List.getElem?_eq_getElem r0)
      rw [← hty u.length (by omega), show i - u.length + u.length = i by omega] at this
      exact this
    · by_cases c1 : m + 1 < P i + 1 + road.length
      · have e1 := g1 (m - P i - 1) (by omega)
        have e2 := g1 (m - P i - 1 + 1) (by omega)
        rw [show P i + 1 + (m - P i - 1) = m by omega] at e1
        rw [show P i + 1 + (m - P i - 1 + 1) = m + 1 by omega] at e2
        rw [e1, e2]
        exact hr _ _ _ (List.getElem?_eq_getElem (by omega)) (List.getElem?_eq_getElem (by omega))
      · by_cases c2 : m + 1 = P i + 1 + road.length
        · have e1 := g1 (road.length - 1) (by omega)
          have e2 := g2 0 (by omega)
          rw [show P i + 1 + (road.length - 1) = m by omega] at e1
          rw [show P i + 1 + road.length + 0 = m + 1 by omega] at e2
          rw [e1, e2]
          exact he _ (List.getElem?_eq_getElem (by omega))
        · have e1 := g2 (m - P i - 1 - road.length) (by omega)
          have e2 := g2 (m - P i - 1 - road.length + 1) (by omega)
          rw [show P i + 1 + road.length + (m - P i - 1 - road.length) = m by omega] at e1
          rw [show P i + 1 + road.length + (m - P i - 1 - road.length + 1) = m + 1 by omega] at e2
          rw [e1, e2]
          exact hx _ (by omega)
  · have h3 := h.pn i t
    rw [h3] at h2
    have e : m = P i := by omega
    rw [e, ← h3, h.gp, h.gp]
    exact hf i
end
/-! ### as lists -/
/-- a round's first ties, the detours among them -/
def dt (T tl ins : List Nat) : Nat → List Nat
  | 0 => []
  | i + 1 => dt T tl ins i ++ T.getD i 0 :: (if i ∈ tl then ins else [])
theorem dt_split (T tl ins : List Nat) (j : Nat) : ∀ k, ∃ rest, dt T tl ins (j + 1 + k) = dt T tl ins j ++ T.getD j 0 :: ((if j ∈ tl then ins else []) ++ rest)
  | 0 => ⟨[], by rw [List.append_nil]; rfl⟩
  | k + 1 => by
    obtain ⟨rest, e⟩ := dt_split T tl ins j k
    refine ⟨rest ++ T.getD (j + 1 + k) 0 :: (if j + 1 + k ∈ tl then ins else []), ?_⟩
    show dt T tl ins (j + 1 + k) ++ _ = _
    rw [e]
    simp
theorem dt_len (T tl ins : List Nat) (j : Nat) : (dt T tl ins (j + 1)).length = (dt T tl ins j).length + 1 + (if j ∈ tl then ins.length else 0) := by
  show (dt T tl ins j ++ _ :: _).length = _
  rw [List.length_append, List.length_cons]
  by_cases c : j ∈ tl
  · rw [if_pos c, if_pos c]; omega
  · rw [if_neg c, if_neg c]; rfl
theorem mod_cancel {n k : Nat} (h0 : 0 < n) {s s' : Nat} (h : (s + k) % n = (s' + k) % n) : s % n = s' % n := by
  have key : ∀ s, ((s + k) % n + (n - k % n)) % n = s % n := fun s => by
    rw [Nat.mod_add_mod, show s + k + (n - k % n) = s + n * (k / n + 1) by
      have := Nat.div_add_mod k n
      have := Nat.mod_lt k h0
      rw [Nat.mul_add]
      omega, Nat.add_mul_mod_self_left]
  rw [← key s, ← key s', h]
theorem dt_mem {T tl ins : List Nat} {x : Nat} : ∀ {k : Nat}, k ≤ T.length → x ∈ dt T tl ins k → x ∈ T ∨ x ∈ ins
  | 0, _, h => by cases h
  | k + 1, hk, h => by
    rcases List.mem_append.mp h with h | h
    · exact dt_mem (by omega) h
    · rcases List.mem_cons.mp h with h | h
      · rw [h, List.getD_eq_getElem?_getD, List.getElem?_eq_getElem (by omega)]
        exact .inl (List.getElem_mem _)
      · split at h
        · exact .inr h
        · cases h
theorem dt_has {T tl ins : List Nat} {x : Nat} (h : x ∈ T) : x ∈ dt T tl ins T.length := by
  obtain ⟨j, hj⟩ := List.getElem?_of_mem h
  have hl := (List.getElem?_eq_some_iff.mp hj).1
  obtain ⟨rest, e⟩ := dt_split T tl ins j (T.length - (j + 1))
  rw [show j + 1 + (T.length - (j + 1)) = T.length by omega] at e
  rw [e, List.getD_eq_getElem?_getD, hj]
  exact List.mem_append_right _ List.mem_cons_self
def pt (T tl ins : List Nat) (i : Nat) : Nat := (i / T.length) * (dt T tl ins T.length).length + (dt T tl ins (i % T.length)).length
section
variable {T tl ins : List Nat}
theorem dt_at (h0 : 0 < T.length) {i z x : Nat} (h : (T.getD (i % T.length) 0 :: (if i % T.length ∈ tl then ins else []))[z]? = some x) : gt (dt T tl ins T.length) (pt T tl ins i + z) = x := by
  have hj := Nat.mod_lt i h0
  obtain ⟨rest, e⟩ := dt_split T tl ins (i % T.length) (T.length - (i % T.length + 1))
  rw [show i % T.length + 1 + (T.length - (i % T.length + 1)) = T.length by omega] at e
  have hz := (List.getElem?_eq_some_iff.mp h).1
  have hL : (dt T tl ins (i % T.length)).length + z < (dt T tl ins T.length).length := by
    rw [e, List.length_append, List.length_cons, List.length_append]
    rw [List.length_cons] at hz
    omega
  unfold gt pt
  rw [Nat.add_assoc, Nat.mul_comm, Nat.mul_add_mod, Nat.mod_eq_of_lt hL, List.getD_eq_getElem?_getD]
  have e2 : (dt T tl ins T.length)[(dt T tl ins (i % T.length)).length + z]? = some x := by
    rw [e, List.getElem?_append_right (by omega), Nat.add_sub_cancel_left, ← List.cons_append, List.getElem?_append_left hz, h]
  rw [e2]
  rfl
theorem pt_succ (h0 : 0 < T.length) (i : Nat) : pt T tl ins (i + 1) = pt T tl ins i + 1 + (if i % T.length ∈ tl then ins.length else 0) := by
  have hj := Nat.mod_lt i h0
  have hd := dt_len T tl ins (i % T.length)
  have hdm := Nat.div_add_mod i T.length
  by_cases c : i % T.length + 1 < T.length
  · have e1 : (i + 1) / T.length = i / T.length := by
      rw [Nat.div_eq_iff (by omega)]
      have : T.length * (i / T.length) = i / T.length * T.length := Nat.mul_comm _ _
      omega
    have e2 : (i + 1) % T.length = i % T.length + 1 := by
      rw [Nat.add_mod, Nat.mod_eq_of_lt (a := 1) (by omega), Nat.mod_eq_of_lt c]
    unfold pt
    rw [e1, e2, hd]
    omega
  · have e0 : i % T.length + 1 = T.length := by omega
    have e3 : i + 1 = T.length * (i / T.length + 1) := by rw [Nat.mul_add]; omega
    have e1 : (i + 1) / T.length = i / T.length + 1 := by rw [e3, Nat.mul_div_cancel_left _ h0]
    have e2 : (i + 1) % T.length = 0 := by rw [e3, Nat.mul_mod_right]
    unfold pt
    rw [e1, e2]
    show (i / T.length + 1) * (dt T tl ins T.length).length + 0 = _
    rw [e0] at hd
    rw [Nat.add_mul, hd]
    omega
theorem gt_add (l : List Nat) (i k : Nat) : gt l (i + l.length * k) = gt l i := by
  unfold gt
  rw [Nat.add_mul_mod_self_left]
theorem gt_getD {l : List Nat} {i : Nat} (h : i < l.length) : gt l i = l.getD i 0 := by
  unfold gt
  rw [Nat.mod_eq_of_lt h]
/-- a word W = a u b, its begins in the round, the places where the detours are gone -/
theorem gone_is {road u : List Nat} {a b : Nat} (h0 : 0 < T.length) (r0 : 0 < road.length) (na : a ∉ road) (nb : b ∉ road) (hins : ins = road ++ u)
    (htl : ∀ x, x ∈ tl ↔ ∃ s, s ∈ due T (a :: (u ++ [b])) ∧ x = (s + u.length) % T.length) :
    Gone (gt T) (gt (dt T tl ins T.length)) (pt T tl ins) (fun i => i % T.length ∈ tl) road u a b (fun k => (a :: (u ++ [b])).getD k 0) := by
  have hwl : (a :: (u ++ [b])).length = u.length + 2 := by simp
  have read : ∀ s, (rd T s (u.length + 2) = a :: (u ++ [b])) ↔ ∀ k, k < u.length + 2 → gt T (s + k) = (a :: (u ++ [b])).getD k 0 := fun s => by
    constructor
    · intro h k hk
      have := rd_get T s (u.length + 2) k hk
      rw [h] at this
      rw [List.getD_eq_getElem?_getD, this]
      rfl
    · intro h
      apply List.ext_getElem?
      intro k
      by_cases hk : k < u.length + 2
      · rw [rd_get _ _ _ _ hk]
        have := h k hk
        rw [List.getD_eq_getElem?_getD, List.getElem?_eq_getElem (by omega)] at this
        rw [List.getElem?_eq_getElem (by omega)]
        exact congrArg some this
      · rw [List.getElem?_eq_none (by rw [rd_len]; omega), List.getElem?_eq_none (by omega)]
  have per : ∀ s, rd T (s % T.length) (u.length + 2) = rd T s (u.length + 2) := fun s => rd_mod T s _
  refine ⟨r0, rfl, fun k hk => ?_, ?_, na, nb, fun i => ?_, fun i z x t hz => ?_, fun i z x t hz => ?_, fun i t => ?_, fun i t => ?_, fun s h => ?_, fun s t => ?_⟩
  · rw [Nat.add_comm, List.getD_cons_succ, List.getD_eq_getElem?_getD, List.getElem?_append_left hk, List.getElem?_eq_getElem hk]
    rfl
  · show (u ++ [b]).getD u.length 0 = b
    rw [List.getD_eq_getElem?_getD, List.getElem?_append_right (Nat.le_refl _), Nat.sub_self]
    rfl
  · exact dt_at h0 (z := 0) rfl
  · rw [Nat.add_assoc]
    refine dt_at h0 ?_
    rw [if_pos t, Nat.add_comm 1 z, List.getElem?_cons_succ, hins, List.getElem?_append_left (List.getElem?_eq_some_iff.mp hz).1, hz]
  · rw [Nat.add_assoc, Nat.add_assoc]
    refine dt_at h0 ?_
    rw [if_pos t, Nat.add_comm 1, List.getElem?_cons_succ, hins, List.getElem?_append_right (by omega), Nat.add_sub_cancel_left, hz]
  · rw [pt_succ h0, if_pos t, hins, List.length_append]
    omega
  · rw [pt_succ h0, if_neg t]
  · refine (htl _).mpr ⟨s % T.length, mem_due.mpr ⟨Nat.mod_lt _ h0, ?_⟩, ?_⟩
    · rw [hwl, per]
      exact (read s).mpr h
    · rw [Nat.mod_add_mod]
  · obtain ⟨s', hs, e⟩ := (htl _).mp t
    obtain ⟨h1, h2⟩ := mem_due.mp hs
    rw [hwl] at h2
    have e2 : s % T.length = s' % T.length := by
      have h3 : (s + u.length) % T.length = (s' + u.length) % T.length := e
      exact mod_cancel h0 h3
    refine (read s).mp ?_
    rw [← per, e2, per]
    exact h2
end
end My
namespace My
open PySem L2 PyProof.Rows
theorem win_is {W : List Nat} {i j a b : Nat} (h1 : 1 ≤ i) (h2 : i ≤ j) (ha : W[i - 1]? = some a) (hb : W[j]? = some b) : (W.drop (i - 1)).take (j + 2 - i) = a :: ((W.drop i).take (j - i) ++ [b]) := by
  have hj := (List.getElem?_eq_some_iff.mp hb).1
  have hul : ((W.drop i).take (j - i)).length = j - i := by rw [List.length_take, List.length_drop]; omega
  apply List.ext_getElem?
  intro k
  by_cases c0 : k = 0
  · subst c0
    rw [List.getElem?_take, if_pos (by omega), List.getElem?_drop, Nat.add_zero, ha]
    rfl
  · obtain ⟨k', rfl⟩ : ∃ k', k = k' + 1 := ⟨k - 1, by omega⟩
    rw [List.getElem?_cons_succ]
    by_cases c1 : k' < j - i
    · rw [List.getElem?_append_left (by omega), List.getElem?_take, if_pos (by omega), List.getElem?_drop, List.getElem?_take, if_pos c1, List.getElem?_drop, show i - 1 + (k' + 1) = i + k' by omega]
    · rw [List.getElem?_append_right (by omega), hul]
      by_cases c2 : k' = j - i
      · subst c2
        rw [List.getElem?_take, if_pos (by omega), List.getElem?_drop, show i - 1 + (j - i + 1) = j by omega, hb, Nat.sub_self]
        rfl
      · rw [List.getElem?_take, if_neg (by omega), List.getElem?_eq_none (by show 1 ≤ _; omega)]
def OnT (ts : List (Nat × Nat)) (x y : Nat) : Prop := ∃ e f, ts[x]? = some e ∧ ts[y]? = some f ∧ f.1 = e.2
theorem gt_of {l : List Nat} {i x : Nat} (h : l[i]? = some x) : gt l i = x := by
  rw [gt_getD (List.getElem?_eq_some_iff.mp h).1, List.getD_eq_getElem?_getD, h]
  rfl
theorem gt_at {l : List Nat} {i : Nat} (h : i < l.length) : l[i]? = some (gt l i) := by
  rw [List.getElem?_eq_getElem h, gt_of (List.getElem?_eq_getElem h)]
theorem gt_turn (l : List Nat) (i : Nat) : gt l (i % l.length) = gt l i := by
  unfold gt
  rw [Nat.mod_mod]
theorem gt_memb {l : List Nat} (h0 : 0 < l.length) (i : Nat) : gt l i ∈ l := by
  rw [← gt_turn]
  exact List.mem_of_getElem? (gt_at (Nat.mod_lt i h0))
theorem round_on {ts : List (Nat × Nat)} {T : List Nat} (hc : Chain ts T) (hb : BackAt ts T) (i : Nat) : OnT ts (gt T i) (gt T (i + 1)) := by
  have h0 := hc.n0
  have hj := Nat.mod_lt i h0
  have e1 : gt T i = gt T (i % T.length) := (gt_turn T i).symm
  have e2 : gt T (i + 1) = gt T (i % T.length + 1) := by
    unfold gt
    rw [Nat.mod_add_mod]
  rw [e1, e2]
  by_cases c : i % T.length + 1 < T.length
  · obtain ⟨x, y, e, f, r1, r2, r3, r4, r5⟩ := hc.on _ c
    rw [gt_of r1, gt_of r2]
    exact ⟨e, f, r3, r4, r5⟩
  · obtain ⟨x, y, e, f, r1, r2, r3, r4, r5⟩ := hb
    rw [show i % T.length = T.length - 1 by omega, gt_of r2]
    have : gt T (T.length - 1 + 1) = gt T 0 := by
      unfold gt
      rw [Nat.sub_add_cancel h0, Nat.mod_self, Nat.zero_mod]
    rw [this, gt_of r1]
    exact ⟨f, e, r4, r3, r5⟩
theorem on_round {ts : List (Nat × Nat)} {T : List Nat} (h0 : 0 < T.length) (hm : ∀ x ∈ T, x < ts.length) (h : ∀ i, OnT ts (gt T i) (gt T (i + 1))) : Chain ts T ∧ BackAt ts T := by
  refine ⟨⟨h0, hm, fun i hi => ?_⟩, ?_⟩
  · obtain ⟨e, f, r3, r4, r5⟩ := h i
    exact ⟨_, _, e, f, gt_at (by omega), gt_at hi, r3, r4, r5⟩
  · obtain ⟨e, f, r3, r4, r5⟩ := h (T.length - 1)
    have : gt T (T.length - 1 + 1) = gt T 0 := by
      unfold gt
      rw [Nat.sub_add_cancel h0, Nat.mod_self, Nat.zero_mod]
    rw [this] at r4
    exact ⟨_, _, f, e, gt_at h0, gt_at (by omega), r4, r3, r5⟩
theorem due_far {g : Nat → Nat} {L K m : Nat} (per : ∀ i k, g (i + L * k) = g i) : g (m + L * K) = g m := per m K
/-- the round with the detours -/
theorem detour_round {ts : List (Nat × Nat)} {W T road tl : List Nat} {i j a b : Nat} (hW : Chain ts W) (hr : RoadAt ts W i j road) (hT : Chain ts T) (hB : BackAt ts T) (hcov : ∀ x, x < ts.length → x ∈ T)
    (ha : W[i - 1]? = some a) (hb : W[j]? = some b) (htl : ∀ x, x ∈ tl ↔ ∃ s, s ∈ due T (a :: ((W.drop i).take (j - i) ++ [b])) ∧ x = (s + (j - i)) % T.length) :
    Chain ts (dt T tl (road ++ (W.drop i).take (j - i)) T.length) ∧ BackAt ts (dt T tl (road ++ (W.drop i).take (j - i)) T.length) ∧ (∀ x, x < ts.length → x ∈ dt T tl (road ++ (W.drop i).take (j - i)) T.length) ∧
    ∀ s, ∃ k, k < W.length ∧ some (gt (dt T tl (road ++ (W.drop i).take (j - i)) T.length) (s + k)) ≠ W[k]? := by
  have h1 := hr.i1
  have h2 := hr.ij
  have h3 := hr.jl
  have h0 := hT.n0
  have r0 := hr.ch.n0
  generalize eu : (W.drop i).take (j - i) = u at htl
  have hul : u.length = j - i := by rw [← eu, List.length_take, List.length_drop]; omega
  rw [← hul] at htl
  have G := gone_is (T := T) (tl := tl) (ins := road ++ u) (road := road) (u := u) (a := a) (b := b) h0 r0 (hr.ni a ha) (hr.nj b hb) rfl htl
  generalize eL : dt T tl (road ++ u) T.length = L at G
  have hp0 : pt T tl (road ++ u) 0 = 0 := by
    unfold pt
    rw [Nat.zero_div, Nat.zero_mod, Nat.zero_mul]
    rfl
  -- the word's letters
  have hX : ∀ k, k < u.length + 2 → W[i - 1 + k]? = some ((a :: (u ++ [b])).getD k 0) := fun k hk => by
    have := win_is h1 h2 ha hb
    rw [eu] at this
    rw [← this, List.getD_eq_getElem?_getD, List.getElem?_take, if_pos (by omega), List.getElem?_drop, List.getElem?_eq_getElem (by omega)]
    rfl
  have hXon : ∀ k, k < u.length + 1 → OnT ts ((a :: (u ++ [b])).getD k 0) ((a :: (u ++ [b])).getD (k + 1) 0) := fun k hk => by
    obtain ⟨x, y, e, f, s1, s2, s3, s4, s5⟩ := hW.on (i - 1 + k) (by omega)
    have e1 := hX k (by omega)
    have e2 := hX (k + 1) (by omega)
    rw [s1] at e1
    rw [Nat.add_assoc] at s2
    rw [s2] at e2
    rw [← Option.some.inj e1, ← Option.some.inj e2]
    exact ⟨e, f, s3, s4, s5⟩
  obtain ⟨x0, y0, wj, wi, e0, f0, gj, gi, s1, s2, s3, s4, s5, s6, s7, s8, s9, s10⟩ := hr.ends
  rw [hb] at s3
  cases s3
  rw [ha] at s4
  cases s4
  have hLm : ∀ x ∈ L, x < ts.length := fun x hx => by
    rw [← eL] at hx
    rcases dt_mem (Nat.le_refl _) hx with h | h
    · exact hT.num x h
    · rcases List.mem_append.mp h with h | h
      · exact hr.ch.num x h
      · rw [← eu] at h
        exact hW.num x (List.mem_of_mem_drop (List.mem_of_mem_take h))
  have hLc : ∀ x, x < ts.length → x ∈ L := fun x hx => by rw [← eL]; exact dt_has (hcov x hx)
  have hL0 : 0 < L.length := List.length_pos_of_mem (hLc _ (hT.num _ (gt_memb h0 0)))
  have hon : ∀ m, OnT ts (gt L m) (gt L (m + 1)) := fun m => by
    have key : ∀ m, pt T tl (road ++ u) u.length ≤ m → OnT ts (gt L m) (gt L (m + 1)) := fun m hm => by
      refine G.on hp0 (R := OnT ts) (fun i => round_on hT hB i) hXon (fun x hx => ?_) (fun z x y hx hy => ?_) (fun x hx => ?_) hm
      · rw [s1] at hx
        cases hx
        obtain ⟨e, f, q1, q2, q3⟩ := hXon u.length (by omega)
        have ex : (a :: (u ++ [b])).getD (u.length + 1) 0 = b := G.xb
        rw [ex, s7] at q2
        cases q2
        exact ⟨e, e0, q1, s5, by rw [s9]; exact q3⟩
      · obtain ⟨x', y', e, f, q1, q2, q3, q4, q5⟩ := hr.ch.on z (List.getElem?_eq_some_iff.mp hy).1
        rw [q1] at hx
        rw [q2] at hy
        cases hx
        cases hy
        exact ⟨e, f, q3, q4, q5⟩
      · rw [s2] at hx
        cases hx
        obtain ⟨e, f, q1, q2, q3⟩ := hXon 0 (by omega)
        have ex : (a :: (u ++ [b])).getD 0 0 = a := rfl
        rw [ex, s8] at q1
        cases q1
        exact ⟨f0, f, s6, q2, by rw [s10]; exact q3⟩
    have := key (m + L.length * pt T tl (road ++ u) u.length) (by
      have : 1 * pt T tl (road ++ u) u.length ≤ L.length * pt T tl (road ++ u) u.length := Nat.mul_le_mul_right _ hL0
      omega)
    rw [gt_add, show m + L.length * pt T tl (road ++ u) u.length + 1 = m + 1 + L.length * pt T tl (road ++ u) u.length by omega, gt_add] at this
    exact this
  obtain ⟨c1, c2⟩ := on_round hL0 hLm hon
  refine ⟨c1, c2, hLc, fun s => Classical.byContradiction fun z => ?_⟩
  have hz : ∀ k, k < W.length → some (gt L (s + k)) = W[k]? := fun k hk => Classical.byContradiction fun q => z ⟨k, hk, q⟩
  refine G.lacks hp0 (m := s + (i - 1) + L.length * pt T tl (road ++ u) (u.length + u.length + 2)) ?_ fun k hk => ?_
  · have : 1 * pt T tl (road ++ u) (u.length + u.length + 2) ≤ L.length * pt T tl (road ++ u) (u.length + u.length + 2) := Nat.mul_le_mul_right _ hL0
    omega
  · rw [show s + (i - 1) + L.length * pt T tl (road ++ u) (u.length + u.length + 2) + k = s + (i - 1 + k) + L.length * pt T tl (road ++ u) (u.length + u.length + 2) by omega, gt_add]
    have := hz (i - 1 + k) (by omega)
    rw [hX k hk] at this
    exact Option.some.inj this
end My
namespace My
open PySem L2 PyProof.Rows
theorem len_sub {α : Type} [DecidableEq α] : ∀ {A B : List α}, A.Nodup → (∀ x ∈ A, x ∈ B) → A.length ≤ B.length
  | [], _, _, _ => Nat.zero_le _
  | a :: r, B, hn, h => by
    obtain ⟨h1, h2⟩ := List.nodup_cons.mp hn
    have ha := h a List.mem_cons_self
    have := len_sub (B := B.erase a) h2 fun x hx => (List.mem_erase_of_ne (fun z => h1 (by rw [← z]; exact hx))).mpr (h x (List.mem_cons_of_mem _ hx))
    rw [List.length_erase_of_mem ha] at this
    have := List.length_pos_of_mem ha
    rw [List.length_cons]
    omega
theorem parts_one {E : Nat → Nat → Prop} {N : Nat} (h0 : 0 < N) : (partsL E N).length = 1 ↔ ∀ b, b < N → ∀ x, x < N → Rch E b x := by
  unfold partsL
  rw [List.length_map]
  constructor
  · intro h b hb x hx
    obtain ⟨p, hp⟩ := List.length_eq_one_iff.mp h
    obtain ⟨p1, m1, e1⟩ := head_of (E := E) hb
    obtain ⟨p2, m2, e2⟩ := head_of (E := E) hx
    rw [hp] at m1 m2
    rw [List.mem_singleton.mp m1] at e1
    rw [List.mem_singleton.mp m2] at e2
    exact rch_trans e1.1 e2.2
  · intro h
    have z0 : 0 ∈ headsL E N := headsL_mem.mpr ⟨h0, fun x hx => absurd hx (Nat.not_lt_zero x)⟩
    have all : ∀ p ∈ headsL E N, p ∈ [0] := fun p hp => by
      obtain ⟨p1, p2⟩ := headsL_mem.mp hp
      cases p with
      | zero => exact List.mem_singleton.mpr rfl
      | succ p => exact absurd ⟨h _ p1 0 h0, h 0 h0 _ p1⟩ (p2 0 (Nat.succ_pos p))
    have l1 := len_sub (headsL_rising.imp (fun {a b} (z : a < b) (e : a = b) => by omega)) all
    have l2 := List.length_pos_of_mem z0
    rw [List.length_singleton] at l1
    omega
/-- a ring through all places -/
def Ringed (N : Nat) (ts : List (Nat × Nat)) : Prop := ∀ p, p < N → (p, (p + 1) % N) ∈ ts
theorem ringed_rch {N : Nat} {ts : List (Nat × Nat)} (h : Ringed N ts) {b : Nat} (hb : b < N) : ∀ k, Rch (Ed ts) b ((b + k) % N)
  | 0 => by
    rw [Nat.add_zero, Nat.mod_eq_of_lt hb]
    exact rch_refl _
  | k + 1 => by
    have h1 := ringed_rch h hb k
    have h2 := h ((b + k) % N) (Nat.mod_lt _ (by omega))
    rw [Nat.mod_add_mod] at h2
    obtain ⟨j, hj⟩ := List.getElem?_of_mem h2
    exact rch_trans h1 (rch_one ⟨j, hj, by simp⟩)
theorem ringed_closed {N : Nat} {ts : List (Nat × Nat)} (h0 : 0 < N) (h : Ringed N ts) : closedB N ts = true := by
  have ht : 0 < ts.length := List.length_pos_of_mem (h 0 h0)
  unfold closedB
  rw [decide_eq_true ht, decide_eq_true ((parts_one h0).mpr fun b hb x hx => ?_)]
  · rfl
  · have := ringed_rch h hb (N - b + x)
    rw [show b + (N - b + x) = x + N by omega, Nat.add_mod_right, Nat.mod_eq_of_lt hx] at this
    exact this
section
variable {P : Program} {w : World} {K : PySem.W.Frag} {mg : Str → Option Value} {base : Heap} {C : Addr}
def sp_law_pot (K : PySem.W.Frag) (_ : Addr) : Sp := fun vs H Q _ => ∃ a, ∃ ns : List Int, vs = [.ref a, .int 0] ∧ SqL K H a (ns.map V.int) ∧ ∀ p H', PotAt H' p → Same H H' → H p = none → Q (.ref p) H'
theorem ok_law_pot (D : Def K mg "_law_pot" s_law_pot ["_law_script", "_law_k"]) (B : Bs mg) (Glb : Glo mg) (WK : WebK K mg C) :
    Good P w K mg base "_law_pot" s_law_pot ["_law_script", "_law_k"] 1 (sp_law_pot K C) := by
  refine D.good fun f fd F => ?_
  refine F.ok sc_law_pot (fun vs H Q E h => ?_) (fun cdv A outer s H vs Q E hr h => ?_)
  · obtain ⟨a, ns, rfl, hS, q⟩ := h
    first | rfl | (rcases h with ⟨_, _, rfl, _⟩ | ⟨_, rfl, _⟩ <;> rfl)
  obtain ⟨a, ns, rfl, hS, q⟩ := h
  refine ⟨_, (pss_cons (ps_set (i := 2) sc_law_pot.nd rfl (by first | exact Or.inl rfl | exact Or.inr rfl) (pe_ifExp (pt_cmpR op_lt (pv 1) (pe_callB call_len_seq (by rfl) B.len (by decide +kernel) (pa_cons (pv 0) pa_nil)) (nomark _)) (pe_callB call_abs (by rfl) B.abs (by decide +kernel) (pa_cons (pe_ix ix_list (pv 0) (pv 1) (fun _ _ => rfl)) pa_nil)) (pe_op op_add (pe_op op_mul pe_int (pv 1)) pe_int)))
  (pss_cons (ps_set (i := 3) sc_law_pot.nd rfl (by first | exact Or.inl rfl | exact Or.inr rfl) (pe_op op_add (pe_op op_mod (pe_callTy call_int1 (by rfl) B.int (by decide +kernel) (pa_cons (pe_op op_add (pe_op op_add (pe_op op_mul (pe_op op_mod (pe_callTy call_int1 (by rfl) B.int (by decide +kernel) (pa_cons (pv 2) pa_nil)) pe_int) pe_int) (pe_op op_mul pe_int (pv 1))) pe_int) pa_nil)) pe_int) pe_int))
  (pss_one (ps_ret (pe_lst (pa_cons (pe_callB (call_max2 rfl) (by rfl) B.max (by decide +kernel) (pa_cons pe_int (pa_cons (pe_op op_sub (pv 2) (pe_op op_pow pe_int pe_int)) pa_nil))) (pa_cons (pv 3) pa_nil))))))), ?_⟩
  refine ⟨_, rfl, _, rfl, _, _, rfl, .inl hS, _, _, rfl, rfl, _, rfl, ?_⟩
  refine ite2 (fun c1 => ?pos) (fun c1 => ?neg)
  case' pos =>
    obtain ⟨n, rest, rfl⟩ : ∃ n rest, ns = n :: rest := by
      cases ns with
      | nil => exact absurd (of_decide_eq_true c1) (by decide)
      | cons n rest => exact ⟨n, rest, rfl⟩
    refine ⟨_, rfl, _, rfl, _, _, _, .int n, rfl, rfl, hS, atI_nat (j := 0) rfl, _, rfl, ?_⟩
    have hz0 : (0 : Int) ≤ (if n < 0 then -n else n) := by split <;> omega
  case' neg =>
    refine ⟨_, rfl, _, _, rfl, rfl, .inl ⟨by decide, by decide⟩, _, _, rfl, rfl, ?_⟩
    have hz0 : (0 : Int) ≤ (911 * 0 + 1021) := by decide
  all_goals
    refine ⟨_, rfl, .inl ⟨_, rfl, _, _, rfl, rfl, (by show (0 : Int) < 2147483543; decide), _, _, rfl, rfl, .inl ⟨?_, ?_⟩, _, rfl, _, _, rfl, rfl, .inl ⟨by decide, by decide⟩, _, _, rfl, rfl, _, _, rfl, rfl, .inl ⟨_, rfl, _, _, rfl, rfl, (by show (0 : Int) < 2147483549; decide), _, _, rfl, rfl, ?_⟩⟩⟩
    · omega
    · omega
    refine ⟨_, rfl, _, _, rfl, rfl, ⟨by decide, by decide, by decide⟩, _, _, rfl, rfl, _, _, rfl, _, rfl, (by show 2 ≤ sizeLine; decide), fun p np => q p _ ⟨_, _, upd_same, ?_, ?_, ?_⟩ (same_new np _) np⟩
    · split <;> omega
    · omega
    · omega
def sp_law_draw (_ : PySem.W.Frag) (_ : Addr) : Sp := fun vs H Q _ => ∃ a n, vs = [.ref a, .int ((n : Nat) : Int)] ∧ PotAt H a ∧ 0 < n ∧ n ≤ 1000 ∧ ∀ (d : Nat) H', d < n → Kept a H H' → PotAt H' a → Q (.int (d : Int)) H'
theorem ok_law_draw (D : Def K mg "_law_draw" s_law_draw ["_law_pot_here", "_law_size"]) (B : Bs mg) (Glb : Glo mg) (WK : WebK K mg C) :
    Good P w K mg base "_law_draw" s_law_draw ["_law_pot_here", "_law_size"] 1 (sp_law_draw K C) := by
  refine D.good fun f fd F => ?_
  refine F.ok sc_law_draw (fun vs H Q E h => ?_) (fun cdv A outer s H vs Q E hr h => ?_)
  · obtain ⟨a, n, rfl, ⟨x, y, ha, hx, hy, hy2⟩, hn, hn2, q⟩ := h
    first | rfl | (rcases h with ⟨_, _, rfl, _⟩ | ⟨_, rfl, _⟩ <;> rfl)
  obtain ⟨a, n, rfl, ⟨x, y, ha, hx, hy, hy2⟩, hn, hn2, q⟩ := h
  refine ⟨_, (pss_cons (ps_if (pt_cmpR op_gt (pe_ix ix_list (pv 0) pe_int (fun _ _ => rfl)) pe_int (nomark _))
    (pss_cons (ps_asg (pe_callB call_divmod (by rfl) B.divmod (by decide +kernel) (pa_cons (pe_ix ix_list (pv 0) pe_int (fun _ _ => rfl)) (pa_cons (pv 1) pa_nil))) (pg_tup rfl (pgs_cons (pg_sub (pv 0) pe_int set_list) (pgs_cons (pg_name (i := 2) sc_law_draw.nd rfl (by first | exact Or.inl rfl | exact Or.inr rfl)) pgs_nil))))
  (pss_one (ps_ret (pv 2)))) pss_nil)
  (pss_cons (ps_asg (pe_op op_mod (pe_callTy call_int1 (by rfl) B.int (by decide +kernel) (pa_cons (pe_op op_add (pe_op op_mul (pe_ix ix_list (pv 0) pe_int (fun _ _ => rfl)) pe_int) pe_int) pa_nil)) pe_int) (pg_sub (pv 0) pe_int set_list))
  (pss_one (ps_ret (pe_op op_mod (pe_callTy call_int1 (by rfl) B.int (by decide +kernel) (pa_cons (pe_op op_fdiv (pe_op op_mod (pe_callTy call_int1 (by rfl) B.int (by decide +kernel) (pa_cons (pe_op op_mul (pe_ix ix_list (pv 0) pe_int (fun _ _ => rfl)) (pe_ix ix_list (pv 0) pe_int (fun _ _ => rfl))) pa_nil)) pe_int) pe_int) pa_nil)) (pv 1)))))), ?_⟩
  refine ⟨_, rfl, _, _, _, .int x, rfl, rfl, SqL.of ha, rfl, _, _, rfl, rfl, _, rfl, ?_⟩
  refine ite2 (fun c1 => ?_) (fun c1 => ?_)
  · have hpos : (0 : Int) < x := of_decide_eq_true c1
    refine ⟨_, rfl, _, _, _, .int x, rfl, rfl, SqL.of ha, rfl, _, rfl, _, _, rfl, ⟨by omega, by omega⟩, fun p np => ?_⟩
    have hpa : a ≠ p := ne_of_none ha np
    have ha' : (upd H p (.tup [.int (x / (n : Int)), .int (x % (n : Int))])) a = some (.lst [.int x, .int y]) := by
      rw [upd_ne hpa]
      exact ha
    have ed : (((x % (n : Int)).toNat : Nat) : Int) = x % (n : Int) := Int.toNat_of_nonneg (Int.emod_nonneg _ (by omega))
    have el := Int.emod_lt_of_pos x (show (0 : Int) < (n : Int) by omega)
    refine ⟨_, _, rfl, SqT.of upd_same, rfl, _, _, rfl, _, rfl, _, _, _, 0, rfl, rfl, ha', rfl, _, _, rfl, rfl, ?_⟩
    refine ⟨_, rfl, ?_⟩
    have := q (x % (n : Int)).toNat (upd (upd H p (.tup [.int (x / (n : Int)), .int (x % (n : Int))])) a (.lst [.int (x / (n : Int)), .int y])) (by omega) (fun b o e nb => by rw [upd_ne nb, upd_ne (ne_of_none e np)]; exact e)
      ⟨_, _, upd_same, Int.ediv_nonneg hx (by omega), hy, hy2⟩
    rw [ed] at this
    exact this
  · refine ⟨_, rfl, _, _, _, .int y, rfl, rfl, SqL.of ha, rfl, _, _, rfl, rfl, .inl ⟨by omega, by omega⟩, _, _, rfl, rfl, .inl ⟨_, rfl, _, _, rfl, rfl, (by show (0 : Int) < 2147483549; decide), _, rfl, _, _, _, 1, rfl, rfl, ha, rfl, ?_⟩⟩
    have hz0 : (0 : Int) ≤ (y * 39541 + 7499) % 2147483549 := by omega
    have hz1 : (y * 39541 + 7499) % 2147483549 < (2147483549 : Int) := by omega
    refine ⟨_, rfl, _, _, _, .int ((y * 39541 + 7499) % 2147483549), rfl, rfl, SqL.of upd_same, rfl, _, rfl, _, _, _, .int ((y * 39541 + 7499) % 2147483549), rfl, rfl, SqL.of upd_same, rfl, _, _, rfl, rfl, .inl ⟨by omega, by omega⟩, .inl ⟨_, rfl, _, _, rfl, rfl, (by show (0 : Int) < 2147483543; decide), _, _, rfl, rfl, ⟨by decide, by decide⟩, .inl ⟨_, rfl, _, rfl, _, _, rfl, rfl, (by show (0 : Int) < (n : Int); omega), ?_⟩⟩⟩
    have fin : ∀ z : Int, 0 ≤ z → z < 2147483549 → Q (V.int (z * z % 2147483543 / 23 % (n : Int))) (upd H a (.lst [.int x, .int z])) := fun z hz0 hz1 => by
      have ed : (((z * z % 2147483543 / 23 % (n : Int)).toNat : Nat) : Int) = z * z % 2147483543 / 23 % (n : Int) := Int.toNat_of_nonneg (Int.emod_nonneg _ (by omega))
      have el := Int.emod_lt_of_pos (z * z % 2147483543 / 23) (show (0 : Int) < (n : Int) by omega)
      have := q (z * z % 2147483543 / 23 % (n : Int)).toNat (upd H a (.lst [.int x, .int z])) (by omega) (fun b o e nb => by rw [upd_ne nb]; exact e) ⟨_, _, upd_same, hx, hz0, by omega⟩
      rw [ed] at this
      exact this
    exact fin _ hz0 hz1
def sp_law_pick (_ : PySem.W.Frag) (_ : Addr) : Sp := fun vs H Q _ => ∃ a l, ∃ xs : List V, vs = [.ref a, .ref l] ∧ H l = some (.lst xs) ∧ l ≠ a ∧ 0 < xs.length ∧ xs.length ≤ 1000 ∧ PotAt H a ∧ ∀ v H', v ∈ xs → Kept a H H' → PotAt H' a → Q v H'
theorem ok_law_pick (D : Def K mg "_law_pick" s_law_pick ["_law_pot_here", "_law_some"]) (B : Bs mg) (Glb : Glo mg) (WK : WebK K mg C)
    (h_law_draw : Good P w K mg base "_law_draw" s_law_draw ["_law_pot_here", "_law_size"] 1 (sp_law_draw K C)) :
    Good P w K mg base "_law_pick" s_law_pick ["_law_pot_here", "_law_some"] 2 (sp_law_pick K C) := by
  refine D.good fun f fd F => ?_
  obtain ⟨f_law_draw, d_law_draw, O_law_draw, m_law_draw, k_law_draw, b_law_draw, F_law_draw⟩ := h_law_draw
  refine F.ok sc_law_pick (fun vs H Q E h => ?_) (fun cdv A outer s H vs Q E hr h => ?_)
  · obtain ⟨a, l, xs, rfl, hl, hla, h0, hlen, hp, q⟩ := h
    first | rfl | (rcases h with ⟨_, _, rfl, _⟩ | ⟨_, rfl, _⟩ <;> rfl)
  obtain ⟨a, l, xs, rfl, hl, hla, h0, hlen, hp, q⟩ := h
  refine ⟨_, (pss_one (ps_ret (pe_ix ix_list (pv 1) (pe_call O_law_draw hr rfl m_law_draw k_law_draw b_law_draw .nil pass0 (pa_cons (pv 0) (pa_cons (pe_callB call_len_seq (by rfl) B.len (by decide +kernel) (pa_cons (pv 1) pa_nil)) pa_nil))) (fun _ _ => rfl)))), ?_⟩
  refine ⟨_, rfl, _, rfl, _, rfl, l, _, rfl, .inl (SqL.of hl), a, xs.length, rfl, hp, h0, hlen, fun d H' hd hk hp' => ?_⟩
  exact ⟨_, _, _, _, rfl, rfl, SqL.of (hk l _ hl hla), atI_nat (List.getElem?_eq_getElem hd), q _ H' (List.getElem_mem hd) hk hp'⟩
end
end My
/-! A word around which no road goes stands in whatever goes on and on by all its ties.
T: ties gone one behind another; st, en: where a tie begins and ends; X 0 .. X (n + 1): the word. -/
namespace My
/-- the first m of X stand at s -/
def Std (T X : Nat → Nat) (m s : Nat) : Prop := ∀ j, j < m → T (s + j) = X j
/-- no road around X within T: from behind X k to behind X g, by neither X (k + 1) nor X g -/
def Free (st en T X : Nat → Nat) (n : Nat) : Prop := ∀ g k, g ≤ k → k ≤ n → ∀ a b, a < b → st (T a) = en (X k) → en (T (b - 1)) = en (X g) → ∃ i, a ≤ i ∧ i < b ∧ (T i = X (k + 1) ∨ T i = X g)
theorem first_from {p : Nat → Prop} {a b : Nat} (hab : a ≤ b) (hb : p b) : ∃ x, a ≤ x ∧ x ≤ b ∧ p x ∧ ∀ i, a ≤ i → i < x → ¬ p i := by
  obtain ⟨d, rfl⟩ : ∃ d, b = a + d := ⟨b - a, by omega⟩
  induction d with
  | zero => exact ⟨a, by omega, by omega, hb, fun i h1 h2 => by omega⟩
  | succ d ih =>
    by_cases c : ∃ y, a ≤ y ∧ y ≤ a + d ∧ p y
    · obtain ⟨y, y1, y2, y3⟩ := c
      clear ih
      obtain ⟨f, rfl⟩ : ∃ f, y = a + f := ⟨y - a, by omega⟩
      have : ∀ f, p (a + f) → ∃ x, a ≤ x ∧ x ≤ a + f ∧ p x ∧ ∀ i, a ≤ i → i < x → ¬ p i := by
        intro f
        induction f using Nat.strongRecOn with
        | ind f ihf =>
          intro hf
          by_cases c2 : ∃ g, g < f ∧ p (a + g)
          · obtain ⟨g, g1, g2⟩ := c2
            obtain ⟨x, x1, x2, x3⟩ := ihf g g1 g2
            exact ⟨x, x1, by omega, x3⟩
          · refine ⟨a + f, by omega, by omega, hf, fun i h1 h2 hp => c2 ⟨i - a, by omega, ?_⟩⟩
            rw [show a + (i - a) = i by omega]
            exact hp
      obtain ⟨x, x1, x2, x3⟩ := this f y3
      exact ⟨x, x1, by omega, x3⟩
    · exact ⟨a + (d + 1), by omega, by omega, hb, fun i h1 h2 hp => c ⟨i, h1, by omega, hp⟩⟩
theorem last_to {p : Nat → Prop} {a b : Nat} (h : ∃ i, a ≤ i ∧ i < b ∧ p i) : ∃ r, a ≤ r ∧ r < b ∧ p r ∧ ∀ i, r < i → i < b → ¬ p i := by
  obtain ⟨i, h1, h2, h3⟩ := h
  obtain ⟨d, rfl⟩ : ∃ d, b = i + 1 + d := ⟨b - (i + 1), by omega⟩
  induction d generalizing i with
  | zero => exact ⟨i, h1, h2, h3, fun j h4 h5 => by omega⟩
  | succ d ih =>
    by_cases c : ∃ j, i < j ∧ j < i + 1 + (d + 1) ∧ p j
    · obtain ⟨j, j1, j2, j3⟩ := c
      by_cases cd : j = i + 1 + d
      · subst cd
        exact ⟨i + 1 + d, by omega, by omega, j3, fun k h4 h5 => by omega⟩
      · obtain ⟨r, r1, r2, r3, r4⟩ := ih i h1 h3 (by omega)
        by_cases ce : p (i + 1 + d)
        · exact ⟨i + 1 + d, by omega, by omega, ce, fun k h4 h5 => by omega⟩
        · refine ⟨r, r1, by omega, r3, fun k h4 h5 hp => ?_⟩
          by_cases cf : k = i + 1 + d
          · subst cf; exact ce hp
          · exact r4 k h4 (by omega) hp
    · exact ⟨i, h1, by omega, h3, fun j h4 h5 hp => c ⟨j, h4, h5, hp⟩⟩
theorem per_mul {X : Nat → Nat} {e n : Nat} (per : ∀ i, 1 ≤ i → i + e ≤ n → X (i + e) = X i) {i : Nat} (hi : 1 ≤ i) : ∀ t, i + e * t ≤ n → X (i + e * t) = X i
  | 0, _ => rfl
  | t + 1, h => by
    rw [Nat.mul_succ] at h ⊢
    rw [← Nat.add_assoc, per (i + e * t) (by omega) (by omega)]
    exact per_mul per hi t (by omega)
theorem stands_again {st en T : Nat → Nat} (hT : ∀ i, en (T i) = st (T (i + 1))) : ∀ n, ∀ X : Nat → Nat, (∀ i, i ≤ n → en (X i) = st (X (i + 1))) → Free st en T X n →
    ∀ e s x, e = x - (s + n + 1) → Std T X (n + 1) s → s + n + 1 ≤ x → (∀ i, s + n + 1 ≤ i → i < x → T i ≠ X (n + 1)) → T x = X (n + 1) → Std T X (n + 1) (x - (n + 1)) := by
  intro n
  induction n using Nat.strongRecOn with
  | ind n IHn =>
  intro X hX hF e
  induction e using Nat.strongRecOn with
  | ind e IHe =>
  intro s x he hs hx hno hTx
  by_cases e0 : x = s + n + 1
  · rw [e0, show s + n + 1 - (n + 1) = s by omega]
    exact hs
  have hA : ∀ j, j < n → T (x - n + j) = X (1 + j) := by
    by_cases n0 : n = 0
    · intro j hj; omega
    · have := IHn (n - 1) (by omega) (fun i => X (i + 1)) (fun i hi => hX (i + 1) (by omega)) (fun g k h1 h2 a b hab h3 h4 => hF (g + 1) (k + 1) (by omega) (by omega) a b hab h3 h4) (x - ((s + 1) + (n - 1) + 1)) (s + 1) x rfl (fun j hj => by
        have := hs (j + 1) (by omega)
        show T (s + 1 + j) = X (j + 1)
        rw [← this]
        exact congrArg T (by omega)) (by omega) (fun i h1 h2 => by
        have := hno i (by omega) h2
        rw [show n - 1 + 1 + 1 = n + 1 by omega]
        exact this) (by rw [show n - 1 + 1 + 1 = n + 1 by omega]; exact hTx)
      intro j hj
      have h := this j (by omega)
      rw [show n - 1 + 1 = n by omega] at h
      rw [h, Nat.add_comm 1 j]
  have hq1 : T (x - n) = X 1 := by
    by_cases n0 : n = 0
    · subst n0; exact hTx
    · exact hA 0 (by omega)
  have hplace : en (T (x - n - 1)) = en (X 0) := by
    rw [hT, show x - n - 1 + 1 = x - n by omega, hq1, hX 0 (by omega)]
  by_cases c1 : s + n + 1 < x - n
  · have hsp : st (T (s + n + 1)) = en (X n) := by
      rw [← hT (s + n), hs n (by omega)]
    obtain ⟨i, i1, i2, i3⟩ := hF 0 n (by omega) (by omega) (s + n + 1) (x - n) c1 hsp hplace
    have hi0 : T i = X 0 := by
      rcases i3 with h | h
      · exact absurd h (hno i i1 (by omega))
      · exact h
    obtain ⟨r, r1, r2, r3, r4⟩ := last_to (p := fun i => T i = X 0) ⟨i, i1, i2, hi0⟩
    have chain : ∀ m, m ≤ n → Std T X (m + 1) r := by
      intro m
      induction m with
      | zero =>
        intro _ j hj
        rw [show j = 0 by omega]
        exact r3
      | succ m ih =>
        intro hm
        have h1 := ih (by omega)
        obtain ⟨x', x1, x2, x3, x4⟩ := first_from (p := fun i => T i = X (m + 1)) (a := r + m + 1) (b := x - n + m) (by omega) (by
          show T (x - n + m) = X (m + 1)
          rw [hA m (by omega), Nat.add_comm 1 m])
        have h2 := IHn m (by omega) X (fun i hi => hX i (by omega)) (fun g k g1 g2 => hF g k g1 (by omega)) (x' - (r + m + 1)) r x' rfl h1 x1 x4 x3
        have h3 := h2 0 (by omega)
        rw [Nat.add_zero] at h3
        have h4 : x' = r + m + 1 := by
          refine Classical.byContradiction fun z => ?_
          exact r4 (x' - (m + 1)) (by omega) (by omega) h3
        intro j hj
        by_cases cj : j < m + 1
        · exact h1 j cj
        · rw [show j = m + 1 by omega, ← Nat.add_assoc, ← h4]
          exact x3
    exact IHe (x - (r + n + 1)) (by omega) r x rfl (chain n (by omega)) (by omega) (fun i h1 h2 => hno i (by omega) h2) hTx
  · -- the word overlaps itself
    have hee : 1 ≤ e := by omega
    have hen : e ≤ n := by omega
    have hxe : x = s + n + 1 + e := by omega
    have per : ∀ i, 1 ≤ i → i + e ≤ n → X (i + e) = X i := fun i h1 h2 => by
      have k1 := hs (i + e) (by omega)
      have k2 := hA (i - 1) (by omega)
      rw [← k1, show i = 1 + (i - 1) by omega, ← k2]
      exact congrArg T (by omega)
    have hdm := Nat.div_add_mod n e
    have hl := Nat.mod_lt n (show 0 < e by omega)
    generalize hle : n % e = l at hdm hl
    generalize hte : n / e = t at hdm
    have ht1 : 1 ≤ t := by
      rw [← hte]
      exact (Nat.one_le_div_iff (by omega)).mpr hen
    have het : e ≤ e * t := by
      have := Nat.mul_le_mul_left e ht1
      omega
    have hXet : X (e * t) = X e := by
      obtain ⟨t', rfl⟩ : ∃ t', t = t' + 1 := ⟨t - 1, by omega⟩
      have := per_mul per (i := e) hee t' (by rw [Nat.mul_succ] at hdm; omega)
      rw [Nat.mul_succ, Nat.add_comm]
      exact this
    have hTe : T (x - n - 1) = X e := by
      rw [show x - n - 1 = s + e by omega]
      exact hs e (by omega)
    have henl : en (X l) = en (X n) := by
      by_cases l0 : l = 0
      · rw [l0, ← hplace, hTe, ← hXet]
        exact congrArg (fun z => en (X z)) (by omega)
      · have := per_mul per (i := l) (by omega) t (by omega)
        rw [← this]
        exact congrArg (fun z => en (X z)) (by omega)
    have h2 := IHn l (by omega) (fun i => if i ≤ l then X i else X (n + 1)) (fun i hi => by
        by_cases ci : i + 1 ≤ l
        · rw [if_pos (by omega), if_pos ci]
          exact hX i (by omega)
        · rw [if_pos (by omega), if_neg ci, show i = l by omega, henl]
          exact hX n (by omega)) (fun g k g1 g2 a b hab h3 h4 => by
        have hg : (if g ≤ l then X g else X (n + 1)) = X g := if_pos (by omega)
        have hk : (if k ≤ l then X k else X (n + 1)) = X k := if_pos (by omega)
        show ∃ i, a ≤ i ∧ i < b ∧ (T i = (if k + 1 ≤ l then X (k + 1) else X (n + 1)) ∨ T i = if g ≤ l then X g else X (n + 1))
        replace h3 : st (T a) = en (if k ≤ l then X k else X (n + 1)) := h3
        replace h4 : en (T (b - 1)) = en (if g ≤ l then X g else X (n + 1)) := h4
        rw [hk] at h3
        rw [hg] at h4 ⊢
        by_cases ck : k + 1 ≤ l
        · rw [if_pos ck]
          exact hF g k g1 (by omega) a b hab h3 h4
        · rw [if_neg ck]
          have ekl : k = l := by omega
          rw [ekl, henl] at h3
          exact hF g n (by omega) (by omega) a b hab h3 h4) (x - (s + l + 1)) s x rfl (fun j hj => by
        show T (s + j) = if j ≤ l then X j else X (n + 1)
        rw [if_pos (by omega)]
        exact hs j (by omega)) (by omega) (fun i h1 h3 => by
        show T i ≠ if l + 1 ≤ l then X (l + 1) else X (n + 1)
        rw [if_neg (by omega)]
        by_cases ci : s + n + 1 ≤ i
        · exact hno i ci h3
        · intro hz
          obtain ⟨i', rfl⟩ : ∃ i', i = s + i' := ⟨i - s, by omega⟩
          rw [hs i' (by omega)] at hz
          have hdm2 := Nat.div_add_mod (n - i') e
          have hl2 := Nat.mod_lt (n - i') (show 0 < e by omega)
          generalize (n - i') / e = u at hdm2
          generalize (n - i') % e = v at hdm2 hl2
          have hp := per_mul per (i := i') (by omega) u (by omega)
          have hq := hA (i' + e * u - 1) (by omega)
          rw [show 1 + (i' + e * u - 1) = i' + e * u by omega, hp, hz] at hq
          exact hno _ (by omega) (by omega) hq) (by
        show T x = if l + 1 ≤ l then X (l + 1) else X (n + 1)
        rw [if_neg (by omega)]
        exact hTx)
    have h3 := h2 0 (by omega)
    replace h3 : T (x - (l + 1) + 0) = if 0 ≤ l then X 0 else X (n + 1) := h3
    rw [if_pos (Nat.zero_le l)] at h3
    have h4 := hA (e * t - 1) (by omega)
    rw [show x - n + (e * t - 1) = x - (l + 1) + 0 by omega, h3, show 1 + (e * t - 1) = e * t by omega, hXet] at h4
    intro j hj
    by_cases cj : j = 0
    · rw [cj, Nat.add_zero, show x - (n + 1) = x - n - 1 by omega, hTe, h4]
    · have := hA (j - 1) (by omega)
      rw [show 1 + (j - 1) = j by omega] at this
      rw [← this]
      exact congrArg T (by omega)
/-- so it stands, again and again -/
theorem stands_free {st en T X : Nat → Nat} {n : Nat} (hT : ∀ i, en (T i) = st (T (i + 1))) (hX : ∀ i, i ≤ n → en (X i) = st (X (i + 1))) (hF : Free st en T X n) (hc : ∀ j, j ≤ n + 1 → ∀ N, ∃ i, N ≤ i ∧ T i = X j) :
    ∀ m, m ≤ n + 1 → ∀ N, ∃ s, N ≤ s ∧ Std T X (m + 1) s := by
  intro m
  induction m with
  | zero =>
    intro _ N
    obtain ⟨i, i1, i2⟩ := hc 0 (by omega) N
    exact ⟨i, i1, fun j hj => by rw [show j = 0 by omega]; exact i2⟩
  | succ m ih =>
    intro hm N
    obtain ⟨s, s1, s2⟩ := ih (by omega) N
    obtain ⟨b, b1, b2⟩ := hc (m + 1) hm (s + m + 1)
    obtain ⟨x, x1, x2, x3, x4⟩ := first_from (p := fun i => T i = X (m + 1)) b1 b2
    have h := stands_again hT m X (fun i hi => hX i (by omega)) (fun g k g1 g2 => hF g k g1 (by omega)) (x - (s + m + 1)) s x rfl s2 x1 x4 x3
    refine ⟨x - (m + 1), by omega, fun j hj => ?_⟩
    by_cases cj : j < m + 1
    · exact h j cj
    · rw [show j = m + 1 by omega, show x - (m + 1) + (m + 1) = x by omega]
      exact x3
end My
set_option maxHeartbeats 4000000
namespace My
open PySem L2 PyProof.Rows
/-- ties that lead from u to v -/
def PathT (ts : List (Nat × Nat)) : Nat → Nat → List Nat → Prop
  | u, v, [] => u = v
  | u, v, x :: r => ∃ w, ts[x]? = some (u, w) ∧ PathT ts w v r
theorem PathT.app {ts : List (Nat × Nat)} {v w : Nat} {B : List Nat} : ∀ {A : List Nat} {u : Nat}, PathT ts u v A → PathT ts v w B → PathT ts u w (A ++ B)
  | [], u, h, k => by
    cases h
    exact k
  | x :: r, u, ⟨z, h1, h2⟩, k => ⟨z, h1, PathT.app h2 k⟩
theorem PathT.num {ts : List (Nat × Nat)} {v : Nat} : ∀ {A : List Nat} {u : Nat}, PathT ts u v A → ∀ x ∈ A, x < ts.length
  | [], u, _, x, hx => by cases hx
  | y :: r, u, ⟨z, h1, h2⟩, x, hx => by
    rcases List.mem_cons.mp hx with e | e
    · rw [e]; exact (List.getElem?_eq_some_iff.mp h1).1
    · exact PathT.num h2 x e
theorem PathT.one {ts : List (Nat × Nat)} {u v x : Nat} (h : ts[x]? = some (u, v)) : PathT ts u v [x] := ⟨v, h, rfl⟩
theorem closed_rch {N : Nat} {ts : List (Nat × Nat)} (h0 : 0 < N) (h : closedB N ts = true) : ∀ u, u < N → ∀ v, v < N → Rch (Ed ts) u v := by
  unfold closedB at h
  rw [Bool.and_eq_true, decide_eq_true_iff, decide_eq_true_iff] at h
  exact (parts_one h0).mp h.2
/-- ties that lead from a place back to it are a round -/
theorem PathT.on {ts : List (Nat × Nat)} {v : Nat} : ∀ {A : List Nat} {u : Nat}, PathT ts u v A → ∀ i, i + 1 < A.length → OnAt ts A i
  | [], u, _, i, hi => absurd hi (Nat.not_lt_zero _)
  | [x], u, _, i, hi => by
    rw [List.length_singleton] at hi
    omega
  | x :: y :: r, u, ⟨z, h1, z2, h2, h3⟩, i, hi => by
    cases i with
    | zero => exact ⟨x, y, (u, z), (z, z2), rfl, rfl, h1, h2, rfl⟩
    | succ i =>
      obtain ⟨a, b, e, f, s1, s2, s3⟩ := PathT.on (A := y :: r) (u := z) ⟨z2, h2, h3⟩ i (by rw [List.length_cons] at hi; omega)
      exact ⟨a, b, e, f, s1, s2, s3⟩
theorem PathT.first {ts : List (Nat × Nat)} {u v x : Nat} {A : List Nat} (h : PathT ts u v A) (hx : A[0]? = some x) : ∃ w, ts[x]? = some (u, w) := by
  cases A with
  | nil => cases hx
  | cons y r =>
    cases hx
    obtain ⟨z, h1, _⟩ := h
    exact ⟨z, h1⟩
theorem PathT.last {ts : List (Nat × Nat)} {v : Nat} : ∀ {A : List Nat} {u x : Nat}, PathT ts u v A → A[A.length - 1]? = some x → ∃ w, ts[x]? = some (w, v)
  | [], u, x, _, hx => by cases hx
  | [y], u, x, ⟨z, h1, h2⟩, hx => by
    cases hx
    cases h2
    exact ⟨u, h1⟩
  | y :: y2 :: r, u, x, ⟨z, h1, h2⟩, hx => by
    refine PathT.last (A := y2 :: r) h2 ?_
    rw [← hx]
    show (y2 :: r)[(y2 :: r).length - 1]? = (y :: y2 :: r)[(y2 :: r).length + 1 - 1]?
    rw [List.length_cons, Nat.add_sub_cancel, Nat.add_sub_cancel, List.getElem?_cons_succ]
theorem path_round {ts : List (Nat × Nat)} {u : Nat} {R : List Nat} (h : PathT ts u u R) (h0 : 0 < R.length) : Chain ts R ∧ BackAt ts R := by
  refine ⟨⟨h0, h.num, h.on⟩, ?_⟩
  have e1 : R[0]? = some (R[0]'h0) := List.getElem?_eq_getElem _
  have e2 : R[R.length - 1]? = some (R[R.length - 1]'(by omega)) := List.getElem?_eq_getElem _
  obtain ⟨w1, k1⟩ := h.first e1
  obtain ⟨w2, k2⟩ := h.last e2
  exact ⟨_, _, _, _, e1, e2, k1, k2, rfl⟩
theorem rch_path {ts : List (Nat × Nat)} {u v : Nat} (h : Rch (Ed ts) u v) : ∃ R, PathT ts u v R := by
  obtain ⟨k, h⟩ := h
  induction h with
  | nil u => exact ⟨[], rfl⟩
  | snoc h e ih =>
    obtain ⟨R, hR⟩ := ih
    obtain ⟨x, hx, _⟩ := e
    exact ⟨R ++ [x], hR.app (PathT.one hx)⟩
theorem road_of {ts : List (Nat × Nat)} {W R : List Nat} {i j wj wi wk : Nat} {eg eh : Nat × Nat} (hW : Chain ts W) (h1 : 1 ≤ i) (h2 : i ≤ j) (h3 : j < W.length) (j1 : W[j]? = some wj) (i1 : W[i]? = some wi) (k1 : W[i - 1]? = some wk) (j2 : ts[wj]? = some eg) (i2 : ts[wi]? = some eh)
    (hp : PathT ts eg.1 eh.1 R) (h0 : 0 < R.length) (hl : ∀ x ∈ R, x ∉ [wj, wk]) : RoadAt ts W i j R := by
  have e1 : R[0]? = some (R[0]'h0) := List.getElem?_eq_getElem _
  have e2 : R[R.length - 1]? = some (R[R.length - 1]'(by omega)) := List.getElem?_eq_getElem _
  obtain ⟨w1, q1⟩ := hp.first e1
  obtain ⟨w2, q2⟩ := hp.last e2
  obtain ⟨x', y', e', f', s1, s2, s3, s4, s5⟩ := hW.on (i - 1) (by omega)
  rw [show i - 1 + 1 = i by omega, i1] at s2
  cases s2
  rw [k1] at s1
  cases s1
  rw [i2] at s4
  cases s4
  refine ⟨h1, h2, h3, ⟨h0, hp.num, hp.on⟩, ⟨_, _, wj, wk, _, _, eg, e', e1, e2, j1, k1, q1, q2, j2, s3, rfl, s5⟩, fun w hw z => ?_, fun w hw z => ?_⟩
  · rw [j1] at hw
    cases hw
    exact hl _ z List.mem_cons_self
  · rw [k1] at hw
    cases hw
    exact hl _ z (List.mem_cons_of_mem _ List.mem_cons_self)
end My
set_option maxHeartbeats 4000000
namespace My
open PySem L2 PyProof.Rows
def HasRoad (ts : List (Nat × Nat)) (W : List Nat) : Prop := ∃ i j R, RoadAt ts W i j R
theorem gt_all {T : List Nat} {x : Nat} (hx : x ∈ T) (N : Nat) : ∃ i, N ≤ i ∧ gt T i = x := by
  obtain ⟨p, hp⟩ := List.getElem?_of_mem hx
  have h0 : 0 < T.length := by have := (List.getElem?_eq_some_iff.mp hp).1; omega
  refine ⟨p + T.length * N, ?_, by rw [gt_add, gt_of hp]⟩
  have : 1 * N ≤ T.length * N := Nat.mul_le_mul_right N h0
  omega
theorem rd_len2 (T : List Nat) (a n : Nat) : (rd T a n).length = n := rd_len T a n
theorem round_has {ts : List (Nat × Nat)} {W T : List Nat} (hW : Chain ts W) (hT : Chain ts T) (hB : BackAt ts T) (hcov : ∀ x, x < ts.length → x ∈ T) (no : ¬ HasRoad ts W) (M : Nat) : ∃ s, M ≤ s ∧ ∀ k, k < W.length → gt T (s + k) = W.getD k 0 := by
  have h0 := hW.n0
  have hTn := hT.n0
  have hWm : ∀ k, k < W.length → W.getD k 0 ∈ W := fun k hk => by
    rw [List.getD_eq_getElem?_getD, List.getElem?_eq_getElem hk]
    exact List.getElem_mem hk
  have hWg : ∀ k, k < W.length → W[k]? = some (W.getD k 0) := fun k hk => by
    rw [List.getD_eq_getElem?_getD, List.getElem?_eq_getElem hk]
    rfl
  have hc : ∀ k, k < W.length → ∀ N, ∃ i, N ≤ i ∧ gt T i = W.getD k 0 := fun k hk N => gt_all (hcov _ (hW.num _ (hWm k hk))) N
  by_cases h1 : W.length = 1
  · obtain ⟨i, i1, i2⟩ := hc 0 (by omega) M
    exact ⟨i, i1, fun k hk => by rw [show k = 0 by omega]; exact i2⟩
  have hlt : ∀ i, gt T i < ts.length := fun i => hT.num _ (gt_memb hTn i)
  have hts : ∀ x, x < ts.length → ts[x]? = some (ts.getD x (0, 0)) := fun x hx => by
    rw [List.getD_eq_getElem?_getD, List.getElem?_eq_getElem hx]
    rfl
  have hx : ∀ i, i + 1 < W.length → (ts.getD (W.getD i 0) (0, 0)).2 = (ts.getD (W.getD (i + 1) 0) (0, 0)).1 := fun i hi => by
    obtain ⟨x, y, e, f, s1, s2, s3, s4, s5⟩ := hW.on i hi
    rw [hWg i (by omega)] at s1
    rw [hWg (i + 1) hi] at s2
    cases s1
    cases s2
    rw [hts _ (hW.num _ (hWm i (by omega)))] at s3
    rw [hts _ (hW.num _ (hWm (i + 1) hi))] at s4
    cases s3
    cases s4
    exact s5.symm
  have main := stands_free (st := fun x => (ts.getD x (0, 0)).1) (en := fun x => (ts.getD x (0, 0)).2) (T := gt T) (X := fun k => W.getD k 0) (n := W.length - 2) (fun i => by
      obtain ⟨e, f, r1, r2, r3⟩ := round_on hT hB i
      rw [hts _ (hlt i)] at r1
      rw [hts _ (hlt (i + 1))] at r2
      cases r1
      cases r2
      exact r3.symm) (fun i hi => hx i (by omega)) (fun g k h1' h2' a b hab ha hb => Classical.byContradiction fun z => no ?_) (fun j hj N => hc j (by omega) N) (W.length - 1) (by omega) M
  · obtain ⟨s, s1, s2⟩ := main
    exact ⟨s, s1, fun k hk => s2 k (by omega)⟩
  · have hnone : ∀ i, a ≤ i → i < b → gt T i ≠ W.getD (k + 1) 0 ∧ gt T i ≠ W.getD g 0 := fun i i1 i2 => ⟨fun e => z ⟨i, i1, i2, .inl e⟩, fun e => z ⟨i, i1, i2, .inr e⟩⟩
    have hR : ∀ i, i < b - a → (rd T a (b - a))[i]? = some (gt T (a + i)) := fun i hi => rd_get T a (b - a) i hi
    have hRl := rd_len2 T a (b - a)
    have hRm : ∀ x ∈ rd T a (b - a), ∃ i, a ≤ i ∧ i < b ∧ x = gt T i := fun x hx' => by
      obtain ⟨i, hi⟩ := List.getElem?_of_mem hx'
      have hil := (List.getElem?_eq_some_iff.mp hi).1
      rw [hR i (by omega)] at hi
      exact ⟨a + i, by omega, by omega, (Option.some.inj hi).symm⟩
    refine ⟨g + 1, k + 1, rd T a (b - a), by omega, by omega, by omega, ⟨by omega, fun x hx' => ?_, fun i hi => ?_⟩, ?_, fun w hw hm => ?_, fun w hw hm => ?_⟩
    · obtain ⟨i, _, _, rfl⟩ := hRm x hx'
      exact hlt i
    · obtain ⟨e, f, r1, r2, r3⟩ := round_on hT hB (a + i)
      exact ⟨_, _, e, f, hR i (by omega), by rw [Nat.add_assoc] at r2; exact hR (i + 1) (by omega), r1, r2, r3⟩
    · refine ⟨_, _, _, _, _, _, _, _, hR 0 (by omega), hR (b - a - 1) (by omega) |> fun h => by rw [hRl]; exact h, hWg (k + 1) (by omega), by rw [Nat.add_sub_cancel]; exact hWg g (by omega), hts _ (hlt _), hts _ (hlt _), hts _ (hW.num _ (hWm (k + 1) (by omega))), hts _ (hW.num _ (hWm g (by omega))), ?_, ?_⟩
      · rw [Nat.add_zero]
        exact ha.trans (hx k (by omega))
      · rw [show a + (b - a - 1) = b - 1 by omega]
        exact hb
    · rw [hWg (k + 1) (by omega)] at hw
      cases hw
      obtain ⟨i, i1, i2, e⟩ := hRm _ hm
      exact (hnone i i1 i2).1 e.symm
    · rw [Nat.add_sub_cancel, hWg g (by omega)] at hw
      cases hw
      obtain ⟨i, i1, i2, e⟩ := hRm _ hm
      exact (hnone i i1 i2).2 e.symm
/-! ### standings: how much of the word was read last -/
def nxtD (W r : List Nat) : Nat → Nat
  | 0 => 0
  | k + 1 => if r.drop (r.length - (k + 1)) = W.take (k + 1) then k + 1 else nxtD W r k
def nxt (W : List Nat) (m t : Nat) : Nat := nxtD W (W.take m ++ [t]) (W.take m ++ [t]).length
theorem nxtD_le (W r : List Nat) : ∀ K, nxtD W r K ≤ K
  | 0 => Nat.le_refl 0
  | K + 1 => by
    unfold nxtD
    split
    · exact Nat.le_refl _
    · have := nxtD_le W r K; omega
theorem nxtD_is (W r : List Nat) : ∀ K, K ≤ r.length → r.drop (r.length - nxtD W r K) = W.take (nxtD W r K)
  | 0, _ => by
    show r.drop (r.length - 0) = W.take 0
    rw [Nat.sub_zero, List.drop_length, List.take_zero]
  | K + 1, h => by
    unfold nxtD
    by_cases c : r.drop (r.length - (K + 1)) = W.take (K + 1)
    · rw [if_pos c]; exact c
    · rw [if_neg c]; exact nxtD_is W r K (by omega)
theorem nxtD_max (W r : List Nat) : ∀ K k, k ≤ K → r.drop (r.length - k) = W.take k → k ≤ nxtD W r K
  | 0, k, h, _ => by omega
  | K + 1, k, h, e => by
    unfold nxtD
    by_cases c : r.drop (r.length - (K + 1)) = W.take (K + 1)
    · rw [if_pos c]; exact h
    · rw [if_neg c]
      by_cases ck : k = K + 1
      · subst ck; exact absurd e c
      · exact nxtD_max W r K k (by omega) e
/-- m of W were read last -/
structure Rdg (W r : List Nat) (m : Nat) : Prop where
  lt : m < W.length
  is : W.take m <:+ r
  max : ∀ k, k ≤ W.length → W.take k <:+ r → k ≤ m
theorem Rdg.start {W : List Nat} (h : 0 < W.length) : Rdg W [] 0 := ⟨h, by rw [List.take_zero]; exact List.suffix_refl _, fun k hk hs => by
  have := hs.length_le
  rw [List.length_take, List.length_nil] at this
  omega⟩
theorem Rdg.step {W r : List Nat} {m : Nat} (h : Rdg W r m) (t : Nat) : nxt W m t ≤ W.length ∧ W.take (nxt W m t) <:+ r ++ [t] ∧ ∀ k, k ≤ W.length → W.take k <:+ r ++ [t] → k ≤ nxt W m t := by
  have hl : (W.take m ++ [t]).length = m + 1 := by
    rw [List.length_append, List.length_take, List.length_singleton]
    have := h.lt
    omega
  have hs : W.take m ++ [t] <:+ r ++ [t] := by
    obtain ⟨u, hu⟩ := h.is
    exact ⟨u, by rw [← hu, List.append_assoc]⟩
  have hlt := h.lt
  refine ⟨?_, ?_, fun k hk hsk => ?_⟩
  · have := nxtD_le W (W.take m ++ [t]) (W.take m ++ [t]).length
    unfold nxt
    omega
  · have h1 := nxtD_is W (W.take m ++ [t]) (W.take m ++ [t]).length (Nat.le_refl _)
    unfold nxt
    rw [← h1]
    exact (List.drop_suffix _ _).trans hs
  · have hkl : (W.take k).length = k := by rw [List.length_take]; omega
    by_cases k0 : k = 0
    · omega
    have hk1 : k ≤ m + 1 := by
      have : W.take (k - 1) <:+ r := by
        obtain ⟨u, hu⟩ := hsk
        have hne : W.take k ≠ [] := fun z => by rw [z] at hkl; exact k0 hkl.symm
        have h2 : (u ++ W.take k).dropLast = (r ++ [t]).dropLast := by rw [hu]
        rw [List.dropLast_append_of_ne_nil hne, List.dropLast_concat] at h2
        refine ⟨u, ?_⟩
        rw [← h2, List.dropLast_eq_take, List.take_take, hkl, Nat.min_eq_left (by omega)]
      have := h.max (k - 1) (by omega) this
      omega
    have hsuf : W.take k <:+ W.take m ++ [t] := List.suffix_of_suffix_length_le hsk hs (by omega)
    refine nxtD_max W _ _ k (by omega) ?_
    obtain ⟨u, hu⟩ := hsuf
    have hul : u.length = (W.take m ++ [t]).length - k := by rw [← hu, List.length_append, hkl]; omega
    rw [← hul, ← hu, List.drop_left]
end My
set_option maxHeartbeats 4000000
namespace My
open PySem L2 PyProof.Rows
/-- one tie from standing to standing -/
def Stp (ts : List (Nat × Nat)) (W : List Nat) (s : Nat × Nat) (x : Nat) (u : Nat × Nat) : Prop := ts[x]? = some (s.1, u.1) ∧ u.2 = nxt W s.2 x ∧ u.2 < W.length
def Run (ts : List (Nat × Nat)) (W : List Nat) : Nat × Nat → List Nat → Nat × Nat → Prop
  | s, [], u => s = u
  | s, x :: r, u => ∃ v, Stp ts W s x v ∧ Run ts W v r u
section
variable {ts : List (Nat × Nat)} {W : List Nat}
theorem Run.app {v w : Nat × Nat} {B : List Nat} : ∀ {A : List Nat} {u : Nat × Nat}, Run ts W u A v → Run ts W v B w → Run ts W u (A ++ B) w
  | [], _, h, k => by
    cases h
    exact k
  | _ :: _, _, ⟨z, h1, h2⟩, k => ⟨z, h1, Run.app h2 k⟩
theorem Run.split {w : Nat × Nat} {B : List Nat} : ∀ {A : List Nat} {u : Nat × Nat}, Run ts W u (A ++ B) w → ∃ v, Run ts W u A v ∧ Run ts W v B w
  | [], u, h => ⟨u, rfl, h⟩
  | _ :: _, _, ⟨z, h1, h2⟩ => by
    obtain ⟨v, k1, k2⟩ := Run.split h2
    exact ⟨v, ⟨z, h1, k1⟩, k2⟩
theorem Run.one {u v : Nat × Nat} {x : Nat} (h : Stp ts W u x v) : Run ts W u [x] v := ⟨v, h, rfl⟩
theorem Stp.det {u v w : Nat × Nat} {x : Nat} (h : Stp ts W u x v) (k : Stp ts W u x w) : v = w := by
  obtain ⟨h1, h2, _⟩ := h
  obtain ⟨k1, k2, _⟩ := k
  rw [h1] at k1
  have e1 : v.1 = w.1 := congrArg Prod.snd (Option.some.inj k1)
  exact Prod.ext e1 (h2.trans k2.symm)
theorem Run.det : ∀ {A : List Nat} {u v w : Nat × Nat}, Run ts W u A v → Run ts W u A w → v = w
  | [], _, _, _, h, k => by
    cases h
    exact k
  | _ :: _, _, _, _, ⟨z, h1, h2⟩, ⟨y, k1, k2⟩ => by
    have := h1.det k1
    subst this
    exact Run.det h2 k2
theorem Run.path : ∀ {A : List Nat} {u v : Nat × Nat}, Run ts W u A v → PathT ts u.1 v.1 A
  | [], _, _, h => by
    cases h
    rfl
  | _ :: _, _, _, ⟨z, h1, h2⟩ => ⟨z.1, h1.1, h2.path⟩
theorem Run.reads : ∀ {A r : List Nat} {u v : Nat × Nat}, Run ts W u A v → Rdg W r u.2 → Rdg W (r ++ A) v.2
  | [], r, _, _, h, k => by
    cases h
    rw [List.append_nil]
    exact k
  | x :: A, r, u, _, ⟨z, h1, h2⟩, k => by
    obtain ⟨k1, k2, k3⟩ := k.step x
    obtain ⟨_, e, hl⟩ := h1
    rw [← e] at k2 k3
    have := Run.reads (r := r ++ [x]) h2 ⟨hl, k2, k3⟩
    rw [List.append_assoc] at this
    exact this
def Cm (ts : List (Nat × Nat)) (W : List Nat) (u v : Nat × Nat) : Prop := ∃ A, Run ts W u A v
theorem Cm.refl (u : Nat × Nat) : Cm ts W u u := ⟨[], rfl⟩
theorem Cm.trans {u v w : Nat × Nat} (h : Cm ts W u v) (k : Cm ts W v w) : Cm ts W u w := by
  obtain ⟨A, h⟩ := h
  obtain ⟨B, k⟩ := k
  exact ⟨A ++ B, h.app k⟩
theorem Cm.step {u v w : Nat × Nat} {x : Nat} (h : Cm ts W u v) (k : Stp ts W v x w) : Cm ts W u w := h.trans ⟨[x], Run.one k⟩
/-- standings that come to each other, by all ties -/
def NotSure (ts : List (Nat × Nat)) (W : List Nat) (N : Nat) : Prop := ∃ h : Nat × Nat, (∃ q, q < N ∧ Cm ts W (q, 0) h) ∧ ∀ x, x < ts.length → ∃ s u, Stp ts W s x u ∧ Cm ts W h s ∧ Cm ts W u h
theorem tour_of {h : Nat × Nat} (all : ∀ x, x < ts.length → ∃ s u, Stp ts W s x u ∧ Cm ts W h s ∧ Cm ts W u h) : ∀ n, n ≤ ts.length → ∃ Z, Run ts W h Z h ∧ ∀ x, x < n → x ∈ Z
  | 0, _ => ⟨[], rfl, fun x hx => absurd hx (Nat.not_lt_zero x)⟩
  | n + 1, hn => by
    obtain ⟨Z, z1, z2⟩ := tour_of all n (by omega)
    obtain ⟨s, u, k1, ⟨A, a1⟩, ⟨B, b1⟩⟩ := all n (by omega)
    refine ⟨Z ++ (A ++ ([n] ++ B)), z1.app (a1.app ((Run.one k1).app b1)), fun x hx => ?_⟩
    by_cases c : x < n
    · exact List.mem_append_left _ (z2 x c)
    · rw [show x = n by omega]
      simp
theorem run_on {h : Nat × Nat} {Z : List Nat} (hZ : Run ts W h Z h) (h0 : 0 < Z.length) : ∀ n, ∃ u, Run ts W h (rd Z 0 n) u ∧ Run ts W u (Z.drop (n % Z.length)) h
  | 0 => ⟨h, rfl, by rw [Nat.zero_mod]; exact hZ⟩
  | n + 1 => by
    obtain ⟨u, u1, u2⟩ := run_on hZ h0 n
    have hj := Nat.mod_lt n h0
    rw [List.drop_eq_getElem_cons hj] at u2
    obtain ⟨v, v1, v2⟩ := u2
    have e : Z[n % Z.length] = gt Z n := by
      have := gt_at hj
      rw [List.getElem?_eq_getElem hj, gt_turn] at this
      exact Option.some.inj this
    rw [e] at v1
    have hr : rd Z 0 (n + 1) = rd Z 0 n ++ [gt Z n] := by
      rw [rd_succ, Nat.zero_add]
      rfl
    refine ⟨v, by rw [hr]; exact u1.app (Run.one v1), ?_⟩
    by_cases c : n % Z.length + 1 < Z.length
    · have e2 : (n + 1) % Z.length = n % Z.length + 1 := by rw [Nat.add_mod, Nat.mod_eq_of_lt (a := 1) (by omega), Nat.mod_eq_of_lt c]
      rw [e2]
      exact v2
    · have e3 : n % Z.length + 1 = Z.length := by omega
      have e2 : (n + 1) % Z.length = 0 := by
        have := Nat.div_add_mod n Z.length
        rw [show n + 1 = Z.length * (n / Z.length + 1) by rw [Nat.mul_add]; omega, Nat.mul_mod_right]
      rw [e3, List.drop_length] at v2
      cases v2
      rw [e2]
      exact hZ
/-- all ties within a close lot of standings: not sure -/
theorem road_of_standings {N : Nat} (hm : 0 < ts.length) (hW : Chain ts W) (h : NotSure ts W N) : HasRoad ts W := by
  refine Classical.byContradiction fun no => ?_
  obtain ⟨h, ⟨q, _, ⟨A, hA⟩⟩, all⟩ := h
  obtain ⟨Z, hZ, hcov⟩ := tour_of all ts.length (Nat.le_refl _)
  have h0 : 0 < Z.length := List.length_pos_of_mem (hcov 0 hm)
  obtain ⟨c1, c2⟩ := path_round hZ.path h0
  obtain ⟨s, _, hs⟩ := round_has hW c1 c2 hcov no 0
  obtain ⟨u, u1, _⟩ := run_on hZ h0 (s + W.length)
  have hr := u1.reads (hA.reads (Rdg.start (W := W) hW.n0))
  have hw : rd Z s W.length = W := by
    apply List.ext_getElem?
    intro k
    by_cases hk : k < W.length
    · rw [rd_get _ _ _ _ hk, List.getElem?_eq_getElem hk]
      have := hs k hk
      rw [List.getD_eq_getElem?_getD, List.getElem?_eq_getElem hk] at this
      exact congrArg some this
    · rw [List.getElem?_eq_none (by rw [rd_len]; omega), List.getElem?_eq_none (by omega)]
  have hsuf : W.take W.length <:+ ([] ++ A) ++ rd Z 0 (s + W.length) := by
    rw [List.take_length, rd_split, Nat.zero_add, hw]
    exact ⟨[] ++ A ++ rd Z 0 s, by rw [List.append_assoc]⟩
  have := hr.max W.length (Nat.le_refl _) hsuf
  have := hr.lt
  omega
theorem cover_some {N : Nat} (ho : OkWeb N ts) (hm : 0 < ts.length) (hrc : ∀ u, u < N → ∀ v, v < N → Rch (Ed ts) u v) : ∃ T, Chain ts T ∧ BackAt ts T ∧ ∀ x, x < ts.length → x ∈ T := by
  have key : ∀ n, n ≤ ts.length → ∃ T, PathT ts 0 0 T ∧ ∀ x, x < n → x ∈ T := by
    intro n
    induction n with
    | zero => exact fun _ => ⟨[], rfl, fun x hx => absurd hx (Nat.not_lt_zero x)⟩
    | succ n ih =>
      intro hn
      obtain ⟨T, t1, t2⟩ := ih (by omega)
      have e : ts[n]? = some ts[n] := List.getElem?_eq_getElem (by omega)
      have hb := ho.ok _ (List.mem_of_getElem? e)
      obtain ⟨A, a1⟩ := rch_path (hrc 0 ho.n0 _ hb.1)
      obtain ⟨B, b1⟩ := rch_path (hrc _ hb.2 0 ho.n0)
      refine ⟨T ++ (A ++ ([n] ++ B)), t1.app (a1.app ((PathT.one e).app b1)), fun x hx => ?_⟩
      by_cases c : x < n
      · exact List.mem_append_left _ (t2 x c)
      · rw [show x = n by omega]
        simp
  obtain ⟨T, t1, t2⟩ := key ts.length (Nat.le_refl _)
  obtain ⟨c1, c2⟩ := path_round t1 (List.length_pos_of_mem (t2 0 hm))
  exact ⟨T, c1, c2, t2⟩
theorem pigeon {m : Nat} (f : Nat → Nat) (h : ∀ i, f i < m) : ∃ i j, i < j ∧ f i = f j := by
  refine Classical.byContradiction fun z => ?_
  have hn : ((List.range (m + 1)).map f).Nodup := List.Pairwise.map f (fun a b (hab : a < b) e => z ⟨a, b, hab, e⟩) List.pairwise_lt_range
  have := len_sub (B := List.range m) hn fun x hx => by
    obtain ⟨i, _, rfl⟩ := List.mem_map.mp hx
    exact List.mem_range.mpr (h i)
  rw [List.length_map, List.length_range, List.length_range] at this
  omega
/-- a road around: not sure by the standings -/
theorem standings_of_road {N : Nat} (ho : OkWeb N ts) (hm : 0 < ts.length) (hrc : ∀ u, u < N → ∀ v, v < N → Rch (Ed ts) u v) (hW : Chain ts W) (h : HasRoad ts W) : NotSure ts W N := by
  obtain ⟨i, j, R, hr⟩ := h
  obtain ⟨T, t1, t2, t3⟩ := cover_some ho hm hrc
  have hij := hr.ij
  have hjl := hr.jl
  have ha : W[i - 1]? = some (W[i - 1]'(by omega)) := List.getElem?_eq_getElem _
  have hb : W[j]? = some (W[j]'hjl) := List.getElem?_eq_getElem _
  obtain ⟨c1, c2, c3, c4⟩ := detour_round (tl := (due T (W[i - 1]'(by omega) :: ((W.drop i).take (j - i) ++ [W[j]'hjl]))).map fun s => (s + (j - i)) % T.length) hW hr t1 t2 t3 ha hb fun x => by
    rw [List.mem_map]
    exact ⟨fun ⟨a, b, c⟩ => ⟨a, b, c.symm⟩, fun ⟨a, b, c⟩ => ⟨a, b, c.symm⟩⟩
  generalize dt T _ _ _ = L at c1 c2 c3 c4
  have hL0 := c1.n0
  obtain ⟨e0, _, r0, _, _⟩ := round_on c1 c2 0
  -- the standings behind each tie
  have step : ∀ n, ∃ u, Run ts W (e0.1, 0) (rd L 0 n) u ∧ ∃ e, ts[gt L n]? = some (u.1, e) := by
    intro n
    induction n with
    | zero => exact ⟨(e0.1, 0), rfl, e0.2, r0⟩
    | succ n ih =>
      obtain ⟨u, u1, e, u2⟩ := ih
      have hrd := u1.reads (Rdg.start (W := W) hW.n0)
      obtain ⟨k1, k2, k3⟩ := hrd.step (gt L n)
      have hr1 : rd L 0 (n + 1) = rd L 0 n ++ [gt L n] := by
        rw [rd_succ, Nat.zero_add]
        rfl
      rw [List.nil_append, ← hr1] at k2
      have hlt : nxt W u.2 (gt L n) < W.length := by
        refine Classical.byContradiction fun z => ?_
        rw [show nxt W u.2 (gt L n) = W.length by omega, List.take_length] at k2
        have hlen := k2.length_le
        rw [rd_len] at hlen
        obtain ⟨v, hv⟩ := k2
        have hvl : v.length = n + 1 - W.length := by
          have := congrArg List.length hv
          rw [List.length_append, rd_len] at this
          omega
        obtain ⟨k, hk, hne⟩ := c4 (n + 1 - W.length)
        refine hne ?_
        have h1 := rd_get L 0 (n + 1) (n + 1 - W.length + k) (by omega)
        rw [← hv, List.getElem?_append_right (by omega), show n + 1 - W.length + k - v.length = k by omega, Nat.zero_add] at h1
        rw [h1]
        rfl
      obtain ⟨e', f', q1, q2, q3⟩ := round_on c1 c2 n
      rw [u2] at q1
      cases q1
      refine ⟨(e, nxt W u.2 (gt L n)), by rw [hr1]; exact u1.app (Run.one ⟨u2, rfl, hlt⟩), f'.2, ?_⟩
      rw [q2]
      have q3' : f'.1 = e := q3
      rw [← q3']
  have hU := fun n => Classical.choose_spec (step n)
  generalize hUU : (fun n => Classical.choose (step n)) = U at hU
  have hU2 : ∀ n, Run ts W (e0.1, 0) (rd L 0 n) (U n) := fun n => by rw [← hUU]; exact (Classical.choose_spec (step n)).1
  have hlast : ∀ n, (U n).2 < W.length := fun n => ((hU2 n).reads (Rdg.start (W := W) hW.n0)).lt
  have hplace : ∀ n, (U n).1 < N := fun n => by
    rw [← hUU]
    obtain ⟨e, he⟩ := (Classical.choose_spec (step n)).2
    exact (ho.ok _ (List.mem_of_getElem? he)).1
  have seg : ∀ a b, Run ts W (U a) (rd L a b) (U (a + b)) := fun a b => by
    have h1 := hU2 (a + b)
    rw [rd_split, Nat.zero_add] at h1
    obtain ⟨v, v1, v2⟩ := h1.split
    have := v1.det (hU2 a)
    subst this
    exact v2
  obtain ⟨p, p', hpp, heq⟩ := pigeon (m := N * W.length) (fun k => (U (L.length * k)).1 * W.length + (U (L.length * k)).2) fun k => by
    have h1 := hplace (L.length * k)
    have h2 := hlast (L.length * k)
    have h3 : ((U (L.length * k)).1 + 1) * W.length ≤ N * W.length := Nat.mul_le_mul_right _ h1
    rw [Nat.succ_mul] at h3
    omega
  have hsame : U (L.length * p) = U (L.length * p') := by
    have h2 := hlast (L.length * p)
    have h3 := hlast (L.length * p')
    have e1 : (U (L.length * p)).1 = (U (L.length * p')).1 := by
      have this : ((U (L.length * p)).1 * W.length + (U (L.length * p)).2) / W.length = ((U (L.length * p')).1 * W.length + (U (L.length * p')).2) / W.length := congrArg (fun z => z / W.length) heq
      have dv : ∀ a b m : Nat, b < m → (a * m + b) / m = a := fun a b m hb => by rw [Nat.mul_comm, Nat.mul_add_div (by omega), Nat.div_eq_of_lt hb, Nat.add_zero]
      rw [dv _ _ _ h2, dv _ _ _ h3] at this
      exact this
    refine Prod.ext e1 ?_
    rw [e1] at heq
    omega
  have he0N := (ho.ok _ (List.mem_of_getElem? r0)).1
  refine ⟨U (L.length * p), ⟨e0.1, he0N, ⟨_, hU2 _⟩⟩, fun x hx => ?_⟩
  obtain ⟨y, hy⟩ := List.getElem?_of_mem (c3 x hx)
  have hyl := (List.getElem?_eq_some_iff.mp hy).1
  have hx2 : gt L (L.length * p + y) = x := by
    rw [Nat.add_comm, gt_add, gt_of hy]
  have hz : L.length * p + L.length ≤ L.length * p' := by
    have : L.length * (p + 1) ≤ L.length * p' := Nat.mul_le_mul_left _ hpp
    rw [Nat.mul_succ] at this
    exact this
  refine ⟨U (L.length * p + y), U (L.length * p + y + 1), ?_, ⟨_, seg _ _⟩, ?_⟩
  · have := seg (L.length * p + y) 1
    obtain ⟨v, v1, v2⟩ := (show Run ts W _ [gt L (L.length * p + y)] _ from this)
    cases v2
    rw [hx2] at v1
    exact v1
  · have := seg (L.length * p + y + 1) (L.length * p' - (L.length * p + y + 1))
    rw [show L.length * p + y + 1 + (L.length * p' - (L.length * p + y + 1)) = L.length * p' by omega, ← hsame] at this
    exact ⟨_, this⟩
end
end My
namespace My
open PySem L2 PyProof.Rows
theorem cutV_to {xs : List V} {k : Nat} : cutV xs none (some (k : Int)) = xs.take k := by
  unfold cutV
  rw [HT.sIx_none, HT.sIx_nat]
  show (xs.drop 0).take _ = _
  rw [List.drop_zero]
  by_cases h : k ≤ xs.length
  · rw [Nat.min_eq_left h]; rfl
  · rw [Nat.min_eq_right (by omega), List.take_of_length_le (by omega), List.take_of_length_le (by omega)]
theorem cutV_from {xs : List V} {k : Nat} : cutV xs (some (k : Int)) none = xs.drop k := by
  unfold cutV
  rw [HT.sIx_none, HT.sIx_nat]
  by_cases h : k ≤ xs.length
  · rw [Nat.min_eq_left h, List.take_of_length_le (by rw [List.length_drop]; omega)]
  · rw [Nat.min_eq_right (by omega), List.drop_of_length_le (by omega), List.drop_of_length_le (by omega)]
    simp
theorem TiesAt.take {H : Hp} {l : Addr} {ts : List (Nat × Nat)} {k : Nat} {xs : List V} (h : TiesAt H l ts) (hx : H l = some (.lst xs)) {p : Addr} (hp : H p = some (.lst (xs.take k))) : TiesAt H p (ts.take k) := by
  obtain ⟨tas, h1, h2⟩ := h
  rw [hx] at h1
  cases h1
  refine ⟨tas.take k, by rw [hp, List.map_take], ?_⟩
  clear hx hp
  induction h2 generalizing k with
  | nil => simp; exact .nil
  | cons r t ih =>
    cases k with
    | zero => exact .nil
    | succ k => exact .cons r ih
theorem TiesAt.drop {H : Hp} {l : Addr} {ts : List (Nat × Nat)} {k : Nat} {xs : List V} (h : TiesAt H l ts) (hx : H l = some (.lst xs)) {p : Addr} (hp : H p = some (.lst (xs.drop k))) : TiesAt H p (ts.drop k) := by
  obtain ⟨tas, h1, h2⟩ := h
  rw [hx] at h1
  cases h1
  refine ⟨tas.drop k, by rw [hp, List.map_drop], ?_⟩
  clear hx hp
  induction h2 generalizing k with
  | nil => simp; exact .nil
  | cons r t ih =>
    cases k with
    | zero => exact .cons r t
    | succ k => exact ih
theorem TiesAt.app {H : Hp} {l m p : Addr} {ts us : List (Nat × Nat)} {xs zs : List V} (h : TiesAt H l ts) (k : TiesAt H m us) (hx : H l = some (.lst xs)) (hz : H m = some (.lst zs)) (hp : H p = some (.lst (xs ++ zs))) : TiesAt H p (ts ++ us) := by
  obtain ⟨tas, h1, h2⟩ := h
  obtain ⟨uas, k1, k2⟩ := k
  rw [hx] at h1
  rw [hz] at k1
  cases h1
  cases k1
  exact ⟨tas ++ uas, by rw [hp, List.map_append], paired_apps h2 k2⟩
abbrev ringN (N n : Nat) : List (Nat × Nat) := (List.range n).map fun p => (p, (p + 1) % N)
theorem ringN_succ (N n : Nat) : ringN N (n + 1) = ringN N n ++ [(n, (n + 1) % N)] := by
  unfold ringN
  rw [List.range_succ, List.map_append]
  rfl
theorem sml1000 {n : Nat} (h : n ≤ 1000) : n < sizeLine := Nat.lt_of_le_of_lt h (by decide)
theorem int_list6 : [V.int 1, V.int 2, V.int 2, V.int 3, V.int 3, V.int 4] = iv [1, 2, 2, 3, 3, 4] := rfl
section
variable {P : Program} {w : World} {K : PySem.W.Frag} {mg : Str → Option Value} {base : Heap} {C : Addr}
def sp_law_ties (_ : PySem.W.Frag) (_ : Addr) : Sp := fun vs H Q _ => ∃ a, vs = [.ref a] ∧ PotAt H a ∧ ∀ t l N ts H', Kept a H H' → PotAt H' a → H' t = some (.tup [.int ((N : Nat) : Int), .ref l]) → TiesAt H' l ts → OkWeb N ts → Ringed N ts → ts.length ≤ 10 → N ≤ 4 → l ≠ a → Q (.ref t) H'
theorem ok_law_ties (D : Def K mg "_law_ties" s_law_ties ["_law_pot_here"]) (B : Bs mg) (Glb : Glo mg) (WK : WebK K mg C)
    (h_law_pick : Good P w K mg base "_law_pick" s_law_pick ["_law_pot_here", "_law_some"] 2 (sp_law_pick K C))
    (h_law_draw : Good P w K mg base "_law_draw" s_law_draw ["_law_pot_here", "_law_size"] 1 (sp_law_draw K C)) :
    Good P w K mg base "_law_ties" s_law_ties ["_law_pot_here"] 3 (sp_law_ties K C) := by
  refine D.good fun f fd F => ?_
  obtain ⟨f_law_pick, d_law_pick, O_law_pick, m_law_pick, k_law_pick, b_law_pick, F_law_pick⟩ := h_law_pick
  obtain ⟨f_law_draw, d_law_draw, O_law_draw, m_law_draw, k_law_draw, b_law_draw, F_law_draw⟩ := h_law_draw
  refine F.ok sc_law_ties (fun vs H Q E h => ?_) (fun cdv A outer s H vs Q E hr h => ?_)
  · obtain ⟨a, rfl, hp, q⟩ := h
    first | rfl | (rcases h with ⟨_, _, rfl, _⟩ | ⟨_, rfl, _⟩ <;> rfl)
  obtain ⟨a, rfl, hp, q⟩ := h
  refine ⟨_, (pss_cons (ps_set (i := 1) sc_law_ties.nd rfl (by first | exact Or.inl rfl | exact Or.inr rfl) (pe_call O_law_pick hr rfl m_law_pick k_law_pick b_law_pick .nil pass0 (pa_cons (pv 0) (pa_cons (pe_lst (pa_cons pe_int (pa_cons pe_int (pa_cons pe_int (pa_cons pe_int (pa_cons pe_int (pa_cons pe_int pa_nil))))))) pa_nil))))
  (pss_cons (ps_setLc (i := 2) (own := [("_law_place", 5)]) (g := gName 5) (by rfl) sc_law_ties.nd rfl rfl (sw_true rfl rfl rfl (by decide +kernel)) (pi_range1 (by rfl) B.range (pa_cons (pv 1) pa_nil)) (blkOk_by (own := [("_law_place", 5)]) (N := ["_law_pot_here", "_law_places", "_law_found", "_law_turn", "_law_at", "_law_place"]) (sc := defScope s_law_ties) (by decide +kernel)) (fun _ _ _ _ _ => (pg_name (i := 5) sc_law_ties.nd rfl (by first | exact Or.inl rfl | exact Or.inr rfl))) (fun _ _ _ _ _ => pts_nil) (fun _ _ _ _ _ => (pe_tup (pa_cons (pv 5) (pa_cons (pe_op op_mod (pe_op op_add (pv 5) pe_int) (pv 1)) pa_nil)))))
  (pss_cons (ps_for PassesOwn.never rfl (pi_range1 (by rfl) B.range (pa_cons (pe_call O_law_draw (hr.mono (by decide)) rfl m_law_draw k_law_draw b_law_draw .nil pass0 (pa_cons (pv 0) (pa_cons pe_int pa_nil))) pa_nil)) (pg_name (i := 3) sc_law_ties.nd rfl (by first | exact Or.inl rfl | exact Or.inr rfl))
    (pss_one (ps_expr (pe_bm PySem.F.plainAttrs_list PySem.F.slot_list_append PySem.F.type_list_append mt_append (pv 2) (pa_cons (pe_tup (pa_cons (pe_call O_law_draw (hr.mono (by decide)) rfl m_law_draw k_law_draw b_law_draw .nil pass0 (pa_cons (pv 0) (pa_cons (pv 1) pa_nil))) (pa_cons (pe_call O_law_draw (hr.mono (by decide)) rfl m_law_draw k_law_draw b_law_draw .nil pass0 (pa_cons (pv 0) (pa_cons (pv 1) pa_nil))) pa_nil))) pa_nil)))))
  (pss_cons (ps_set (i := 4) sc_law_ties.nd rfl (by first | exact Or.inl rfl | exact Or.inr rfl) (pe_call O_law_draw (hr.mono (by decide)) rfl m_law_draw k_law_draw b_law_draw .nil pass0 (pa_cons (pv 0) (pa_cons (pe_callB call_len_seq (by rfl) B.len (by decide +kernel) (pa_cons (pv 2) pa_nil)) pa_nil))))
  (pss_one (ps_ret (pe_tup (pa_cons (pv 1) (pa_cons (pe_op op_cat (pe_slice sl_list (pv 2) (po_some (pv 4)) po_none) (pe_slice sl_list (pv 2) po_none (po_some (pv 4)))) pa_nil))))))))), ?_⟩
  refine ⟨_, rfl, (by show 6 ≤ sizeLine; decide), fun p np => ⟨a, p, _, rfl, upd_same, hp.ne np, by simp, by simp, hp.new np, fun v H1 hv hk1 hp1 => ?_⟩⟩
  obtain ⟨N, hN, rfl⟩ : ∃ N : Nat, (0 < N ∧ N ≤ 4) ∧ v = .int (N : Int) := by
    rw [int_list6] at hv
    obtain ⟨n, hn, rfl⟩ := List.mem_map.mp hv
    exact ⟨n, by simp at hn; omega, rfl⟩
  obtain ⟨hN0, hN4⟩ := hN
  have hk01 : Kept a H H1 := (Same.kept (same_new np _)).trans hk1
  refine ⟨_, rfl, _, rfl, by omega, by omega, fun D nD => ?_⟩
  rw [show ((N : Nat) : Int).toNat = N by omega]
  have hDa : D ≠ a := hp1.ne nD
  refine lc_range (lo := 0) (n := N) (fun i H' => Same H1 H' ∧ TiesAt H' D (ringN N i)) ⟨same_new nD _, TiesAt.nil⟩ ?_ ?_
  · rintro i H2 hi ⟨hS2, hD2⟩
    rw [Int.zero_add]
    refine ⟨rfl, _, rfl, _, rfl, _, _, rfl, rfl, _, rfl, _, _, rfl, rfl, (by show (0 : Int) < (N : Int); omega), (by show 2 ≤ sizeLine; decide), fun tp ntp => ?_⟩
    obtain ⟨xs, g1, g2, g3⟩ := hD2.pushV (u := i) (v := (i + 1) % N) (x := .int (i : Int)) (y := .int (((i : Int) + 1) % (N : Int))) rfl (by rw [show (i : Int) + 1 = ((i + 1 : Nat) : Int) by omega]; rfl) ntp
    refine ⟨xs, g1, by rw [g2, ringN, List.length_map, List.length_range]; exact sml1000 (by omega), same_upd (hS2.trans (same_new ntp _)) nD, ?_⟩
    rw [ringN_succ]
    exact g3
  rintro H2 ⟨hS2, hD2⟩
  have hp2 := hp1.same hS2
  have hk02 := hk01.trans (Same.kept hS2)
  have nD0 : H D = none := hk01.free nD hDa
  refine ⟨_, rfl, a, 5, rfl, hp2, by decide, by decide, fun d H3 hd hk3 hp3 => ⟨_, rfl, by omega, by omega, ?_⟩⟩
  rw [show ((d : Nat) : Int).toNat = d by omega]
  have hD3 := hD2.kept hk3 hp2 hDa
  refine for_range (lo := 0) (n := d) (fun i σ H' => ∃ (v3 : Option V) (ts : List (Nat × Nat)), σ = [some (.ref a), some (.int (N : Int)), some (.ref D), v3, none, none] ∧ ts.length = N + i ∧ (∀ e ∈ ts, e.1 < N ∧ e.2 < N) ∧ Ringed N ts ∧ Kept a H H' ∧ PotAt H' a ∧ TiesAt H' D ts) ⟨none, ringN N N, rfl, by rw [ringN, List.length_map, List.length_range]; rfl, fun e he => ?_, fun p hp' => List.mem_map.mpr ⟨p, List.mem_range.mpr hp', rfl⟩, hk02.trans hk3, hp3, hD3⟩ ?_ ?_
  · obtain ⟨p, hp', rfl⟩ := List.mem_map.mp he
    exact ⟨List.mem_range.mp hp', Nat.mod_lt _ hN0⟩
  · rintro i σ H4 hi ⟨v3, ts, rfl, hlen, hts, hrg, hk4, hp4, hT4⟩
    refine ⟨_, rfl, ?_⟩
    obtain ⟨xs0, hxs0, _⟩ := hT4.get
    refine ⟨.inl ⟨rfl, _, SqL.of hxs0⟩, _, rfl, _, rfl, a, N, rfl, hp4, hN0, by omega, fun u H5 hu hk5 hp5 => ⟨_, rfl, _, rfl, a, N, rfl, hp5, hN0, by omega, fun x H6 hx hk6 hp6 => ⟨(by show 2 ≤ sizeLine; decide), fun tp ntp => ?_⟩⟩⟩
    have hT6 := (hT4.kept hk5 hp4 hDa).kept hk6 hp5 hDa
    obtain ⟨xs, g1, g2, g3⟩ := hT6.push (u := u) (v := x) ntp
    refine ⟨D, _, _, rfl, rfl, g1, by rw [g2, hlen]; exact sml1000 (by omega), ?_⟩
    refine ⟨_, ts ++ [(u, x)], rfl, by rw [List.length_append, hlen]; rfl, fun e he => ?_, fun p hp' => List.mem_append_left _ (hrg p hp'), (((hk4.trans hk5).trans hk6).new ntp).put nD0, (hp6.new ntp).put hDa, g3⟩
    rcases List.mem_append.mp he with h | h
    · exact hts e h
    · rw [List.mem_singleton.mp h]; exact ⟨hu, hx⟩
  · rintro σ H4 ⟨v3, ts, rfl, hlen, hts, hrg, hk4, hp4, hT4⟩
    obtain ⟨xs, hxs, hxl⟩ := hT4.get
    refine ⟨_, rfl, _, rfl, D, _, rfl, .inl (SqL.of hxs), a, xs.length, rfl, hp4, by omega, by omega, fun u H5 hu hk5 hp5 => ?_⟩
    have hT5 := hT4.kept hk5 hp4 hDa
    have hx5 := hk5 _ _ hxs hDa
    refine ⟨_, rfl, _, rfl, _, rfl, _, rfl, D, _, rfl, SqL.of hx5, fun q1 nq1 => ⟨_, rfl, _, rfl, _, rfl, D, _, rfl, SqL.of (same_new nq1 _ _ _ hx5), fun q2 nq2 => ⟨q1, q2, _, _, rfl, rfl, same_new nq2 _ _ _ upd_same, upd_same, ?_, fun l nl => ⟨(by show 2 ≤ sizeLine; decide), fun tp ntp => ?_⟩⟩⟩⟩
    · rw [cutV_from, cutV_to, List.length_drop, List.length_take]
      exact Nat.le_of_lt (sml1000 (by omega))
    generalize eH : upd (upd (upd (upd H5 q1 _) q2 _) l _) tp _ = Hf
    have hla : l ≠ a := ((hp5.new nq1).new nq2).ne nl
    have s4 : Same H5 Hf := by rw [← eH]; exact (((same_new nq1 _).trans (same_new nq2 _)).trans (same_new nl _)).trans (same_new ntp _)
    have h1 : Hf q1 = some (.lst (xs.drop u)) := by
      rw [← eH, ← cutV_from]
      exact (((same_new nq2 _).trans (same_new nl _)).trans (same_new ntp _)) q1 _ upd_same
    have h2 : Hf q2 = some (.lst (xs.take u)) := by
      rw [← eH, ← cutV_to]
      exact ((same_new nl _).trans (same_new ntp _)) q2 _ upd_same
    have h3 : Hf l = some (.lst (xs.drop u ++ xs.take u)) := by
      rw [← eH, ← cutV_to, ← cutV_from]
      exact (same_new ntp _) l _ upd_same
    have h4 : Hf tp = some (.tup [.int (N : Int), .ref l]) := by rw [← eH]; exact upd_same
    clear eH
    have hTl := hT5.same s4
    have hxf := s4 _ _ hx5
    have hA := (hTl.drop hxf h1).app (hTl.take hxf h2) h1 h2 h3
    have hmem : ∀ e, e ∈ ts.drop u ++ ts.take u ↔ e ∈ ts := fun e => by
      have h : e ∈ ts ↔ e ∈ ts.take u ++ ts.drop u := by rw [List.take_append_drop]
      rw [h, List.mem_append, List.mem_append]
      exact or_comm
    have hlen2 : (ts.drop u ++ ts.take u).length = ts.length := by rw [List.length_append, List.length_drop, List.length_take]; omega
    exact q tp l N (ts.drop u ++ ts.take u) Hf ((hk4.trans hk5).trans (Same.kept s4)) (hp5.same s4) h4 hA ⟨hN0, by omega, by omega, fun e he => hts e ((hmem e).mp he)⟩ (fun p hp' => (hmem _).mpr (hrg p hp')) (by omega) hN4 hla
def sp_law_out (_ : PySem.W.Frag) (_ : Addr) : Sp := fun vs H Q _ => ∃ t p s ts L, vs = [.ref t, .int ((p : Nat) : Int), .ref s] ∧ TiesAt H t ts ∧ ts.length ≤ 80 ∧ H s = some (.lst (iv L)) ∧ ∀ f H', Same H H' → H f = none → H' f = some (.lst (iv ((frm ts p).filter fun x => decide (x ∉ L)))) → Q (.ref f) H'
theorem ok_law_out (D : Def K mg "_law_out" s_law_out ["_law_ties_here", "_law_place", "_law_without"]) (B : Bs mg) (Glb : Glo mg) (WK : WebK K mg C) :
    Good P w K mg base "_law_out" s_law_out ["_law_ties_here", "_law_place", "_law_without"] 1 (sp_law_out K C) := by
  refine D.good fun f fd F => ?_
  refine F.ok sc_law_out (fun vs H Q E h => ?_) (fun cdv A outer s H vs Q E hr h => ?_)
  · obtain ⟨t, p, s, ts, L, rfl, hT, hm, hs, q⟩ := h
    first | rfl | (rcases h with ⟨_, _, rfl, _⟩ | ⟨_, rfl, _⟩ <;> rfl)
  obtain ⟨t, p, s, ts, L, rfl, hT, hm, hs, q⟩ := h
  refine ⟨_, (pss_one (ps_ret (pe_lc (own := [("_law_tie", 3), ("_law_ends", 4)]) (g := gTup K 2 (gCons (gName 3) (gCons (gName 4) gNil))) (by rfl) sc_law_out.nd (pi_enum (by rfl) B.enumerate (pa_cons (pv 0) pa_nil)) (blkOk_by (own := [("_law_tie", 3), ("_law_ends", 4)]) (N := ["_law_ties_here", "_law_place", "_law_without", "_law_tie", "_law_ends"]) (sc := defScope s_law_out) (by decide +kernel)) (fun _ _ _ _ _ => (pg_tup rfl (pgs_cons (pg_name (i := 3) sc_law_out.nd rfl (by first | exact Or.inl rfl | exact Or.inr rfl)) (pgs_cons (pg_name (i := 4) sc_law_out.nd rfl (by first | exact Or.inl rfl | exact Or.inr rfl)) pgs_nil)))) (fun _ _ _ _ _ => (pts_one (PW.pt (pw_and (pt_cmpR op_eq (pe_ix (ix_tupK (K := K) rfl) (pv 4) pe_int (by exact fun _ _ => rfl)) (pv 1) (nomark _)) (pw_and1 (pt_cmpR (op_notIn_seqK (K := K) rfl) (pv 3) (pv 2) (by rfl))))))) (fun _ _ _ _ _ => (pv 3))))), ?_⟩
  obtain ⟨tas, ht0, hP⟩ := id hT
  have htl := paired_len hP
  refine ⟨_, rfl, t, _, rfl, SqL.of ht0, fun D nD => ?_⟩
  refine lc_it (walk_enum (K := K) (a := t) (xs := tas.map V.ref)) (fun i H' => Same H H' ∧ H' D = some (.lst (iv ((frmN ts p i).filter fun x => decide (x ∉ L))))) ⟨same_new nD _, upd_same⟩ (fun i H' _ ⟨hS', _⟩ => SqL.of (hS' _ _ ht0)) ?_ ?_
  · rintro i x H2 H3 hi ⟨hS2, hD2⟩ ⟨T0, x1, x2, rfl, nT0, rfl, e1, e2⟩
    cases e1
    rw [List.length_map] at hi
    replace e2 : (tas.map V.ref)[i]? = some x2 := e2
    rw [List.getElem?_map, List.getElem?_eq_getElem hi] at e2
    cases e2
    obtain ⟨⟨u, v⟩, he', hpe⟩ := paired_get hP (List.getElem?_eq_getElem hi)
    have hS3 := same_new nT0 (.tup [.int (i : Int), .ref tas[i]])
    have hT3 : upd H2 T0 (.tup [.int (i : Int), .ref tas[i]]) T0 = some (.tup [.int (i : Int), .ref tas[i]]) := upd_same
    generalize upd H2 T0 (.tup [.int (i : Int), .ref tas[i]]) = H3 at hS3 hT3
    have hp3 : H3 tas[i] = some (.tup [.int (u : Int), .int (v : Int)]) := hS3 _ _ (hS2 _ _ hpe)
    have hD3 := hS3 _ _ hD2
    have hs3 := hS3 _ _ (hS2 _ _ hs)
    have hlf := frmN_len ts p i
    have hff := List.length_filter_le (fun x => decide (x ∉ L)) (frmN ts p i)
    refine ⟨T0, _, rfl, SqT.of hT3, rfl, _, _, rfl, _, _, rfl, rfl, rfl, ?_⟩
    refine ⟨_, rfl, _, _, _, .int (u : Int), rfl, rfl, SqT.of hp3, rfl, _, rfl, rfl, _, rfl, ?_⟩
    by_cases c : u = p
    · have e3 : frmN ts p (i + 1) = frmN ts p i ++ [i] := if_pos (by rw [he', c]; rfl)
      refine iteYes (by rw [c]) ⟨_, rfl, _, rfl, s, _, rfl, .inl (SqL.of hs3), rfl, flat_iv _, _, rfl, ?_⟩
      rw [inV_iv]
      by_cases d : i ∈ L
      · refine iteNot' d ⟨hS2.trans hS3, ?_⟩
        rw [e3, List.filter_append, List.filter_cons_of_neg (by simpa using d)]
        simpa using hD3
      · refine iteNot d ⟨_, rfl, _, hD3, ?_, same_upd (hS2.trans hS3) nD, ?_⟩
        · rw [List.length_map]
          exact sml1000 (by omega)
        · rw [upd_same, e3, List.filter_append, List.filter_cons_of_pos (by simpa using d), List.filter_nil, iv_app]
    · have e3 : frmN ts p (i + 1) = frmN ts p i := if_neg (by rw [he']; intro z; exact c (by simpa using z))
      refine iteNo (fun z => c (by have := int_eq.mp z; omega)) (iteF ⟨hS2.trans hS3, ?_⟩)
      rw [e3]
      exact hD3
  rintro H2 ⟨hS2, hD2⟩
  rw [List.length_map, htl] at hD2
  exact q D H2 hS2 nD hD2
end
end My
namespace My
open PySem L2 PyProof.Rows
theorem Chain.one {ts : List (Nat × Nat)} {x : Nat} (h : x < ts.length) : Chain ts [x] := ⟨by simp, fun y hy => by rw [List.mem_singleton.mp hy]; exact h, fun i hi => by simp at hi⟩
theorem Chain.last {ts : List (Nat × Nat)} {R : List Nat} (h : Chain ts R) : ∃ x e, R[R.length - 1]? = some x ∧ ts[x]? = some e := by
  have h0 := h.n0
  have e1 : R[R.length - 1]? = some (R[R.length - 1]'(by omega)) := List.getElem?_eq_getElem _
  have := h.num _ (List.mem_of_getElem? e1)
  exact ⟨_, _, e1, List.getElem?_eq_getElem this⟩
theorem Chain.first {ts : List (Nat × Nat)} {R : List Nat} (h : Chain ts R) : ∃ x e, R[0]? = some x ∧ ts[x]? = some e := by
  have h0 := h.n0
  have e1 : R[0]? = some (R[0]'(by omega)) := List.getElem?_eq_getElem _
  have := h.num _ (List.mem_of_getElem? e1)
  exact ⟨_, _, e1, List.getElem?_eq_getElem this⟩
theorem Chain.snoc {ts : List (Nat × Nat)} {R : List Nat} {x y : Nat} {e : Nat × Nat} (h : Chain ts R) (hx : R[R.length - 1]? = some x) (he : ts[x]? = some e) (hy : y ∈ frm ts e.2) : Chain ts (R ++ [y]) := by
  have h0 := h.n0
  obtain ⟨y1, y2⟩ := (frmN_mem ts e.2 y _).mp hy
  obtain ⟨g, hg⟩ : ∃ g, ts[y]? = some g := ⟨_, List.getElem?_eq_getElem y1⟩
  rw [hg] at y2
  have y3 : g.1 = e.2 := by simpa using y2
  refine ⟨by simp, fun z hz => ?_, fun i hi => ?_⟩
  · rcases List.mem_append.mp hz with hz | hz
    · exact h.num z hz
    · rw [List.mem_singleton.mp hz]; exact y1
  · rw [List.length_append, List.length_singleton] at hi
    by_cases c : i + 1 < R.length
    · obtain ⟨x', y', e', f', k1, k2, k3, k4, k5⟩ := h.on i c
      exact ⟨x', y', e', f', by rw [List.getElem?_append_left (by omega)]; exact k1, by rw [List.getElem?_append_left c]; exact k2, k3, k4, k5⟩
    · have ei : i = R.length - 1 := by omega
      subst ei
      refine ⟨x, y, e, g, by rw [List.getElem?_append_left (by omega)]; exact hx, ?_, he, hg, y3⟩
      rw [List.getElem?_append_right (by omega), show R.length - 1 + 1 - R.length = 0 by omega]
      rfl
theorem iv_mem {L : List Nat} {v : V} (h : v ∈ iv L) : ∃ y : Nat, y ∈ L ∧ v = .int (y : Int) := by
  obtain ⟨y, hy, rfl⟩ := List.mem_map.mp h
  exact ⟨y, hy, rfl⟩
theorem filter_nil {xs : List Nat} : (xs.filter fun x => decide (x ∉ ([] : List Nat))) = xs := List.filter_eq_self.mpr fun x _ => by simp
theorem ringed_frm {N : Nat} {ts : List (Nat × Nat)} (h : Ringed N ts) {p : Nat} (hp : p < N) : 0 < (frm ts p).length := by
  obtain ⟨j, hj⟩ := List.getElem?_of_mem (h p hp)
  exact List.length_pos_of_mem ((frmN_mem ts p j _).mpr ⟨(List.getElem?_eq_some_iff.mp hj).1, by rw [hj]; rfl⟩)
section
variable {P : Program} {w : World} {K : PySem.W.Frag} {mg : Str → Option Value} {base : Heap} {C : Addr}
def sp_law_walk (_ : PySem.W.Frag) (_ : Addr) : Sp := fun vs H Q _ => ∃ a l N ts m, vs = [.ref a, .ref l, .int ((m : Nat) : Int)] ∧ PotAt H a ∧ l ≠ a ∧ TiesAt H l ts ∧ OkWeb N ts ∧ Ringed N ts ∧ 0 < m ∧ m ≤ 50 ∧ ∀ f R H', Chain ts R → R.length ≤ m → Kept a H H' → PotAt H' a → H f = none → H' f = some (.lst (iv R)) → Q (.ref f) H'
theorem ok_law_walk (D : Def K mg "_law_walk" s_law_walk ["_law_pot_here", "_law_ties_here", "_law_most"]) (B : Bs mg) (Glb : Glo mg) (WK : WebK K mg C)
    (h_law_draw : Good P w K mg base "_law_draw" s_law_draw ["_law_pot_here", "_law_size"] 1 (sp_law_draw K C))
    (h_law_out : Good P w K mg base "_law_out" s_law_out ["_law_ties_here", "_law_place", "_law_without"] 1 (sp_law_out K C))
    (h_law_pick : Good P w K mg base "_law_pick" s_law_pick ["_law_pot_here", "_law_some"] 2 (sp_law_pick K C)) :
    Good P w K mg base "_law_walk" s_law_walk ["_law_pot_here", "_law_ties_here", "_law_most"] 3 (sp_law_walk K C) := by
  refine D.good fun f fd F => ?_
  obtain ⟨f_law_draw, d_law_draw, O_law_draw, m_law_draw, k_law_draw, b_law_draw, F_law_draw⟩ := h_law_draw
  obtain ⟨f_law_out, d_law_out, O_law_out, m_law_out, k_law_out, b_law_out, F_law_out⟩ := h_law_out
  obtain ⟨f_law_pick, d_law_pick, O_law_pick, m_law_pick, k_law_pick, b_law_pick, F_law_pick⟩ := h_law_pick
  refine F.ok sc_law_walk (fun vs H Q E h => ?_) (fun cdv A outer s H vs Q E hr h => ?_)
  · obtain ⟨a, l, N, ts, m, rfl, hp, hla, hT, ho, hrg, hm0, hm, q⟩ := h
    first | rfl | (rcases h with ⟨_, _, rfl, _⟩ | ⟨_, rfl, _⟩ <;> rfl)
  obtain ⟨a, l, N, ts, m, rfl, hp, hla, hT, ho, hrg, hm0, hm, q⟩ := h
  refine ⟨_, (pss_cons (ps_set (i := 3) sc_law_walk.nd rfl (by first | exact Or.inl rfl | exact Or.inr rfl) (pe_lst (pa_cons (pe_call O_law_draw (hr.mono (by decide)) rfl m_law_draw k_law_draw b_law_draw .nil pass0 (pa_cons (pv 0) (pa_cons (pe_callB call_len_seq (by rfl) B.len (by decide +kernel) (pa_cons (pv 1) pa_nil)) pa_nil))) pa_nil)))
  (pss_cons (ps_for PassesOwn.never rfl (pi_range1 (by rfl) B.range (pa_cons (pe_call O_law_draw (hr.mono (by decide)) rfl m_law_draw k_law_draw b_law_draw .nil pass0 (pa_cons (pv 0) (pa_cons (pv 2) pa_nil))) pa_nil)) (pg_name (i := 4) sc_law_walk.nd rfl (by first | exact Or.inl rfl | exact Or.inr rfl))
    (pss_cons (ps_set (i := 5) sc_law_walk.nd rfl (by first | exact Or.inl rfl | exact Or.inr rfl) (pe_call O_law_out (hr.mono (by decide)) rfl m_law_out k_law_out b_law_out .nil pass0 (pa_cons (pv 1) (pa_cons (pe_ix ix_tup (pe_ix ix_list (pv 1) (pe_ix ix_list (pv 3) (pe_un un_neg pe_int) (fun _ _ => rfl)) (fun _ _ => rfl)) pe_int (fun _ _ => rfl)) (pa_cons (pe_lst pa_nil) pa_nil)))))
  (pss_one (ps_expr (pe_bm PySem.F.plainAttrs_list PySem.F.slot_list_append PySem.F.type_list_append mt_append (pv 3) (pa_cons (pe_call O_law_pick hr rfl m_law_pick k_law_pick b_law_pick .nil pass0 (pa_cons (pv 0) (pa_cons (pv 5) pa_nil))) pa_nil))))))
  (pss_one (ps_ret (pv 3))))), ?_⟩
  have htm := ho.m
  have hgm : 0 < ts.length := List.length_pos_of_mem (hrg 0 ho.n0)
  obtain ⟨xs0, hxs0, hxl0⟩ := hT.get
  refine ⟨_, rfl, _, rfl, l, _, rfl, .inl (SqL.of hxs0), a, xs0.length, rfl, hp, by omega, by omega, fun d H0 hd hk1 hp1 => ⟨(by show 1 ≤ sizeLine; decide), fun f nf => ?_⟩⟩
  have hfa : f ≠ a := hp1.ne nf
  have nfH : H f = none := hk1.free nf hfa
  have hkF := hk1.new (o := .lst [.int (d : Int)]) nf
  have hpF := hp1.new (o := .lst [.int (d : Int)]) nf
  have hfF : upd H0 f (.lst [.int (d : Int)]) f = some (.lst (iv [d])) := upd_same
  generalize upd H0 f (.lst [.int (d : Int)]) = HF at hkF hpF hfF
  refine ⟨_, rfl, _, rfl, a, m, rfl, hpF, hm0, by omega, fun d2 H1 hd2 hk2 hp2 => ⟨_, rfl, by omega, by omega, ?_⟩⟩
  rw [show ((d2 : Nat) : Int).toNat = d2 by omega]
  refine for_range (lo := 0) (n := d2) (fun i σ H' => ∃ (R : List Nat) (v4 v5 : Option V), σ = [some (.ref a), some (.ref l), some (.int (m : Int)), some (.ref f), v4, v5] ∧ Chain ts R ∧ R.length ≤ 1 + i ∧ Kept a H H' ∧ PotAt H' a ∧ H' f = some (.lst (iv R))) ⟨[d], none, none, rfl, Chain.one (by omega), Nat.le_refl _, hkF.trans hk2, hp2, hk2 _ _ hfF hfa⟩ ?_ ?_
  · rintro i σ H2 hi ⟨R, v4, v5, rfl, hc, hRm, hk3, hp3, hf3⟩
    obtain ⟨x0, e, e1', e2⟩ := hc.last
    have hT1 := hT.kept hk3 hp hla
    obtain ⟨xs, p0, k1, k2, k3⟩ := hT1.at_ e2
    refine ⟨_, rfl, _, rfl, _, rfl, _, rfl, _, _, _, .int (x0 : Int), rfl, rfl, SqL.of hf3, iv_back e1', _, _, _, .ref p0, rfl, rfl, SqL.of k1, k2, _, _, _, .int (e.2 : Int), rfl, rfl, SqT.of k3, rfl, ?_⟩
    refine ⟨Nat.zero_le _, fun z nz => ⟨l, e.2, z, ts, [], rfl, hT1.same (same_new nz _), htm, upd_same, fun D H4 hS4 nD hD4 => ?_⟩⟩
    have hS5 : Same H2 H4 := (same_new nz _).trans hS4
    rw [filter_nil] at hD4
    have hf4 := hS5 _ _ hf3
    have hDa : D ≠ a := (hp3.new nz).ne nD
    have hgf := ringed_frm hrg (ho.ok e (List.mem_of_getElem? e2)).2
    have hlf : (frm ts e.2).length ≤ ts.length := frmN_len ts e.2 ts.length
    refine ⟨_, rfl, .inl ⟨rfl, _, SqL.of hf4⟩, _, rfl, _, rfl, a, D, _, rfl, hD4, hDa, by rw [List.length_map]; exact hgf, by rw [List.length_map]; omega, hp3.same hS5, fun v H6 hv hk6 hp6 => ?_⟩
    obtain ⟨y, hy, rfl⟩ := List.mem_map.mp hv
    have hf6 := hk6 _ _ hf4 hfa
    refine ⟨f, _, _, rfl, rfl, hf6, by rw [List.length_map]; exact Nat.lt_of_lt_of_le (by omega : R.length < 1000) (by decide), ?_⟩
    refine ⟨R ++ [y], _, _, rfl, hc.snoc e1' e2 hy, by rw [List.length_append, List.length_singleton]; omega, ((hk3.trans (Same.kept hS5)).trans hk6).put nfH, hp6.put hfa, ?_⟩
    rw [upd_same, iv_app]
  · rintro σ H2 ⟨R, v4, v5, rfl, hc, hRm, hk3, hp3, hf3⟩
    exact ⟨_, rfl, q f R H2 hc (by omega) hk3 hp3 nfH hf3⟩
end
end My
namespace My
open PySem L2 PyProof.Rows
theorem nums_nz {n : Nat} {W : List Nat} (h : ∀ x ∈ W, x < n) : NumS n (some (nz W)) = true := by
  show (nz W).all (inR n) = true
  rw [List.all_eq_true]
  intro o ho
  obtain ⟨x, hx, rfl⟩ := List.mem_map.mp ho
  exact inR_lt (h x hx)
section
variable {P : Program} {w : World} {K : PySem.W.Frag} {mg : Str → Option Value} {base : Heap} {C : Addr}
def spneed_place (_ : PySem.W.Frag) (C : Addr) : Sp := fun vs H Q _ => ∃ a N ts p, vs = [.ref a, .int ((p : Nat) : Int)] ∧ WebAt C a N ts H ∧ p < N ∧ Q .non H
theorem okneed_place (D : Def K mg "need_place" sneed_place ["web", "place"]) (B : Bs mg) (Glb : Glo mg) (WK : WebK K mg C)
    (his_below : Good P w K mg base "is_below" sis_below ["value", "limit"] 3 (spis_below K C))
    (hWeb_places : GoodP P w K mg base C "places" "Web.places" sWeb_places ["self"] 1 (spWeb_places K C)) :
    Good P w K mg base "need_place" sneed_place ["web", "place"] 4 (spneed_place K C) := by
  refine D.good fun f fd F => ?_
  obtain ⟨fis_below, dis_below, Ois_below, mis_below, kis_below, bis_below, Fis_below⟩ := his_below
  obtain ⟨qWeb_places, fWeb_places, dWeb_places, OWeb_places, pWeb_places, bWeb_places⟩ := hWeb_places
  refine F.ok scneed_place (fun vs H Q E h => ?_) (fun cdv A outer s H vs Q E hr h => ?_)
  · obtain ⟨a, N, ts, p, rfl, hw, hp, q⟩ := h
    first | rfl | (rcases h with ⟨_, _, rfl, _⟩ | ⟨_, rfl, _⟩ <;> rfl)
  obtain ⟨a, N, ts, p, rfl, hw, hp, q⟩ := h
  refine ⟨_, (pss_one (ps_if (pt_not (pt_val (pe_call Ois_below hr rfl mis_below kis_below bis_below .nil pass0 (pa_cons (pv 1) (pa_cons (pe_prop (pv 0) WK.cl pWeb_places OWeb_places (hr.mono (by decide)) bWeb_places .nil pass0 (by rfl)) pa_nil)))))
    (pss_one ps_never) pss_nil)), ?_⟩
  obtain ⟨dx, tl, fl, ol, h1, _⟩ := id hw
  exact ⟨_, rfl, _, rfl, a, dx, _, rfl, h1, a, N, ts, rfl, hw, _, some (p : Int), N, rfl, .int _, _, rfl, iteNb (inR_lt hp) q⟩
def spWeb_ties_from (_ : PySem.W.Frag) (C : Addr) : Sp := fun vs H Q _ => ∃ a N ts p, vs = [.ref a, .int ((p : Nat) : Int)] ∧ WebAt C a N ts H ∧ p < N ∧ ∀ H' l, H l = none → Same H H' → H' l = some (.lst (iv (frm ts p))) → Q (.ref l) H'
theorem okWeb_ties_from (D : DefM K C "ties_from" "Web.ties_from" sWeb_ties_from ["self", "place"]) (B : Bs mg) (Glb : Glo mg) (WK : WebK K mg C)
    (hneed_place : Good P w K mg base "need_place" sneed_place ["web", "place"] 4 (spneed_place K C)) :
    GoodM P w K mg base C "ties_from" "Web.ties_from" sWeb_ties_from ["self", "place"] 5 (spWeb_ties_from K C) := by
  refine D.good fun f fd F => ?_
  obtain ⟨fneed_place, dneed_place, Oneed_place, mneed_place, kneed_place, bneed_place, Fneed_place⟩ := hneed_place
  refine F.ok scWeb_ties_from (fun vs H Q E h => ?_) (fun cdv A outer s H vs Q E hr h => ?_)
  · obtain ⟨a, N, ts, p, rfl, hw, hp, q⟩ := h
    first | rfl | (rcases h with ⟨_, _, rfl, _⟩ | ⟨_, rfl, _⟩ <;> rfl)
  obtain ⟨a, N, ts, p, rfl, hw, hp, q⟩ := h
  refine ⟨_, (pss_cons (ps_expr (pe_call Oneed_place hr rfl mneed_place kneed_place bneed_place .nil pass0 (pa_cons (pv 0) (pa_cons (pv 1) pa_nil))))
  (pss_one (ps_ret (pe_callTy call_list_of (by rfl) B.list (by decide +kernel) (pa_cons (pe_ix ix_list (pe_fld (pv 0) rfl) (pv 1) (fun _ _ => rfl)) pa_nil))))), ?_⟩
  obtain ⟨dx, tl, fl, ol, h1, h2, h3, h4⟩ := id hw
  obtain ⟨x, xs, e1, e2, e3⟩ := h3.get hp
  exact ⟨_, rfl, _, rfl, a, N, ts, p, rfl, hw, hp, _, rfl, a, C, dx, _, _, rfl, h1, WK.cl, WK.nF, wf_F _ _ _ _, _, rfl, _, _, _, .ref x, rfl, rfl, SqL.of e1, e2, _, _, rfl, .inl (SqL.of e3), fun l nl => q _ l nl (same_new nl _) upd_same⟩
def spWeb_ties_to (_ : PySem.W.Frag) (C : Addr) : Sp := fun vs H Q _ => ∃ a N ts p, vs = [.ref a, .int ((p : Nat) : Int)] ∧ WebAt C a N ts H ∧ p < N ∧ ∀ H' l, H l = none → Same H H' → H' l = some (.lst (iv (frm (ts.map Prod.swap) p))) → Q (.ref l) H'
theorem okWeb_ties_to (D : DefM K C "ties_to" "Web.ties_to" sWeb_ties_to ["self", "place"]) (B : Bs mg) (Glb : Glo mg) (WK : WebK K mg C)
    (hneed_place : Good P w K mg base "need_place" sneed_place ["web", "place"] 4 (spneed_place K C)) :
    GoodM P w K mg base C "ties_to" "Web.ties_to" sWeb_ties_to ["self", "place"] 5 (spWeb_ties_to K C) := by
  refine D.good fun f fd F => ?_
  obtain ⟨fneed_place, dneed_place, Oneed_place, mneed_place, kneed_place, bneed_place, Fneed_place⟩ := hneed_place
  refine F.ok scWeb_ties_to (fun vs H Q E h => ?_) (fun cdv A outer s H vs Q E hr h => ?_)
  · obtain ⟨a, N, ts, p, rfl, hw, hp, q⟩ := h
    first | rfl | (rcases h with ⟨_, _, rfl, _⟩ | ⟨_, rfl, _⟩ <;> rfl)
  obtain ⟨a, N, ts, p, rfl, hw, hp, q⟩ := h
  refine ⟨_, (pss_cons (ps_expr (pe_call Oneed_place hr rfl mneed_place kneed_place bneed_place .nil pass0 (pa_cons (pv 0) (pa_cons (pv 1) pa_nil))))
  (pss_one (ps_ret (pe_callTy call_list_of (by rfl) B.list (by decide +kernel) (pa_cons (pe_ix ix_list (pe_fld (pv 0) rfl) (pv 1) (fun _ _ => rfl)) pa_nil))))), ?_⟩
  obtain ⟨dx, tl, fl, ol, h1, h2, h3, h4⟩ := id hw
  obtain ⟨x, xs, e1, e2, e3⟩ := h4.get hp
  exact ⟨_, rfl, _, rfl, a, N, ts, p, rfl, hw, hp, _, rfl, a, C, dx, _, _, rfl, h1, WK.cl, WK.nO, wf_O _ _ _ _, _, rfl, _, _, _, .ref x, rfl, rfl, SqL.of e1, e2, _, _, rfl, .inl (SqL.of e3), fun l nl => q _ l nl (same_new nl _) upd_same⟩
def sp_need_without (_ : PySem.W.Frag) (C : Addr) : Sp := fun vs H Q _ => ∃ a N ts s W, vs = [.ref a, .ref s] ∧ WebAt C a N ts H ∧ SeqAt H s W ∧ (∀ x ∈ W, x < ts.length) ∧ ∀ H', Same H H' → Q .non H'
theorem ok_need_without (D : Def K mg "_need_without" s_need_without ["web", "without"]) (B : Bs mg) (Glb : Glo mg) (WK : WebK K mg C)
    (hare_numbers : Good P w K mg base "are_numbers" sare_numbers ["web", "value"] 4 (spare_numbers K C)) :
    Good P w K mg base "_need_without" s_need_without ["web", "without"] 5 (sp_need_without K C) := by
  refine D.good fun f fd F => ?_
  obtain ⟨fare_numbers, dare_numbers, Oare_numbers, mare_numbers, kare_numbers, bare_numbers, Fare_numbers⟩ := hare_numbers
  refine F.ok sc_need_without (fun vs H Q E h => ?_) (fun cdv A outer s H vs Q E hr h => ?_)
  · obtain ⟨a, N, ts, s, W, rfl, hw, hs, hW, q⟩ := h
    first | rfl | (rcases h with ⟨_, _, rfl, _⟩ | ⟨_, rfl, _⟩ <;> rfl)
  obtain ⟨a, N, ts, s, W, rfl, hw, hs, hW, q⟩ := h
  refine ⟨_, (pss_one (ps_if (pt_not (pt_val (pe_call Oare_numbers hr rfl mare_numbers kare_numbers bare_numbers .nil pass0 (pa_cons (pv 0) (pa_cons (pv 1) pa_nil)))))
    (pss_one ps_never) pss_nil)), ?_⟩
  refine ⟨_, rfl, _, rfl, a, N, ts, .ref s, some (nz W), rfl, hw, hs.val, fun H1 hS1 => ⟨_, rfl, ?_⟩⟩
  rw [nums_nz hW]
  exact iteF (q H1 hS1)
end
end My
namespace My
open PySem L2 PyProof.Rows
/-! ### dicts by whole numbers -/
def dP (ps : List (Nat × V)) : List (Key × V) := ps.map fun p => (Sum.inl (p.1 : Int), p.2)
theorem dP_val (n : Nat) : ∀ ps : List (Nat × V), valV (dP ps) (Sum.inl (n : Int) : Key) = (ps.find? fun p => decide (p.1 = n)).map (·.2)
  | [] => rfl
  | p :: r => by
    have ih := dP_val n r
    by_cases h : p.1 = n
    · rw [show dP (p :: r) = (Sum.inl (p.1 : Int), p.2) :: dP r from rfl, valV_pos (by rw [h]), List.find?_cons_of_pos (by simpa using h)]
      rfl
    · rw [show dP (p :: r) = (Sum.inl (p.1 : Int), p.2) :: dP r from rfl, valV_neg (fun z => h (by have := Sum.inl.inj z; omega)), List.find?_cons_of_neg (by simpa using h)]
      exact ih
theorem dP_isSome (n : Nat) (ps : List (Nat × V)) : (valV (dP ps) (Sum.inl (n : Int) : Key)).isSome = decide (n ∈ ps.map Prod.fst) := by
  rw [dP_val, Option.isSome_map]
  induction ps with
  | nil => rfl
  | cons p r ih =>
    by_cases h : p.1 = n
    · rw [List.find?_cons_of_pos (by simpa using h)]
      simp [h]
    · rw [List.find?_cons_of_neg (by simpa using h), ih]
      have h2 : ¬ n = p.1 := fun z => h z.symm
      simp [h2]
theorem dP_none {n : Nat} {ps : List (Nat × V)} (h : n ∉ ps.map Prod.fst) : valV (dP ps) (Sum.inl (n : Int) : Key) = none := by
  have := dP_isSome n ps
  rw [decide_eq_false h] at this
  cases e : valV (dP ps) (Sum.inl (n : Int) : Key) with
  | none => rfl
  | some x => rw [e] at this; cases this
theorem dP_new {n : Nat} {ps : List (Nat × V)} (v : V) (h : n ∉ ps.map Prod.fst) : putK (dP ps) (Sum.inl (n : Int) : Key) v = dP (ps ++ [(n, v)]) := by
  rw [putK_new v (dP_none h)]
  unfold dP
  rw [List.map_append]
  rfl
theorem dP_len (ps : List (Nat × V)) : (dP ps).length = ps.length := by unfold dP; rw [List.length_map]
abbrev dS (L : List Nat) : List (Nat × V) := L.map fun n => (n, V.bl true)
theorem dS_fst (L : List Nat) : (dS L).map Prod.fst = L := by
  rw [dS, List.map_map]
  exact List.map_id' L
theorem rch_lt {ts : List (Nat × Nat)} {W : List Nat} {N u v : Nat} (ho : OkWeb N ts) (e : Edge ts W u v) : v < N := by
  obtain ⟨i, h, _⟩ := e
  exact (ho.ok _ (List.mem_of_getElem? h)).2
theorem snoc_at (L : List Nat) (x : Nat) : (iv (L ++ [x]))[(iv (L ++ [x])).length - 1]? = some (.int (x : Int)) := by
  rw [iv_app, List.length_append, List.length_singleton, Nat.add_sub_cancel, List.getElem?_append_right (Nat.le_refl _), Nat.sub_self]
  rfl
theorem snoc_drop (L : List Nat) (x : Nat) : (iv (L ++ [x])).dropLast = iv L := by
  rw [iv_app, List.dropLast_concat]
def zT (L T : List Nat) : List (Nat × V) := ((L.drop 1).zip T).map fun p => (p.1, V.int (p.2 : Int))
theorem zT_fst {L T : List Nat} (h : L.length = T.length + 1) : (zT L T).map Prod.fst = L.drop 1 := by
  unfold zT
  rw [List.map_map]
  show ((L.drop 1).zip T).map Prod.fst = L.drop 1
  exact List.map_fst_zip (by rw [List.length_drop]; omega)
theorem zT_len {L T : List Nat} (h : L.length = T.length + 1) : (zT L T).length = T.length := by
  unfold zT
  rw [List.length_map, List.length_zip, List.length_drop]
  omega
theorem zT_snoc {L T : List Nat} (h : L.length = T.length + 1) (v t : Nat) : zT (L ++ [v]) (T ++ [t]) = zT L T ++ [(v, V.int (t : Int))] := by
  unfold zT
  rw [List.drop_append_of_le_length (by omega), List.zip_append (by rw [List.length_drop]; omega), List.map_append]
  rfl
theorem find_zip : ∀ {ks ts : List Nat} {j v t : Nat}, ks.Nodup → ks[j]? = some v → ts[j]? = some t → (((ks.zip ts).map fun p => (p.1, V.int (p.2 : Int))).find? fun p => decide (p.1 = v)) = some (v, V.int (t : Int))
  | [], _, _, _, _, _, h, _ => by simp at h
  | _ :: _, [], _, _, _, _, _, h => by simp at h
  | k :: ks, t0 :: ts, 0, v, t, _, h1, h2 => by
    simp at h1 h2
    subst h1 h2
    rw [List.zip_cons_cons, List.map_cons, List.find?_cons_of_pos (by simp)]
  | k :: ks, t0 :: ts, j + 1, v, t, hn, h1, h2 => by
    have hk : ¬ k = v := fun z => (List.nodup_cons.mp hn).1 (by rw [z]; exact List.mem_of_getElem? (by simpa using h1))
    rw [List.zip_cons_cons, List.map_cons, List.find?_cons_of_neg (by simpa using hk)]
    exact find_zip (List.nodup_cons.mp hn).2 (by simpa using h1) (by simpa using h2)
theorem zT_val {L T : List Nat} {j v t : Nat} (hn : (L.drop 1).Nodup) (h1 : L[j + 1]? = some v) (h2 : T[j]? = some t) : valV (dP (zT L T)) (Sum.inl (v : Int) : Key) = some (.int (t : Int)) := by
  rw [dP_val, zT, find_zip hn (by rw [List.getElem?_drop, Nat.add_comm]; exact h1) h2]
  rfl
theorem iv_neg1 (L : List Nat) (x : Nat) : atI (iv (L ++ [x])) (-1) = some (.int (x : Int)) := by
  rw [iv_app]
  exact atI_last _ _
theorem ties_at {K : PySem.W.Frag} {H : Hp} {l : Addr} {ts : List (Nat × Nat)} (h : TiesAt H l ts) {t : Nat} {u v : Nat} (e : ts[t]? = some (u, v)) : ∃ tas p, SqL K H l tas ∧ atI tas (t : Int) = some (.ref p) ∧ SqT K H p [.int (u : Int), .int (v : Int)] := by
  obtain ⟨tas, h1, h2⟩ := h
  have hlt : t < tas.length := by rw [paired_len h2]; exact (List.getElem?_eq_some_iff.mp e).1
  obtain ⟨⟨u', v'⟩, he, hp⟩ := paired_get h2 (List.getElem?_eq_getElem hlt)
  rw [e] at he
  cases he
  exact ⟨_, tas[t], SqL.of h1, atI_nat (by rw [List.getElem?_map, List.getElem?_eq_getElem hlt]; rfl), SqT.of hp⟩
section
variable {P : Program} {w : World} {K : PySem.W.Frag} {mg : Str → Option Value} {base : Heap} {C : Addr}
def sp_walk_back (_ : PySem.W.Frag) (_ : Addr) : Sp := fun vs H Q _ => ∃ tl d near far ts W L T ds jf D, vs = [.ref tl, .ref d, .int ((near : Nat) : Int), .int ((far : Nat) : Int)] ∧ TiesAt H tl ts ∧ H d = some (.dK (dP (zT L T))) ∧ Bfs ts W near L T ds ∧ L[jf + 1]? = some far ∧ ds[jf + 1]? = some D ∧ D ≤ 1000 ∧
  ∀ H' l p, H l = none → Same H H' → H' l = some (.lst (iv p)) → Pth ts W near p far → p.length = D → Q (.ref l) H'
theorem ok_walk_back (D : Def K mg "_walk_back" s_walk_back ["ties", "came_by", "near", "far"]) (B : Bs mg) (Glb : Glo mg) (WK : WebK K mg C) :
    Good P w K mg base "_walk_back" s_walk_back ["ties", "came_by", "near", "far"] 1 (sp_walk_back K C) := by
  refine D.good fun f fd F => ?_
  refine F.ok sc_walk_back (fun vs H Q E h => ?_) (fun cdv A outer s H vs Q E hr h => ?_)
  · obtain ⟨tl, d, near, far, ts, W, L, T, ds, jf, D, rfl, ht, hd, hB, hf, hD, hD1, q⟩ := h
    first | rfl | (rcases h with ⟨_, _, rfl, _⟩ | ⟨_, rfl, _⟩ <;> rfl)
  obtain ⟨tl, d, near, far, ts, W, L, T, ds, jf, D, rfl, ht, hd, hB, hf, hD, hD1, q⟩ := h
  refine ⟨_, (pss_cons (ps_set (i := 4) sc_walk_back.nd rfl (by first | exact Or.inl rfl | exact Or.inr rfl) (pe_lst (pa_cons (pe_dget (hu_of hr) (pv 1) (pv 3) (fun _ _ => rfl)) pa_nil)))
  (pss_cons (ps_while PassesOwn.never (pt_cmpR op_ne (pe_ix ix_tup (pe_ix ix_list (pv 0) (pe_ix ix_list (pv 4) (pe_un un_neg pe_int) (fun _ _ => rfl)) (fun _ _ => rfl)) pe_int (fun _ _ => rfl)) (pv 2) (nomark _))
    (pss_one (ps_expr (pe_bm PySem.F.plainAttrs_list PySem.F.slot_list_append PySem.F.type_list_append mt_append (pv 4) (pa_cons (pe_dget (hu_of hr) (pv 1) (pe_ix ix_tup (pe_ix ix_list (pv 0) (pe_ix ix_list (pv 4) (pe_un un_neg pe_int) (fun _ _ => rfl)) (fun _ _ => rfl)) pe_int (fun _ _ => rfl)) (fun _ _ => rfl)) pa_nil)))))
  (pss_one (ps_ret (pe_revL (pv 4)))))), ?_⟩
  have l1 := hB.l1
  have tie : ∀ j v, L[j + 1]? = some v → ∃ t, T[j]? = some t := fun j v h => by
    have hl := (List.getElem?_eq_some_iff.mp h).1
    exact ⟨T[j]'(by omega), List.getElem?_eq_getElem _⟩
  obtain ⟨t0, et0⟩ := tie jf far hf
  refine ⟨_, rfl, _, rfl, d, _, rfl, (zT_val hB.nd hf et0) ▸ DGet.k (k := Sum.inl (far : Int)) hd, ?_⟩
  refine ⟨(by show 1 ≤ sizeLine; decide), fun bl nbl => ?_⟩
  obtain ⟨u0, v0, i0, x0, p1, p2, p3, p4, p5, p6, p7, p8⟩ := hB.by_ jf t0 et0
  rw [hf] at p3
  cases p3
  rw [hD] at p7
  have eD := Option.some.inj p7
  let Pv : Nat → L2.St → Hp → Prop := fun m σ H' => ∃ (b : List Nat) (t u v i x : Nat), σ = [some (.ref tl), some (.ref d), some (.int (near : Int)), some (.int (far : Int)), some (.ref bl)] ∧ Same H H' ∧ H' bl = some (.lst (iv (b ++ [t]))) ∧ ts[t]? = some (u, v) ∧ i ≤ m ∧ L[i]? = some u ∧ ds[i]? = some x ∧ (0 < i → u ≠ near) ∧ Pth ts W u (t :: b.reverse) far ∧ b.length + 1 + x = D
  refine ⟨Pv, ⟨jf, [], t0, u0, far, i0, x0, rfl, same_new nbl _, upd_same, p1, p4, p5, p6, p8, .one p1 p2, by show 0 + 1 + x0 = D; omega⟩, ?_⟩
  rintro m σ H1 ⟨b, t, u, v, i, x, rfl, hS, hbl, he, hi, hLi, hx, hne, hP, hlen⟩
  obtain ⟨tas, tp, g1, g2, g3⟩ := ties_at (K := K) (ht.same hS) he
  refine ⟨_, rfl, _, rfl, _, rfl, _, _, _, _, rfl, rfl, SqL.of hbl, iv_neg1 b t, _, _, _, _, rfl, rfl, g1, g2, _, _, _, .int (u : Int), rfl, rfl, g3, rfl, _, rfl, rfl, _, rfl, ?_⟩
  by_cases c : u = near
  · refine iteNot' (int_eq.mpr (by rw [c])) ?_
    refine ⟨_, rfl, _, _, rfl, SqL.of hbl, fun l nl => ?_⟩
    have ex : x = 0 := by
      rcases Nat.eq_zero_or_pos i with z | z
      · subst z
        rw [hB.d0] at hx
        exact (Option.some.inj hx).symm
      · exact absurd c (hne z)
    refine q _ l (b ++ [t]).reverse (hS.free nl) (fun b' o e => same_new nl _ _ _ (hS _ _ e)) ?_ (by rw [List.reverse_append]; rw [← c]; exact hP) (by rw [List.length_reverse, List.length_append, List.length_singleton]; omega)
    rw [upd_same, iv, iv, List.map_reverse]
  · refine iteNot (fun z => c (by have := int_eq.mp z; omega)) ?_
    have hi0 : 0 < i := by
      rcases Nat.eq_zero_or_pos i with z | z
      · subst z
        rw [hB.l0] at hLi
        exact absurd (Option.some.inj hLi).symm c
      · exact z
    obtain ⟨j, rfl⟩ : ∃ j, i = j + 1 := ⟨i - 1, by omega⟩
    obtain ⟨t', et'⟩ := tie j u hLi
    obtain ⟨u', v', i', x', r1, r2, r3, r4, r5, r6, r7, r8⟩ := hB.by_ j t' et'
    rw [hLi] at r3
    cases r3
    rw [hx] at r7
    have ex := Option.some.inj r7
    refine ⟨fun σ' H' => ∃ m', m' < m ∧ Pv m' σ' H', fun σ' H' h => h, ?_⟩
    refine ⟨_, rfl, .inl ⟨rfl, _, SqL.of hbl⟩, _, rfl, _, rfl, _, rfl, _, rfl, _, _, _, _, rfl, rfl, SqL.of hbl, iv_neg1 b t, _, _, _, _, rfl, rfl, g1, g2, _, _, _, .int (u : Int), rfl, rfl, g3, rfl, d, _, rfl, (zT_val hB.nd hLi et') ▸ DGet.k (k := Sum.inl (u : Int)) (hS _ _ hd), bl, _, _, rfl, rfl, hbl, ?_, ?_⟩
    · rw [List.length_map, List.length_append, List.length_singleton]
      exact Nat.lt_of_le_of_lt (by omega : b.length + 1 ≤ 1000) (by decide)
    refine ⟨j, by omega, b ++ [t], t', u', u, i', x', rfl, same_upd hS nbl, ?_, r1, r4, r5, r6, r8, ?_, ?_⟩
    · rw [upd_same, iv_app (b ++ [t])]
    · rw [List.reverse_append]
      exact .cons r1 r2 hP
    · rw [List.length_append, List.length_singleton]
      omega
end
end My
namespace My
open PySem L2 PyProof.Rows
theorem bfs_len {ts : List (Nat × Nat)} {W : List Nat} {a N : Nat} {L T ds : List Nat} (h : Bfs ts W a L T ds) (hl : ∀ x ∈ L, x < N) : L.length ≤ N + 1 := by
  have h1 := few h.nd (fun x hx => hl x (List.mem_of_mem_drop hx))
  rw [List.length_drop] at h1
  omega
theorem ds_le {ts : List (Nat × Nat)} {W : List Nat} {a : Nat} {L T ds : List Nat} (h : Bfs ts W a L T ds) : ∀ (j x : Nat), ds[j]? = some x → x ≤ j := by
  intro j
  induction j using Nat.strongRecOn with
  | _ j ih =>
    intro x hx
    cases j with
    | zero =>
      rw [h.d0] at hx
      cases hx
      omega
    | succ j =>
      have hl := (List.getElem?_eq_some_iff.mp hx).1
      have e : T[j]? = some (T[j]'(by have := h.l1; have := h.l2; omega)) := List.getElem?_eq_getElem _
      obtain ⟨u, v, i, y, _, _, _, q4, _, q6, q7, _⟩ := h.by_ j _ e
      rw [hx] at q7
      have := Option.some.inj q7
      have := ih i (by omega) y q6
      omega
theorem frm_mem {ts : List (Nat × Nat)} {p x : Nat} : x ∈ frm ts p ↔ ∃ v, ts[x]? = some (p, v) := by
  rw [frm, frmN_mem]
  constructor
  · rintro ⟨h1, h2⟩
    rw [List.getElem?_eq_getElem h1] at h2 ⊢
    refine ⟨ts[x].2, ?_⟩
    have := Option.some.inj h2
    rw [← this]
  · rintro ⟨v, h⟩
    exact ⟨(List.getElem?_eq_some_iff.mp h).1, by rw [h]; rfl⟩
section
variable {P : Program} {w : World} {K : PySem.W.Frag} {mg : Str → Option Value} {base : Heap} {C : Addr}
def NoWay (ts : List (Nat × Nat)) (W : List Nat) (near far : Nat) : Prop := ∀ k, 1 ≤ k → ¬ Wk (Edge ts W) k near far
def spway (_ : PySem.W.Frag) (C : Addr) : Sp := fun vs H Q _ => ∃ a N ts near far s W, vs = [.ref a, .int ((near : Nat) : Int), .int ((far : Nat) : Int), .ref s] ∧ WebAt C a N ts H ∧ OkWeb N ts ∧ near < N ∧ far < N ∧ SeqAt H s W ∧ (∀ x ∈ W, x < ts.length) ∧
  (∀ H' l p, H l = none → Same H H' → H' l = some (.lst (iv p)) → Pth ts W near p far → Few (Edge ts W) near far p.length → p.length ≤ 100 → Q (.ref l) H') ∧ (∀ H', Same H H' → NoWay ts W near far → Q .non H')
theorem okway (D : Def K mg "way" sway ["web", "near", "far", "without"]) (B : Bs mg) (Glb : Glo mg) (WK : WebK K mg C)
    (hneed_web : Good P w K mg base "need_web" sneed_web ["web"] 3 (spneed_web K C))
    (hneed_place : Good P w K mg base "need_place" sneed_place ["web", "place"] 4 (spneed_place K C))
    (h_need_without : Good P w K mg base "_need_without" s_need_without ["web", "without"] 5 (sp_need_without K C))
    (h_walk_back : Good P w K mg base "_walk_back" s_walk_back ["ties", "came_by", "near", "far"] 1 (sp_walk_back K C))
    (hWeb_ties : GoodM P w K mg base C "ties" "Web.ties" sWeb_ties ["self"] 1 (spWeb_ties K C))
    (hWeb_ties_from : GoodM P w K mg base C "ties_from" "Web.ties_from" sWeb_ties_from ["self", "place"] 5 (spWeb_ties_from K C)) :
    Good P w K mg base "way" sway ["web", "near", "far", "without"] 7 (spway K C) := by
  refine D.good fun f fd F => ?_
  obtain ⟨fneed_web, dneed_web, Oneed_web, mneed_web, kneed_web, bneed_web, Fneed_web⟩ := hneed_web
  obtain ⟨fneed_place, dneed_place, Oneed_place, mneed_place, kneed_place, bneed_place, Fneed_place⟩ := hneed_place
  obtain ⟨f_need_without, d_need_without, O_need_without, m_need_without, k_need_without, b_need_without, F_need_without⟩ := h_need_without
  obtain ⟨f_walk_back, d_walk_back, O_walk_back, m_walk_back, k_walk_back, b_walk_back, F_walk_back⟩ := h_walk_back
  obtain ⟨fWeb_ties, dWeb_ties, OWeb_ties, tWeb_ties, bWeb_ties, FWeb_ties⟩ := hWeb_ties
  obtain ⟨fWeb_ties_from, dWeb_ties_from, OWeb_ties_from, tWeb_ties_from, bWeb_ties_from, FWeb_ties_from⟩ := hWeb_ties_from
  refine F.ok scway (fun vs H Q E h => ?_) (fun cdv A outer s H vs Q E hr h => ?_)
  · obtain ⟨a, N, ts, near, far, s, W, rfl, hw, ho, hn, hfar, hs, hW, q1, q2⟩ := h
    first | rfl | (rcases h with ⟨_, _, rfl, _⟩ | ⟨_, rfl, _⟩ <;> rfl)
  obtain ⟨a, N, ts, near, far, s, W, rfl, hw, ho, hn, hfar, hs, hW, q1, q2⟩ := h
  refine ⟨_, (pss_cons (ps_expr (pe_call Oneed_web (hr.mono (by decide)) rfl mneed_web kneed_web bneed_web .nil pass0 (pa_cons (pv 0) pa_nil)))
  (pss_cons (ps_expr (pe_call Oneed_place (hr.mono (by decide)) rfl mneed_place kneed_place bneed_place .nil pass0 (pa_cons (pv 0) (pa_cons (pv 1) pa_nil))))
  (pss_cons (ps_expr (pe_call Oneed_place (hr.mono (by decide)) rfl mneed_place kneed_place bneed_place .nil pass0 (pa_cons (pv 0) (pa_cons (pv 2) pa_nil))))
  (pss_cons (ps_expr (pe_call O_need_without (hr.mono (by decide)) rfl m_need_without k_need_without b_need_without .nil pass0 (pa_cons (pv 0) (pa_cons (pv 3) pa_nil))))
  (pss_cons (ps_set (i := 4) scway.nd rfl (by first | exact Or.inl rfl | exact Or.inr rfl) (pe_meth0 (pv 0) WK.cl tWeb_ties OWeb_ties (hr.mono (by decide)) bWeb_ties .nil pass0))
  (pss_cons (ps_set (i := 5) scway.nd rfl (by first | exact Or.inl rfl | exact Or.inr rfl) pe_dnewK)
  (pss_cons (ps_set (i := 6) scway.nd rfl (by first | exact Or.inl rfl | exact Or.inr rfl) (pe_lst (pa_cons (pv 1) pa_nil)))
  (pss_cons (ps_set (i := 7) scway.nd rfl (by first | exact Or.inl rfl | exact Or.inr rfl) pe_int)
  (pss_cons (ps_while PassesOwn.never (PW.pt (pw_and (pt_cmpR op_lt (pv 7) (pe_callB call_len_seq (by rfl) B.len (by decide +kernel) (pa_cons (pv 6) pa_nil)) (nomark _)) (pw_and1 (pt_cmp (pc_dnotin (hu_of hr) (pv 2) (pv 5))))))
    (pss_cons (ps_set (i := 8) scway.nd rfl (by first | exact Or.inl rfl | exact Or.inr rfl) (pe_ix ix_list (pv 6) (pv 7) (fun _ _ => rfl)))
  (pss_cons (ps_aug (i := 7) scway.nd rfl (by first | exact Or.inl rfl | exact Or.inr rfl) pe_int ip_add)
  (pss_one (ps_for PassesOwn.never rfl (pi_list (pe_meth (pv 0) WK.cl tWeb_ties_from OWeb_ties_from (hr.mono (by decide)) bWeb_ties_from .nil pass0 (pa_cons (pv 8) pa_nil))) (pg_name (i := 9) scway.nd rfl (by first | exact Or.inl rfl | exact Or.inr rfl))
    (pss_cons (ps_set (i := 10) scway.nd rfl (by first | exact Or.inl rfl | exact Or.inr rfl) (pe_ix ix_tup (pe_ix ix_list (pv 4) (pv 9) (fun _ _ => rfl)) pe_int (fun _ _ => rfl)))
  (pss_one (ps_if (PW.pt (pw_and (pt_cmpR op_notIn_seq (pv 9) (pv 3) (by rfl)) (pw_and1 (pt_cmp (pc_dnotin (hu_of hr) (pv 10) (pv 5))))))
    (pss_cons (ps_dput (hu_of hr) (pv 5) (pv 10) (pv 9) rfl)
  (pss_one (ps_expr (pe_bm PySem.F.plainAttrs_list PySem.F.slot_list_append PySem.F.type_list_append mt_append (pv 6) (pa_cons (pv 10) pa_nil))))) pss_nil))))))))
  (pss_one (ps_ret (pe_ifExp (pt_cmp (pc_din (hu_of hr) (pv 2) (pv 5))) (pe_call O_walk_back (hr.mono (by decide)) rfl m_walk_back k_walk_back b_walk_back .nil pass0 (pa_cons (pv 4) (pa_cons (pv 5) (pa_cons (pv 1) (pa_cons (pv 2) pa_nil))))) pe_non)))))))))))), ?_⟩
  have hN := ho.n1
  have hm := ho.m
  refine ⟨_, rfl, a, N, ts, rfl, hw, _, rfl, _, rfl, a, N, ts, near, rfl, hw, hn, _, rfl, _, rfl, a, N, ts, far, rfl, hw, hfar, _, rfl, _, rfl, a, N, ts, s, W, rfl, hw, hs, hW, fun H1 hS1 => ?_⟩
  obtain ⟨dx, tl0, fl, ol, h1, _⟩ := id (hw.same hS1)
  refine ⟨_, rfl, a, dx, _, rfl, h1, wf_no _ _ _ _ (by decide +kernel) (by decide +kernel) (by decide +kernel) (by decide +kernel), a, N, ts, rfl, hw.same hS1, fun H2 tl ntl hS2 ht2 => ?_⟩
  have hS02 := hS1.trans hS2
  intro d nd
  refine ⟨_, rfl, (by show 1 ≤ sizeLine; decide), fun ll nll => ?_⟩
  have ndl : ll ≠ d := fun z => by rw [z, upd_same] at nll; cases nll
  have nll2 : H2 ll = none := by rw [upd_ne ndl] at nll; exact nll
  have hw2 := (hw.same hS1).same hS2
  have hs2 := (hs.same hS1).same hS2
  let Pv : Nat → L2.St → Hp → Prop := fun m σ H' => ∃ (v8 v9 v10 : Option V) (n : Nat) (L T ds : List Nat), σ = [some (.ref a), some (.int (near : Int)), some (.int (far : Int)), some (.ref s), some (.ref tl), some (.ref d), some (.ref ll), some (.int (n : Int)), v8, v9, v10] ∧ Same H2 H' ∧ H' d = some (.dK (dP (zT L T))) ∧ H' ll = some (.lst (iv L)) ∧ Bfs ts W near L T ds ∧ Done ts W n L ds ∧ (∀ x ∈ L, x < N) ∧ n + m = 100 ∧
    (∀ j, L[j + 1]? = some far → ∃ D, ds[j + 1]? = some D ∧ Few (Edge ts W) near far D)
  refine ⟨Pv, ⟨100, none, none, none, 0, [near], [], [0], rfl, same_upd (same_new nd _) nll2, by rw [upd_ne ndl.symm]; exact upd_same, upd_same, (bfs_start ts W near).1, (bfs_start ts W near).2, fun x hx => by rw [List.mem_singleton.mp hx]; exact hn, rfl, fun j h => by simp at h⟩, ?_⟩
  rintro m σ H3 ⟨v8, v9, v10, n, L, T, ds, rfl, hS3, hd3, hl3, hB, hD, hlt, hnm, hfew⟩
  have hLl := bfs_len hB hlt
  have l1 := hB.l1
  refine ⟨_, rfl, _, rfl, ll, _, rfl, .inl (SqL.of hl3), _, _, rfl, rfl, _, rfl, ?_⟩
  by_cases c2 : far ∈ L.drop 1
  · obtain ⟨j, hj⟩ := get_drop.mp c2
    obtain ⟨D1, hD1, hF1⟩ := hfew j hj
    have hD1le := ds_le hB _ _ hD1
    have hjl := (List.getElem?_eq_some_iff.mp hj).1
    have hin : far ∈ (zT L T).map Prod.fst := by rw [zT_fst l1]; exact c2
    by_cases c1 : n < L.length
    case' pos =>
      refine iteYes (by rw [List.length_map]; omega) ⟨_, rfl, _, rfl, d, _, rfl, DGet.k (k := Sum.inl (far : Int)) hd3, _, rfl, ?_⟩
      rw [dP_isSome]
      refine iteNot' hin ?_
    case' neg => refine iteNo (by rw [List.length_map]; omega) (iteF ?_)
    all_goals
      refine ⟨_, rfl, _, rfl, d, _, rfl, DGet.k (k := Sum.inl (far : Int)) hd3, _, rfl, ?_⟩
      rw [dP_isSome]
      refine iteYes hin ⟨_, rfl, _, rfl, _, rfl, _, rfl, tl, d, near, far, ts, W, L, T, ds, j, D1, rfl, ht2.same hS3, hd3, hB, hj, hD1, by omega, fun H4 l p nl hS4 hl hP hlen => q1 H4 l p (hS02.free (hS3.free nl)) (fun b o e => hS4 _ _ (hS3 _ _ (hS02 _ _ e))) hl hP (by rw [hlen]; exact hF1) (by omega)⟩
  by_cases c1 : n < L.length
  · refine iteYes (by rw [List.length_map]; omega) ⟨_, rfl, _, rfl, d, _, rfl, DGet.k (k := Sum.inl (far : Int)) hd3, _, rfl, ?_⟩
    have hin : far ∉ (zT L T).map Prod.fst := by rw [zT_fst l1]; exact c2
    rw [dP_isSome]
    refine iteNot hin ⟨fun σ' H' => ∃ m', m' < m ∧ Pv m' σ' H', fun σ' H' h => h, ?_⟩
    obtain ⟨here, eh⟩ : ∃ x, L[n]? = some x := ⟨L[n], List.getElem?_eq_getElem _⟩
    obtain ⟨x0, ex0⟩ : ∃ x, ds[n]? = some x := ⟨ds[n]'(by rw [hB.l2]; exact c1), List.getElem?_eq_getElem _⟩
    have hhere := hlt _ (List.mem_of_getElem? eh)
    refine ⟨_, rfl, _, rfl, _, _, _, .int (here : Int), rfl, rfl, SqL.of hl3, iv_at eh, ?_⟩
    refine ⟨_, rfl, _, _, rfl, rfl, ?_⟩
    have hw3 := hw2.same hS3
    obtain ⟨dx, tl0, fl, ol, h1, _⟩ := id hw3
    refine ⟨_, rfl, a, dx, _, rfl, h1, wf_no _ _ _ _ (by decide +kernel) (by decide +kernel) (by decide +kernel) (by decide +kernel), _, rfl, a, N, ts, here, rfl, hw3, hhere, fun H4 fr nfr hS4 hfr => ?_⟩
    have nfd : fr ≠ d := fun z => by rw [z, hd3] at nfr; cases nfr
    have nfl : fr ≠ ll := fun z => by rw [z, hl3] at nfr; cases nfr
    refine ⟨fr, rfl, ⟨_, SqL.of hfr⟩, ?_⟩
    refine for_list (K := K) (a := fr) (xs := iv (frm ts here)) (fun k σ H' => ∃ (v9 v10 : Option V) (L' T' ds' : List Nat), σ = [some (.ref a), some (.int (near : Int)), some (.int (far : Int)), some (.ref s), some (.ref tl), some (.ref d), some (.ref ll), some (.int ((n + 1 : Nat) : Int)), some (.int (here : Int)), v9, v10] ∧ Same H2 H' ∧ H' d = some (.dK (dP (zT L' T'))) ∧ H' ll = some (.lst (iv L')) ∧ H' fr = some (.lst (iv (frm ts here))) ∧
      Mid ts W near n here (fun v => ∃ i ∈ (frm ts here).take k, ts[i]? = some (here, v) ∧ i ∉ W) L' T' ds' ∧ (∀ x ∈ L', x < N) ∧ ds'[n]? = ds[n]?) ?_ ?_ ?_ ?_
    · exact ⟨v9, v10, L, T, ds, rfl, fun b o e => hS4 _ _ (hS3 _ _ e), hS4 _ _ hd3, hS4 _ _ hl3, hfr, mid_old (mid_start hB hD eh) (fun w hw => by obtain ⟨i, hi, _⟩ := hw; simp at hi), hlt, rfl⟩
    · rintro k σ H' hk ⟨_, _, _, _, _, rfl, _, _, _, hfr', _⟩
      exact SqL.of hfr'
    · rintro k y σ H5 hy ⟨w9, w10, L', T', ds', rfl, hS5, hd5, hl5, hfr5, hM, hlt', hds⟩
      rw [List.getElem?_map] at hy
      obtain ⟨t, et, rfl⟩ : ∃ t, (frm ts here)[k]? = some t ∧ y = V.int (t : Int) := by
        cases e : (frm ts here)[k]? with
        | none => rw [e] at hy; cases hy
        | some v => rw [e] at hy; exact ⟨v, rfl, (Option.some.inj hy).symm⟩
      obtain ⟨v, hv⟩ := frm_mem.mp (List.mem_of_getElem? et)
      have hvN : v < N := (ho.ok _ (List.mem_of_getElem? hv)).2
      have htk : (frm ts here).take (k + 1) = (frm ts here).take k ++ [t] := by rw [List.take_succ, et]; rfl
      have split : ∀ w : Nat, (∃ i ∈ (frm ts here).take (k + 1), ts[i]? = some (here, w) ∧ i ∉ W) → (∃ i ∈ (frm ts here).take k, ts[i]? = some (here, w) ∧ i ∉ W) ∨ (w = v ∧ t ∉ W) := by
        rintro w ⟨i, hi, e1, e2⟩
        rw [htk] at hi
        rcases List.mem_append.mp hi with h | h
        · exact .inl ⟨i, h, e1, e2⟩
        · rw [List.mem_singleton.mp h] at e1 e2
          rw [hv] at e1
          have := Option.some.inj e1
          exact .inr ⟨(congrArg Prod.snd this).symm, e2⟩
      obtain ⟨tas, tp, g1, g2, g3⟩ := ties_at (K := K) (ht2.same hS5) hv
      have l1' := hM.b.l1
      refine ⟨_, rfl, _, rfl, _, _, _, _, rfl, rfl, g1, g2, _, _, _, .int (v : Int), rfl, rfl, g3, rfl, ?_⟩
      refine ⟨_, rfl, _, rfl, s, _, rfl, (hs2.same hS5).seq, rfl, flat_iv _, _, rfl, ?_⟩
      rw [inV_iv]
      by_cases cW : t ∈ W
      · refine iteNot' cW (iteF ⟨_, _, L', T', ds', rfl, hS5, hd5, hl5, hfr5, mid_old hM (fun w hw => ?_), hlt', hds⟩)
        rcases split w hw with h | h
        · exact .inl h
        · exact absurd cW h.2
      refine iteNot cW ⟨_, rfl, _, rfl, d, _, rfl, DGet.k (k := Sum.inl (v : Int)) hd5, _, rfl, ?_⟩
      rw [dP_isSome]
      by_cases cv : v ∈ L'.drop 1
      · refine iteNot' (by rw [zT_fst l1']; exact cv) ⟨_, _, L', T', ds', rfl, hS5, hd5, hl5, hfr5, mid_old hM (fun w hw => ?_), hlt', hds⟩
        rcases split w hw with h | h
        · exact .inl h
        · rw [h.1]; exact .inr cv
      have cv2 : v ∉ (zT L' T').map Prod.fst := by rw [zT_fst l1']; exact cv
      refine iteNot cv2 ?_
      have hLl' := bfs_len hM.b hlt'
      refine ⟨_, rfl, _, rfl, _, rfl, d, _, rfl, DPut.k (k := Sum.inl (v : Int)) hd5 (by rw [dP_len, zT_len l1']; exact Nat.lt_of_le_of_lt (by omega : T'.length ≤ 100) (by decide)), ?_⟩
      rw [dP_new _ cv2, ← zT_snoc l1']
      have hl6 : upd H5 d (.dK (dP (zT (L' ++ [v]) (T' ++ [t])))) ll = some (.lst (iv L')) := by rw [upd_ne ndl]; exact hl5
      refine ⟨_, rfl, .inl ⟨rfl, _, SqL.of hl6⟩, _, rfl, ll, _, _, rfl, rfl, hl6, by rw [List.length_map]; exact Nat.lt_of_le_of_lt (by omega : L'.length ≤ 100) (by decide), ?_⟩
      have hx5 : ds'[n]? = some x0 := by rw [hds]; exact ex0
      refine ⟨_, _, L' ++ [v], T' ++ [t], ds' ++ [x0 + 1], rfl, same_upd (same_upd hS5 nd) nll2, ?_, ?_, ?_, mid_new hM hv cW cv hx5 (fun w hw => ?_), fun x hx => ?_, ?_⟩
      · rw [upd_ne ndl.symm, upd_same]
      · rw [upd_same, iv_app]
      · rw [upd_ne nfl, upd_ne nfd]
        exact hfr5
      · rcases split w hw with h | h
        · exact .inl h
        · exact .inr h.1
      · rcases List.mem_append.mp hx with h | h
        · exact hlt' x h
        · rw [List.mem_singleton.mp h]; exact hvN
      · rw [get_snoc _ hx5, ex0]
    · rintro σ H5 ⟨w9, w10, L', T', ds', rfl, hS5, hd5, hl5, hfr5, hM, hlt', hds⟩
      have hfin := mid_done hM (fun v he => by
        obtain ⟨i, e1, e2⟩ := he
        refine ⟨i, ?_, e1, e2⟩
        rw [List.length_map, List.take_length]
        exact frm_mem.mpr ⟨v, e1⟩)
      refine ⟨m - 1, by omega, _, _, _, n + 1, L', T', ds', rfl, hS5, hd5, hl5, hfin.1, hfin.2, hlt', by omega, fun j hj => ?_⟩
      have hl := (List.getElem?_eq_some_iff.mp hj).1
      have e2 : ds'[j + 1]? = some (ds'[j + 1]'(by rw [hM.b.l2]; exact hl)) := List.getElem?_eq_getElem _
      exact ⟨_, e2, bfs_few hB hD c1 c2 hM hds.symm hj e2⟩
  · refine iteNo (by rw [List.length_map]; omega) (iteF ?_)
    refine ⟨_, rfl, _, rfl, d, _, rfl, DGet.k (k := Sum.inl (far : Int)) hd3, _, rfl, ?_⟩
    rw [dP_isSome]
    exact iteNo (by rw [zT_fst l1]; exact c2) (q2 _ (fun b o e => hS3 _ _ (hS02 _ _ e)) (bfs_none hB hD c1 c2))
end
end My
set_option maxHeartbeats 4000000
namespace My
open PySem L2 PyProof.Rows
/-- a road from where the tie l begins to where the tie f leads, by neither -/
def RoadBt (ts : List (Nat × Nat)) (f l : Nat) (R : List Nat) : Prop := ∃ e g, ts[l]? = some e ∧ ts[f]? = some g ∧ PathT ts e.1 g.2 R ∧ 0 < R.length ∧ ∀ x ∈ R, x ∉ [f, l]
theorem pth_path {ts : List (Nat × Nat)} {W : List Nat} {u v : Nat} {p : List Nat} (h : Pth ts W u p v) : PathT ts u v p ∧ 0 < p.length ∧ ∀ x ∈ p, x ∉ W := by
  induction h with
  | one h n => exact ⟨PathT.one h, Nat.one_pos, fun x hx => by rw [List.mem_singleton.mp hx]; exact n⟩
  | cons h n _ ih =>
    obtain ⟨i1, i2, i3⟩ := ih
    refine ⟨⟨_, h, i1⟩, Nat.succ_pos _, fun x hx => ?_⟩
    rcases List.mem_cons.mp hx with e | e
    · rw [e]; exact n
    · exact i3 x e
theorem path_wk {ts : List (Nat × Nat)} {W : List Nat} {v : Nat} : ∀ {p : List Nat} {u : Nat}, PathT ts u v p → (∀ x ∈ p, x ∉ W) → Wk (Edge ts W) p.length u v
  | [], u, h, _ => by
    cases h
    exact .nil _
  | x :: r, u, ⟨w, h1, h2⟩, hn => by
    have h3 := path_wk (p := r) h2 fun y hy => hn y (List.mem_cons_of_mem _ hy)
    have h4 : Wk (Edge ts W) 1 u w := .snoc (.nil u) ⟨x, h1, hn x List.mem_cons_self⟩
    have := wk_append h4 h3
    rw [List.length_cons, Nat.add_comm]
    exact this
theorem chain_path {ts : List (Nat × Nat)} : ∀ {R : List Nat} {x y : Nat} {e f : Nat × Nat}, Chain ts R → R[0]? = some x → R[R.length - 1]? = some y → ts[x]? = some e → ts[y]? = some f → PathT ts e.1 f.2 R
  | [], _, _, _, _, _, h, _, _, _ => by cases h
  | [z], x, y, e, f, _, h1, h2, h3, h4 => by
    cases h1
    cases h2
    rw [h3] at h4
    cases h4
    exact ⟨e.2, h3, rfl⟩
  | z :: z2 :: r, x, y, e, f, hc, h1, h2, h3, h4 => by
    cases h1
    obtain ⟨a, b, e1, e2, s1, s2, s3, s4, s5⟩ := hc.on 0 (by rw [List.length_cons, List.length_cons]; omega)
    cases s1
    cases s2
    rw [h3] at s3
    cases s3
    have hc2 : Chain ts (z2 :: r) := ⟨Nat.succ_pos _, fun x hx => hc.num x (List.mem_cons_of_mem _ hx), fun i hi => by
      obtain ⟨a, b, e1, e2, q⟩ := hc.on (i + 1) (by rw [List.length_cons]; omega)
      exact ⟨a, b, e1, e2, q⟩⟩
    have := chain_path (R := z2 :: r) hc2 rfl (by rw [← h2]; show (z2 :: r)[(z2 :: r).length - 1]? = (z :: z2 :: r)[(z2 :: r).length + 1 - 1]?; rw [List.length_cons, Nat.add_sub_cancel, Nat.add_sub_cancel, List.getElem?_cons_succ]) s4 h4
    exact ⟨e.2, h3, by rw [← s5]; exact this⟩
theorem RoadAt.bt {ts : List (Nat × Nat)} {W R : List Nat} {i j f l : Nat} (h : RoadAt ts W i j R) (hf : W[i - 1]? = some f) (hl : W[j]? = some l) : RoadBt ts f l R := by
  obtain ⟨x, y, wj, wi, e, f', g, h', s1, s2, s3, s4, s5, s6, s7, s8, s9, s10⟩ := h.ends
  rw [hl] at s3
  cases s3
  rw [hf] at s4
  cases s4
  refine ⟨g, h', s7, s8, ?_, h.ch.n0, fun x hx z => ?_⟩
  · rw [← s9, ← s10]
    exact chain_path h.ch s1 s2 s5 s6
  · rcases List.mem_cons.mp z with e | e
    · exact h.ni f hf (e ▸ hx)
    · exact h.nj l hl ((List.mem_singleton.mp e) ▸ hx)
theorem RoadBt.at_ {ts : List (Nat × Nat)} {W R : List Nat} {i j f l : Nat} (hW : Chain ts W) (h1 : 1 ≤ i) (h2 : i ≤ j) (h3 : j < W.length) (hf : W[i - 1]? = some f) (hl : W[j]? = some l) (h : RoadBt ts f l R) : RoadAt ts W i j R := by
  obtain ⟨e, g, q1, q2, q3, q4, q5⟩ := h
  obtain ⟨wi, eh, i1, i2⟩ := ends_get hW.num (i := i) (by omega)
  obtain ⟨x', y', e', f', s1, s2, s3, s4, s5⟩ := hW.on (i - 1) (by omega)
  rw [show i - 1 + 1 = i by omega, i1] at s2
  cases s2
  rw [hf] at s1
  cases s1
  rw [i2] at s4
  cases s4
  rw [q2] at s3
  cases s3
  refine road_of hW h1 h2 h3 hl i1 hf q1 i2 (by rw [s5]; exact q3) q4 fun x hx z => q5 x hx ?_
  rcases List.mem_cons.mp z with e | e
  · rw [e]; exact List.mem_cons_of_mem _ (List.mem_singleton.mpr rfl)
  · rw [List.mem_singleton.mp e]; exact List.mem_cons_self
section
variable {P : Program} {w : World} {K : PySem.W.Frag} {mg : Str → Option Value} {base : Heap} {C : Addr}
def sproad_between (_ : PySem.W.Frag) (C : Addr) : Sp := fun vs H Q _ => ∃ a N ts f l, vs = [.ref a, .int ((f : Nat) : Int), .int ((l : Nat) : Int)] ∧ WebAt C a N ts H ∧ OkWeb N ts ∧ f < ts.length ∧ l < ts.length ∧
  (∀ H' p R, H p = none → Same H H' → H' p = some (.lst (iv R)) → RoadBt ts f l R → R.length ≤ 100 → Q (.ref p) H') ∧ ∀ H', Same H H' → (¬ ∃ R, RoadBt ts f l R) → Q .non H'
theorem okroad_between (D : Def K mg "road_between" sroad_between ["web", "first", "last"]) (B : Bs mg) (Glb : Glo mg) (WK : WebK K mg C)
    (hway : Good P w K mg base "way" sway ["web", "near", "far", "without"] 7 (spway K C))
    (hWeb_ties : GoodM P w K mg base C "ties" "Web.ties" sWeb_ties ["self"] 1 (spWeb_ties K C)) :
    Good P w K mg base "road_between" sroad_between ["web", "first", "last"] 8 (sproad_between K C) := by
  refine D.good fun f fd F => ?_
  obtain ⟨fway, dway, Oway, mway, kway, bway, Fway⟩ := hway
  obtain ⟨fWeb_ties, dWeb_ties, OWeb_ties, tWeb_ties, bWeb_ties, FWeb_ties⟩ := hWeb_ties
  refine F.ok scroad_between (fun vs H Q E h => ?_) (fun cdv A outer s H vs Q E hr h => ?_)
  · obtain ⟨a, N, ts, f0, l0, rfl, hw, ho, hf, hl, q1, q2⟩ := h
    first | rfl | (rcases h with ⟨_, _, rfl, _⟩ | ⟨_, rfl, _⟩ <;> rfl)
  obtain ⟨a, N, ts, f0, l0, rfl, hw, ho, hf, hl, q1, q2⟩ := h
  refine ⟨_, (pss_cons (ps_set (i := 3) scroad_between.nd rfl (by first | exact Or.inl rfl | exact Or.inr rfl) (pe_meth0 (pv 0) WK.cl tWeb_ties OWeb_ties (hr.mono (by decide)) bWeb_ties .nil pass0))
  (pss_one (ps_ret (pe_call Oway hr rfl mway kway bway .nil pass0 (pa_cons (pv 0) (pa_cons (pe_ix ix_tup (pe_ix ix_list (pv 3) (pv 2) (fun _ _ => rfl)) pe_int (fun _ _ => rfl)) (pa_cons (pe_ix ix_tup (pe_ix ix_list (pv 3) (pv 1) (fun _ _ => rfl)) pe_int (fun _ _ => rfl)) (pa_cons (pe_lst (pa_cons (pv 1) (pa_cons (pv 2) pa_nil))) pa_nil)))))))), ?_⟩
  have e1 : ts[l0]? = some ts[l0] := List.getElem?_eq_getElem hl
  have e2 : ts[f0]? = some ts[f0] := List.getElem?_eq_getElem hf
  generalize ts[l0] = el at e1
  generalize ts[f0] = ef at e2
  have b1 := ho.ok _ (List.mem_of_getElem? e1)
  have b2 := ho.ok _ (List.mem_of_getElem? e2)
  obtain ⟨dx, tl, fl, ol, g1, _⟩ := id hw
  refine ⟨_, rfl, a, dx, _, rfl, g1, (by rfl), a, N, ts, rfl, hw, fun H1 l nl hS1 hT => ?_⟩
  obtain ⟨xs, p, k1, k2, k3⟩ := hT.at_ e1
  obtain ⟨xs', p', k1', k2', k3'⟩ := hT.at_ e2
  refine ⟨_, rfl, _, rfl, _, rfl, _, _, _, .ref p, rfl, rfl, SqL.of k1, k2, _, _, _, .int (el.1 : Int), rfl, rfl, SqT.of k3, rfl, ?_⟩
  refine ⟨_, rfl, _, rfl, _, _, _, .ref p', rfl, rfl, SqL.of k1', k2', _, _, _, .int (ef.2 : Int), rfl, rfl, SqT.of k3', rfl, ?_⟩
  refine ⟨_, rfl, _, rfl, (by show 2 ≤ sizeLine; decide), fun b nb => ?_⟩
  have hS2 := hS1.trans (same_new nb (.lst [V.int (f0 : Int), V.int (l0 : Int)]))
  refine ⟨a, N, ts, el.1, ef.2, b, [f0, l0], rfl, hw.same hS2, ho, b1.1, b2.2, .inl upd_same, fun x hx => ?_, fun H3 q p3 nq hS3 hq hpth _ hpl => ?_, fun H3 hS3 hno => ?_⟩
  · rcases List.mem_cons.mp hx with e | e
    · rw [e]; exact hf
    · rw [List.mem_singleton.mp e]; exact hl
  · obtain ⟨c1, c2, c3⟩ := pth_path hpth
    exact q1 H3 q p3 (hS2.free nq) (hS2.trans hS3) hq ⟨el, ef, e1, e2, c1, c2, c3⟩ hpl
  · refine q2 H3 (hS2.trans hS3) fun ⟨R, e, g, r1, r2, r3, r4, r5⟩ => ?_
    rw [e1] at r1
    cases r1
    rw [e2] at r2
    cases r2
    exact hno R.length r4 (path_wk r3 r5)
def sproad_around (_ : PySem.W.Frag) (C : Addr) : Sp := fun vs H Q _ => ∃ a N ts s W, vs = [.ref a, .ref s] ∧ WebAt C a N ts H ∧ OkWeb N ts ∧ closedB N ts = true ∧ SeqAt H s W ∧ Chain ts W ∧ W.length ≤ 20 ∧
  (∀ H', Same H H' → ¬ HasRoad ts W → Q .non H') ∧ ∀ p i j r R H', Same H H' → H p = none → H' p = some (.tup [.int ((i : Nat) : Int), .int ((j : Nat) : Int), .ref r]) → H r = none → H' r = some (.lst (iv R)) → RoadAt ts W i j R → R.length ≤ 100 → Q (.ref p) H'
theorem okroad_around (D : Def K mg "road_around" sroad_around ["web", "walk"]) (B : Bs mg) (Glb : Glo mg) (WK : WebK K mg C)
    (hneed_walk_of_close : Good P w K mg base "need_walk_of_close" sneed_walk_of_close ["web", "walk"] 8 (spneed_walk_of_close K C))
    (hroad_between : Good P w K mg base "road_between" sroad_between ["web", "first", "last"] 8 (sproad_between K C)) :
    Good P w K mg base "road_around" sroad_around ["web", "walk"] 9 (sproad_around K C) := by
  refine D.good fun f fd F => ?_
  obtain ⟨fneed_walk_of_close, dneed_walk_of_close, Oneed_walk_of_close, mneed_walk_of_close, kneed_walk_of_close, bneed_walk_of_close, Fneed_walk_of_close⟩ := hneed_walk_of_close
  obtain ⟨froad_between, droad_between, Oroad_between, mroad_between, kroad_between, broad_between, Froad_between⟩ := hroad_between
  refine F.ok scroad_around (fun vs H Q E h => ?_) (fun cdv A outer s H vs Q E hr h => ?_)
  · obtain ⟨a, N, ts, s, W, rfl, hw, ho, hcl, hs, hW, hWl, q1, q2⟩ := h
    first | rfl | (rcases h with ⟨_, _, rfl, _⟩ | ⟨_, rfl, _⟩ <;> rfl)
  obtain ⟨a, N, ts, s, W, rfl, hw, ho, hcl, hs, hW, hWl, q1, q2⟩ := h
  refine ⟨_, (pss_cons (ps_expr (pe_call Oneed_walk_of_close hr rfl mneed_walk_of_close kneed_walk_of_close bneed_walk_of_close .nil pass0 (pa_cons (pv 0) (pa_cons (pv 1) pa_nil))))
  (pss_cons (ps_set (i := 2) scroad_around.nd rfl (by first | exact Or.inl rfl | exact Or.inr rfl) pe_dnewT)
  (pss_cons (ps_for PassesOwn.never rfl (pi_range2 (by rfl) B.range (pa_cons pe_int (pa_cons (pe_callB call_len_seq (by rfl) B.len (by decide +kernel) (pa_cons (pv 1) pa_nil)) pa_nil))) (pg_name (i := 3) scroad_around.nd rfl (by first | exact Or.inl rfl | exact Or.inr rfl))
    (pss_one (ps_for PassesOwn.never rfl (pi_range2 (by rfl) B.range (pa_cons pe_int (pa_cons (pe_op op_add (pv 3) pe_int) pa_nil))) (pg_name (i := 4) scroad_around.nd rfl (by first | exact Or.inl rfl | exact Or.inr rfl))
    (pss_cons (ps_set (i := 5) scroad_around.nd rfl (by first | exact Or.inl rfl | exact Or.inr rfl) (pe_tup (pa_cons (pe_ix ix_seq (pv 1) (pe_op op_sub (pv 4) pe_int) (fun _ _ => rfl)) (pa_cons (pe_ix ix_seq (pv 1) (pv 3) (fun _ _ => rfl)) pa_nil))))
  (pss_cons (ps_if (pt_cmp (pc_din (hu_of hr) (pv 5) (pv 2)))
    (pss_one ps_continue) pss_nil)
  (pss_cons (ps_dput (hu_of hr) (pv 2) (pv 5) pe_bl rfl)
  (pss_cons (ps_set (i := 6) scroad_around.nd rfl (by first | exact Or.inl rfl | exact Or.inr rfl) (pe_call Oroad_between hr rfl mroad_between kroad_between broad_between .nil pass0 (pa_cons (pv 0) (pa_cons (pe_ix ix_tup (pv 5) pe_int (fun _ _ => rfl)) (pa_cons (pe_ix ix_tup (pv 5) pe_int (fun _ _ => rfl)) pa_nil)))))
  (pss_one (ps_if (pt_cmpR op_notN (pv 6) pe_non (nomark _))
    (pss_one (ps_ret (pe_tup (pa_cons (pv 4) (pa_cons (pv 3) (pa_cons (pv 6) pa_nil)))))) pss_nil)))))))))
  (pss_one (ps_ret pe_non))))), ?_⟩
  refine ⟨_, rfl, _, rfl, a, N, ts, s, W, rfl, hw, ho, hcl, hs, hW, by omega, fun H1 hS1 => ?_⟩
  refine fun td ntd => ?_
  have hW0 := hW.n0
  have hWi : (iv W).length = W.length := List.length_map ..
  have hS2 := hS1.trans (same_new ntd (.dT []))
  have htd : upd H1 td (.dT []) td = some (.dT []) := upd_same
  have ntdH : H td = none := hS1.free ntd
  generalize upd H1 td (.dT []) = H2 at hS2 htd
  refine ⟨_, rfl, s, _, rfl, (hs.same hS2).imp SqL.of SqT.of, _, _, rfl, ⟨by omega, by omega, by rw [hWi]; omega, by rw [hWi]; omega⟩, ?_⟩
  rw [hWi, show ((W.length : Int) - 1).toNat = W.length - 1 by omega]
  refine for_range (lo := 1) (n := W.length - 1) (fun k σ H' => ∃ (kvs : List (List Key × V)) (v3 v4 v5 v6 : Option V), σ = [some (.ref a), some (.ref s), some (.ref td), v3, v4, v5, v6] ∧ Same H H' ∧ H' td = some (.dT kvs) ∧ kvs.length ≤ 20 * k ∧ (∀ x y : Nat, (valV kvs [.inl (x : Int), .inl (y : Int)]).isSome = true → ¬ ∃ R, RoadBt ts x y R) ∧ ∀ i j x y : Nat, 1 ≤ i → i ≤ j → j < 1 + k → W[i - 1]? = some x → W[j]? = some y → (valV kvs [.inl (x : Int), .inl (y : Int)]).isSome = true) ⟨[], none, none, none, none, rfl, hS2, htd, Nat.zero_le _, (fun x y h => by have h2 : (none : Option V).isSome = true := h; cases h2), fun i j x y h1 h2 h3 => by omega⟩ ?_ ?_
  · rintro k σ H3 hk ⟨kvs, v3, v4, v5, v6, rfl, hS3, htd3, hkl, hno, hdone⟩
    rw [show (1 : Int) + (k : Int) = ((k + 1 : Nat) : Int) by omega]
    generalize hj : k + 1 = j
    refine ⟨_, rfl, _, _, rfl, rfl, _, _, rfl, ⟨by omega, by omega, by omega, by omega⟩, ?_⟩
    rw [show ((j : Int) + 1 - 1).toNat = j by omega]
    refine for_range (lo := 1) (n := j) (fun m σ H' => ∃ (kvs : List (List Key × V)) (v4 v5 v6 : Option V), σ = [some (.ref a), some (.ref s), some (.ref td), some (.int (j : Int)), v4, v5, v6] ∧ Same H H' ∧ H' td = some (.dT kvs) ∧ kvs.length ≤ 20 * k + m ∧ (∀ x y : Nat, (valV kvs [.inl (x : Int), .inl (y : Int)]).isSome = true → ¬ ∃ R, RoadBt ts x y R) ∧ ∀ i j' x y : Nat, 1 ≤ i → i ≤ j' → (j' < j ∨ (j' = j ∧ i < 1 + m)) → W[i - 1]? = some x → W[j']? = some y → (valV kvs [.inl (x : Int), .inl (y : Int)]).isSome = true) ⟨kvs, v4, v5, v6, rfl, hS3, htd3, by omega, hno, fun i j' x y h1 h2 h3 => hdone i j' x y h1 h2 (by omega)⟩ ?_ ?_
    · rintro m σ H4 hm ⟨kvs, v4, v5, v6, rfl, hS4, htd4, hkl4, hno4, hdone4⟩
      rw [show (1 : Int) + (m : Int) = ((m + 1 : Nat) : Int) by omega]
      generalize hi : m + 1 = i
      obtain ⟨wx, ek, k1, k2⟩ := ends_get hW.num (i := i - 1) (by omega)
      obtain ⟨wy, eg, j1, j2⟩ := ends_get hW.num (i := j) (by omega)
      have hs4 := hs.same hS4
      have hwx := hW.num wx (List.mem_of_getElem? k1)
      have hwy := hW.num wy (List.mem_of_getElem? j1)
      refine ⟨_, rfl, _, rfl, _, _, rfl, rfl, hs4.ix (b := wx) (by rw [show ((i : Nat) : Int) - 1 = ((i - 1 : Nat) : Int) by omega]; exact iv_at k1) ?_⟩
      refine ⟨_, rfl, _, rfl, hs4.ix (iv_at j1) ⟨(by show 2 ≤ sizeLine; decide), fun en nen => ?_⟩⟩
      have hS5 := hS4.trans (same_new nen (.tup [V.int (wx : Int), V.int (wy : Int)]))
      have hen : upd H4 en (.tup [V.int (wx : Int), V.int (wy : Int)]) en = some (.tup (([.inl (wx : Int), .inl (wy : Int)] : List Key).map kV)) := upd_same
      have htd5 := same_new nen (.tup [V.int (wx : Int), V.int (wy : Int)]) _ _ htd4
      have hetd : en ≠ td := (ne_of_none htd4 nen).symm
      generalize upd H4 en (.tup [V.int (wx : Int), V.int (wy : Int)]) = H5 at hS5 hen htd5
      refine ⟨_, rfl, _, rfl, td, _, rfl, DGet.t htd5 hen, _, rfl, ?_⟩
      have nodup : ∀ i' j' x y : Nat, 1 ≤ i' → i' ≤ j' → (j' < j ∨ (j' = j ∧ i' < 1 + (m + 1))) → ¬ (j' < j ∨ (j' = j ∧ i' < 1 + m)) → W[i' - 1]? = some x → W[j']? = some y → x = wx ∧ y = wy := fun i' j' x y h1 h2 h3 h4 h5 h6 => by
        have e1 : j' = j := by omega
        have e2 : i' = i := by omega
        subst e1 e2
        rw [k1] at h5
        rw [j1] at h6
        exact ⟨(Option.some.inj h5).symm, (Option.some.inj h6).symm⟩
      cases hin : (valV kvs [.inl (wx : Int), .inl (wy : Int)]).isSome with
      | true =>
        refine iteT ⟨kvs, _, _, _, rfl, hS5, htd5, by omega, hno4, fun i' j' x y h1 h2 h3 h5 h6 => ?_⟩
        by_cases c : j' < j ∨ (j' = j ∧ i' < 1 + m)
        · exact hdone4 i' j' x y h1 h2 c h5 h6
        · obtain ⟨rfl, rfl⟩ := nodup i' j' x y h1 h2 (by omega) c h5 h6
          exact hin
      | false =>
        refine iteF ⟨_, rfl, _, rfl, td, _, rfl, DPut.t htd5 hen (sml1000 (by omega)), ?_⟩
        have hS6 := same_upd (o := .dT (putK kvs [.inl (wx : Int), .inl (wy : Int)] (V.bl true))) hS5 ntdH
        have htd6 : upd H5 td (.dT (putK kvs [.inl (wx : Int), .inl (wy : Int)] (V.bl true))) td = some (.dT (putK kvs [.inl (wx : Int), .inl (wy : Int)] (V.bl true))) := upd_same
        have hen6 : upd H5 td (.dT (putK kvs [.inl (wx : Int), .inl (wy : Int)] (V.bl true))) en = some (.tup [V.int (wx : Int), V.int (wy : Int)]) := by rw [upd_ne hetd]; exact hen
        generalize upd H5 td (.dT (putK kvs [.inl (wx : Int), .inl (wy : Int)] (V.bl true))) = H6 at hS6 htd6 hen6
        refine ⟨_, rfl, _, rfl, _, _, _, .int (wx : Int), rfl, rfl, SqT.of hen6, rfl, _, rfl, _, _, _, .int (wy : Int), rfl, rfl, SqT.of hen6, rfl, a, N, ts, wx, wy, rfl, hw.same hS6, ho, hwx, hwy, fun H7 r R nr hS7 hr' hroad hRl => ?_, fun H7 hS7 hnone => ?_⟩
        · refine ⟨_, rfl, rfl, _, rfl, iteNot (by intro z; cases z) ?_⟩
          refine ⟨_, rfl, _, rfl, _, rfl, (by show 3 ≤ sizeLine; decide), fun p np => ?_⟩
          have hS8 := (hS6.trans hS7).trans (same_new np (.tup [V.int (i : Int), V.int (j : Int), V.ref r]))
          exact q2 p i j r R _ hS8 ((hS6.trans hS7).free np) upd_same (hS6.free nr) (same_new np _ _ _ hr') (hroad.at_ hW (by omega) (by omega) (by omega) k1 j1) hRl
        · refine ⟨_, rfl, rfl, _, rfl, iteNot' rfl ?_⟩
          have hval : ∀ x y : Nat, valV (putK kvs [.inl (wx : Int), .inl (wy : Int)] (V.bl true)) [.inl (x : Int), .inl (y : Int)] = if x = wx ∧ y = wy then some (V.bl true) else valV kvs [.inl (x : Int), .inl (y : Int)] := fun x y => by
            rw [valV_put]
            by_cases c : x = wx ∧ y = wy
            · rw [if_pos c, if_pos (by rw [c.1, c.2])]
            · rw [if_neg c, if_neg fun z => c ?_]
              have z1 := (List.cons.inj z).1
              have z2 := (List.cons.inj (List.cons.inj z).2).1
              have z3 := Sum.inl.inj z1
              have z4 := Sum.inl.inj z2
              omega
          refine ⟨_, _, _, _, rfl, hS6.trans hS7, hS7 _ _ htd6, by have := length_putK kvs [.inl (wx : Int), .inl (wy : Int)] (V.bl true); omega, fun x y h => ?_, fun i' j' x y h1 h2 h3 h5 h6 => ?_⟩
          · rw [hval x y] at h
            by_cases c : x = wx ∧ y = wy
            · rw [c.1, c.2]; exact hnone
            · rw [if_neg c] at h
              exact hno4 x y h
          · rw [hval x y]
            by_cases c : j' < j ∨ (j' = j ∧ i' < 1 + m)
            · have := hdone4 i' j' x y h1 h2 c h5 h6
              split
              · rfl
              · exact this
            · obtain ⟨rfl, rfl⟩ := nodup i' j' x y h1 h2 (by omega) c h5 h6
              rw [if_pos ⟨rfl, rfl⟩]
              rfl
    · rintro σ H4 ⟨kvs, v4, v5, v6, rfl, hS4, htd4, hkl4, hno4, hdone4⟩
      exact ⟨kvs, _, _, _, _, rfl, hS4, htd4, by omega, hno4, fun i j' x y h1 h2 h3 => hdone4 i j' x y h1 h2 (by omega)⟩
  · rintro σ H3 ⟨kvs, v3, v4, v5, v6, rfl, hS3, htd3, hkl, hno, hdone⟩
    refine q1 H3 hS3 fun ⟨i, j, R, hr'⟩ => ?_
    have h1 := hr'.i1
    have h2 := hr'.ij
    have h3 := hr'.jl
    have e1 : W[i - 1]? = some (W[i - 1]'(by omega)) := List.getElem?_eq_getElem _
    have e2 : W[j]? = some (W[j]'h3) := List.getElem?_eq_getElem _
    exact hno _ _ (hdone i j _ _ h1 h2 (by omega) e1 e2) ⟨R, hr'.bt e1 e2⟩
def spis_sure (_ : PySem.W.Frag) (C : Addr) : Sp := fun vs H Q _ => ∃ a N ts s W, vs = [.ref a, .ref s] ∧ WebAt C a N ts H ∧ OkWeb N ts ∧ closedB N ts = true ∧ SeqAt H s W ∧ Chain ts W ∧ W.length ≤ 20 ∧ ∀ b H', Same H H' → (b = true ↔ ¬ HasRoad ts W) → Q (.bl b) H'
theorem okis_sure (D : Def K mg "is_sure" sis_sure ["web", "walk"]) (B : Bs mg) (Glb : Glo mg) (WK : WebK K mg C)
    (hroad_around : Good P w K mg base "road_around" sroad_around ["web", "walk"] 9 (sproad_around K C)) :
    Good P w K mg base "is_sure" sis_sure ["web", "walk"] 10 (spis_sure K C) := by
  refine D.good fun f fd F => ?_
  obtain ⟨froad_around, droad_around, Oroad_around, mroad_around, kroad_around, broad_around, Froad_around⟩ := hroad_around
  refine F.ok scis_sure (fun vs H Q E h => ?_) (fun cdv A outer s H vs Q E hr h => ?_)
  · obtain ⟨a, N, ts, s, W, rfl, hw, ho, hcl, hs, hW, hWl, q⟩ := h
    first | rfl | (rcases h with ⟨_, _, rfl, _⟩ | ⟨_, rfl, _⟩ <;> rfl)
  obtain ⟨a, N, ts, s, W, rfl, hw, ho, hcl, hs, hW, hWl, q⟩ := h
  refine ⟨_, (pss_one (ps_ret (pe_cmpR op_isN (pe_call Oroad_around hr rfl mroad_around kroad_around broad_around .nil pass0 (pa_cons (pv 0) (pa_cons (pv 1) pa_nil))) pe_non (nomark _)))), ?_⟩
  refine ⟨_, rfl, _, rfl, a, N, ts, s, W, rfl, hw, ho, hcl, hs, hW, hWl, fun H1 hS1 hno => ?_, fun p i j r R H1 hS1 np hp nr hr' hro hRl => ?_⟩
  · exact ⟨rfl, q true H1 hS1 ⟨fun _ => hno, fun _ => rfl⟩⟩
  · exact ⟨rfl, q false H1 hS1 ⟨(fun z => nomatch z), fun z => absurd ⟨i, j, R, hro⟩ z⟩⟩
end
end My
/-! set(s), s a list or a tuple of whole numbers -/
namespace My
open PySem PySem.Spec PyProof.Rows L2
section
variable {X : Cx}
def rSetSq (K : PySem.W.Frag) (w : World) : List V → Hp → VK → Prop := fun vs H Q => ∃ (l : Addr) (xs : List Int), vs = [V.ref l] ∧ (SqL K H l (xs.map V.int) ∨ SqT K H l (xs.map V.int)) ∧ xs.length ≤ 4000 ∧
  ∀ (p : Addr) (n : Nat), (∀ D : List Int, D.Nodup → (∀ k, k ∈ D ↔ k ∈ xs) → D.length = n) → n ≤ xs.length → H p = none → Q (.ref p) (upd H p (InO w p (inI xs) n))
theorem cr_setSq (calm : X.calm = true) : CallR X (.type "set") (rSetSq X.K X.w) := by
  intro pins s σ H vs us Q I r h
  obtain ⟨l, xs, e, hq, small, q⟩ := h
  rcases hq with hq | hq
  · subst e
    rw [Vals.ref1 r]
    obtain ⟨its, rv, pl, hz⟩ := I.list hq
    exact set_of_ints (I.ok.hd calm) pl.isList (by simpa using ints_of_vals rv) (by unfold scanBound; omega) fun h' tk m hle R keep =>
      ⟨.ref _, upd H s.heap.objs.size (InO X.w s.heap.objs.size (inI xs) m), I.laid (t' := tk) (fun b u e => keep b u (Heap.lt_size e) e) (Nat.le_refl _) (inO_new R), rfl, q _ m (ints_many R) hle (I.hok.fresh (Nat.le_refl _))⟩
  subst e
  rw [Vals.ref1 r]
  obtain ⟨its, rv, pl, hz⟩ := I.tuple hq
  refine call_set_tupI xs (I.ok.hd calm) pl (by simpa using ints_of_vals rv) (by unfold scanBound; omega) fun h' tk m R hle keep => ?_
  exact ⟨.ref _, upd H s.heap.objs.size (InO X.w s.heap.objs.size (inI xs) m), I.laid (t' := tk) (fun b u e => keep b u e) (Nat.le_refl _) (inO_new R), rfl, q _ m (ints_many R) hle (I.hok.fresh (Nat.le_refl _))⟩
theorem call_isiK {K : PySem.W.Frag} (h : X.K = K) : CallR X (.builtin "isinstance") (rIsi K) := h ▸ call_isi
end
end My
/-! sorted(set(s)) within a comprehension -/
namespace My
open PySem PySem.Spec PyProof.Rows L2
section
variable {X : Cx}
theorem cr_setInK {K : PySem.W.Frag} {w : World} (h : X.K = K) (hw : X.w = w) (calm : X.calm = true) : CallR X (.type "set") (rSetIn K w) := h ▸ hw ▸ cr_setIn calm
theorem cr_setSqK {K : PySem.W.Frag} {w : World} (h : X.K = K) (hw : X.w = w) (calm : X.calm = true) : CallR X (.type "set") (rSetSq K w) := h ▸ hw ▸ cr_setSq calm
theorem cr_sortInK {w : World} (hw : X.w = w) (calm : X.calm = true) : CallR X (.builtin "sorted") (rSortIn w) := hw ▸ cr_sortIn calm
theorem cr_allK {K : PySem.W.Frag} (h : X.K = K) (calm : X.calm = true) : CallR X (.builtin "all") (rAll K) := h ▸ cr_all calm
theorem cr_anyK {K : PySem.W.Frag} (h : X.K = K) (calm : X.calm = true) : CallR X (.builtin "any") (rAny K) := h ▸ cr_any calm
end
end My
set_option maxHeartbeats 4000000
namespace My
open PySem L2 PyProof.Rows
open Classical in
/-- whether it is so -/
noncomputable def isB (p : Prop) : Bool := decide p
open Classical in
theorem isB_iff {p : Prop} : isB p = true ↔ p := by
  unfold isB
  exact decide_eq_true_iff
theorem isB_eq {p q : Prop} (h : p ↔ q) : isB p = isB q := by rw [Bool.eq_iff_iff, isB_iff, isB_iff]; exact h
theorem bool_isB {b : Bool} {p : Prop} (h : b = true ↔ p) : b = isB p := by rw [Bool.eq_iff_iff, isB_iff]; exact h
theorem chain_snoc {ts : List (Nat × Nat)} {W : List Nat} {x t : Nat} {e g : Nat × Nat} (hW : Chain ts W) (h1 : W[W.length - 1]? = some x) (h2 : ts[x]? = some e) (h3 : ts[t]? = some g) (h4 : g.1 = e.2) : Chain ts (W ++ [t]) := by
  have h0 := hW.n0
  refine ⟨by rw [List.length_append]; omega, fun y hy => ?_, fun i hi => ?_⟩
  · rcases List.mem_append.mp hy with h | h
    · exact hW.num y h
    · rw [List.mem_singleton.mp h]; exact (List.getElem?_eq_some_iff.mp h3).1
  · rw [List.length_append, List.length_singleton] at hi
    by_cases c : i + 1 < W.length
    · obtain ⟨a, b, p, q, s1, s2, s3⟩ := hW.on i c
      exact ⟨a, b, p, q, by rw [List.getElem?_append_left (by omega)]; exact s1, by rw [List.getElem?_append_left c]; exact s2, s3⟩
    · have ei : i = W.length - 1 := by omega
      subst ei
      exact ⟨x, t, e, g, by rw [List.getElem?_append_left (by omega)]; exact h1, by rw [List.getElem?_append_right (by omega), show W.length - 1 + 1 - W.length = 0 by omega]; rfl, h2, h3, h4⟩
theorem chain_cons {ts : List (Nat × Nat)} {W : List Nat} {x t : Nat} {e g : Nat × Nat} (hW : Chain ts W) (h1 : W[0]? = some x) (h2 : ts[x]? = some e) (h3 : ts[t]? = some g) (h4 : e.1 = g.2) : Chain ts (t :: W) := by
  refine ⟨Nat.succ_pos _, fun y hy => ?_, fun i hi => ?_⟩
  · rcases List.mem_cons.mp hy with h | h
    · rw [h]; exact (List.getElem?_eq_some_iff.mp h3).1
    · exact hW.num y h
  · cases i with
    | zero => exact ⟨t, x, g, e, rfl, h1, h3, h2, h4⟩
    | succ i =>
      obtain ⟨a, b, p, q, s1, s2, s3⟩ := hW.on i (by rw [List.length_cons] at hi; omega)
      exact ⟨a, b, p, q, s1, s2, s3⟩
theorem sure_snoc {ts : List (Nat × Nat)} {W : List Nat} {t : Nat} (hW : Chain ts W) (hWt : Chain ts (W ++ [t])) (h : ¬ HasRoad ts W) : ¬ HasRoad ts (W ++ [t]) ↔ ∀ f ∈ W, ¬ ∃ R, RoadBt ts f t R := by
  have hl : (W ++ [t]).length = W.length + 1 := by rw [List.length_append]; rfl
  have hlast : (W ++ [t])[W.length]? = some t := by rw [List.getElem?_append_right (Nat.le_refl _), Nat.sub_self]; rfl
  constructor
  · rintro hn f hf ⟨R, hR⟩
    obtain ⟨p, hp⟩ := List.getElem?_of_mem hf
    have hpl := (List.getElem?_eq_some_iff.mp hp).1
    exact hn ⟨p + 1, W.length, R, hR.at_ hWt (by omega) (by omega) (by omega) (by rw [Nat.add_sub_cancel, List.getElem?_append_left hpl]; exact hp) hlast⟩
  · rintro hn ⟨i, j, R, hr⟩
    have h1 := hr.i1
    have h2 := hr.ij
    have h3 := hr.jl
    have e1 : W[i - 1]? = some (W[i - 1]'(by omega)) := List.getElem?_eq_getElem _
    have e1' : (W ++ [t])[i - 1]? = some (W[i - 1]'(by omega)) := by rw [List.getElem?_append_left (by omega)]; exact e1
    by_cases c : j < W.length
    · have e2 : W[j]? = some (W[j]'c) := List.getElem?_eq_getElem _
      have e2' : (W ++ [t])[j]? = some (W[j]'c) := by rw [List.getElem?_append_left c]; exact e2
      exact h ⟨i, j, R, (hr.bt e1' e2').at_ hW h1 h2 c e1 e2⟩
    · have ej : j = W.length := by omega
      subst ej
      exact hn _ (List.mem_of_getElem? e1) ⟨R, hr.bt e1' hlast⟩
theorem sure_cons {ts : List (Nat × Nat)} {W : List Nat} {t : Nat} (hW : Chain ts W) (hWt : Chain ts (t :: W)) (h : ¬ HasRoad ts W) : ¬ HasRoad ts (t :: W) ↔ ∀ l ∈ W, ¬ ∃ R, RoadBt ts t l R := by
  constructor
  · rintro hn l hl ⟨R, hR⟩
    obtain ⟨p, hp⟩ := List.getElem?_of_mem hl
    have hpl := (List.getElem?_eq_some_iff.mp hp).1
    exact hn ⟨1, p + 1, R, hR.at_ hWt (by omega) (by omega) (by rw [List.length_cons]; omega) rfl hp⟩
  · rintro hn ⟨i, j, R, hr⟩
    have h1 := hr.i1
    have h2 := hr.ij
    have h3 := hr.jl
    rw [List.length_cons] at h3
    obtain ⟨j', rfl⟩ : ∃ j', j = j' + 1 := ⟨j - 1, by omega⟩
    have e2 : W[j']? = some (W[j']'(by omega)) := List.getElem?_eq_getElem _
    have e2' : (t :: W)[j' + 1]? = some (W[j']'(by omega)) := by rw [List.getElem?_cons_succ]; exact e2
    by_cases c : i = 1
    · subst c
      exact hn _ (List.mem_of_getElem? e2) ⟨R, hr.bt rfl e2'⟩
    · obtain ⟨i', rfl⟩ : ∃ i', i = i' + 2 := ⟨i - 2, by omega⟩
      have e1 : W[i']? = some (W[i']'(by omega)) := List.getElem?_eq_getElem _
      have e1' : (t :: W)[i' + 2 - 1]? = some (W[i']'(by omega)) := by rw [show i' + 2 - 1 = i' + 1 by omega, List.getElem?_cons_succ]; exact e1
      exact h ⟨i' + 1, j', R, (hr.bt e1' e2').at_ hW (by omega) (by omega) (by omega) (by rw [Nat.add_sub_cancel]; exact e1) e2⟩
/-- whether no road goes around any of W and t -/
noncomputable def noB (ts : List (Nat × Nat)) (f l : Nat) : Bool := isB (¬ ∃ R, RoadBt ts f l R)
theorem take_filter {α : Type} {F : List α} {p : α → Bool} {i : Nat} {x : α} (h : F[i]? = some x) : (F.take (i + 1)).filter p = (F.take i).filter p ++ (if p x = true then [x] else []) := by
  rw [List.take_succ, h, List.filter_append]
  congr 1
  by_cases c : p x = true
  · rw [if_pos c]; simp [c]
  · rw [if_neg c]; simp [c]
section
variable {P : Program} {w : World} {K : PySem.W.Frag} {mg : Str → Option Value} {base : Heap} {C : Addr}
def spgoes_on (_ : PySem.W.Frag) (C : Addr) : Sp := fun vs H Q _ => ∃ a N ts s W x e, vs = [.ref a, .ref s] ∧ WebAt C a N ts H ∧ OkWeb N ts ∧ closedB N ts = true ∧ H s = some (.lst (iv W)) ∧ Chain ts W ∧ W.length ≤ 20 ∧ W[W.length - 1]? = some x ∧ ts[x]? = some e ∧
  ∀ p H', Same H H' → H p = none → H' p = some (.lst (iv ((frm ts e.2).filter fun t => isB (¬ HasRoad ts W ∧ ¬ HasRoad ts (W ++ [t]))))) → Q (.ref p) H'
theorem okgoes_on (D : Def K mg "goes_on" sgoes_on ["web", "walk"]) (B : Bs mg) (Glb : Glo mg) (WK : WebK K mg C)
    (his_sure : Good P w K mg base "is_sure" sis_sure ["web", "walk"] 10 (spis_sure K C))
    (hleads : Good P w K mg base "leads" sleads ["web", "walk"] 8 (spleads K C))
    (hroad_between : Good P w K mg base "road_between" sroad_between ["web", "first", "last"] 8 (sproad_between K C))
    (hWeb_ties_from : GoodM P w K mg base C "ties_from" "Web.ties_from" sWeb_ties_from ["self", "place"] 5 (spWeb_ties_from K C)) :
    Good P w K mg base "goes_on" sgoes_on ["web", "walk"] 11 (spgoes_on K C) := by
  refine D.good fun f fd F => ?_
  obtain ⟨fis_sure, dis_sure, Ois_sure, mis_sure, kis_sure, bis_sure, Fis_sure⟩ := his_sure
  obtain ⟨fleads, dleads, Oleads, mleads, kleads, bleads, Fleads⟩ := hleads
  obtain ⟨froad_between, droad_between, Oroad_between, mroad_between, kroad_between, broad_between, Froad_between⟩ := hroad_between
  obtain ⟨fWeb_ties_from, dWeb_ties_from, OWeb_ties_from, tWeb_ties_from, bWeb_ties_from, FWeb_ties_from⟩ := hWeb_ties_from
  refine F.ok scgoes_on (fun vs H Q E h => ?_) (fun cdv A outer s H vs Q E hr h => ?_)
  · obtain ⟨a, N, ts, s, W, x, e, rfl, hw, ho, hcl, hs, hW, hWl, hx, he, q⟩ := h
    first | rfl | (rcases h with ⟨_, _, rfl, _⟩ | ⟨_, rfl, _⟩ <;> rfl)
  obtain ⟨a, N, ts, s, W, x, e, rfl, hw, ho, hcl, hs, hW, hWl, hx, he, q⟩ := h
  refine ⟨_, (pss_cons (ps_if (pt_not (pt_val (pe_call Ois_sure hr rfl mis_sure kis_sure bis_sure .nil pass0 (pa_cons (pv 0) (pa_cons (pv 1) pa_nil)))))
    (pss_one (ps_ret (pe_lst pa_nil))) pss_nil)
  (pss_cons (ps_set (i := 2) scgoes_on.nd rfl (by first | exact Or.inl rfl | exact Or.inr rfl) (pe_meth (pv 0) WK.cl tWeb_ties_from OWeb_ties_from (hr.mono (by decide)) bWeb_ties_from .nil pass0 (pa_cons (pe_ix ix_tup (pe_call Oleads (hr.mono (by decide)) rfl mleads kleads bleads .nil pass0 (pa_cons (pv 0) (pa_cons (pv 1) pa_nil))) pe_int (fun _ _ => rfl)) pa_nil)))
  (pss_one (ps_ret (pe_lc (own := [("tie", 3)]) (g := gName 3) (by rfl) scgoes_on.nd (pi_list (pv 2)) (blkOk_by (own := [("tie", 3)]) (N := ["web", "walk", "onward", "tie", "first"]) (sc := defScope sgoes_on) (by decide +kernel)) (fun _ _ _ _ _ => (pg_name (i := 3) scgoes_on.nd rfl (by first | exact Or.inl rfl | exact Or.inr rfl))) (fun _ _ _ _ _ => (pts_one (pt_val (pe_callB (cr_allK (K := K) rfl rfl) (by rfl) B.all (by decide +kernel) (pa_cons (pe_lc (own := [("first", 4)]) (g := gName 4) (by rfl) scgoes_on.nd (pi_listK (K := K) rfl (pe_callB (cr_sortInK (w := w) rfl rfl) (by rfl) B.sorted (by decide +kernel) (pa_cons (pe_callTy (cr_setInK (K := K) (w := w) rfl rfl rfl) (by rfl) B.set (by decide +kernel) (pa_cons (pv 1) pa_nil)) pa_nil))) (blkOk_by (own := [("first", 4)]) (N := ["web", "walk", "onward", "tie", "first"]) (by rfl)) (fun _ _ _ _ _ => (pg_name (i := 4) scgoes_on.nd rfl (by first | exact Or.inl rfl | exact Or.inr rfl))) (fun _ _ _ _ _ => pts_nil) (fun _ _ _ _ _ => (pe_cmpR op_isN (pe_call Oroad_between (hr.mono (by decide)) rfl mroad_between kroad_between broad_between .nil pass0 (pa_cons (pv 0) (pa_cons (pv 4) (pa_cons (pv 3) pa_nil)))) pe_non (nomark _)))) pa_nil))))) (fun _ _ _ _ _ => (pv 3))))))), ?_⟩
  refine ⟨_, rfl, _, rfl, a, N, ts, s, W, rfl, hw, ho, hcl, .inl hs, hW, hWl, fun b H1 hS1 hb => ⟨_, rfl, ?_⟩⟩
  cases b with
  | false =>
    have hro : HasRoad ts W := Classical.byContradiction fun z => nomatch hb.mpr z
    refine iteT ⟨Nat.zero_le _, fun p np => q p _ (hS1.trans (same_new np _)) (hS1.free np) ?_⟩
    rw [upd_same]
    have : (frm ts e.2).filter (fun t => isB (¬ HasRoad ts W ∧ ¬ HasRoad ts (W ++ [t]))) = [] := List.filter_eq_nil_iff.mpr fun t _ z => (isB_iff.mp z).1 hro
    rw [this]
    rfl
  | true =>
    have hno := hb.mp rfl
    refine iteF ?_
    have hw1 := hw.same hS1
    obtain ⟨dx, tl, fl, ol, g1, _⟩ := id hw1
    have hs1 := hS1 _ _ hs
    obtain ⟨_, hmem2⟩ := ho.ok e (List.mem_of_getElem? he)
    refine ⟨_, rfl, a, dx, _, rfl, g1, (by rfl), _, rfl, _, rfl, a, N, ts, s, W, rfl, hw1, .inl hs1, hW, by omega, fun H2 t x0 y0 e0 f0 _ k2 _ k4 hS2 nt ht => ?_⟩
    rw [hx] at k2
    cases k2
    rw [he] at k4
    cases k4
    refine ⟨_, _, _, .int (e.2 : Int), rfl, rfl, SqT.of ht, rfl, a, N, ts, e.2, rfl, hw1.same hS2, hmem2, fun H3 l nl hS3 hl => ?_⟩
    have hS13 := hS2.trans hS3
    have hw3 := hw1.same hS13
    have hs3 := hS13 _ _ hs1
    have hS03 := hS1.trans hS13
    have hfl : ∀ x ∈ frm ts e.2, ∃ g, ts[x]? = some g ∧ g.1 = e.2 := fun x hx => by
      obtain ⟨v, hv⟩ := frm_mem.mp hx
      exact ⟨_, hv, rfl⟩
    have hflen : (frm ts e.2).length ≤ 80 := Nat.le_trans (frmN_len ts e.2 _) ho.m
    refine ⟨_, rfl, l, rfl, ⟨_, SqL.of hl⟩, fun D nD => ?_⟩
    refine lc_list (K := K) (a := l) (xs := iv (frm ts e.2)) (fun i H' => Same H3 H' ∧ H' D = some (.lst (iv (((frm ts e.2).take i).filter fun t => isB (∀ f ∈ W, ¬ ∃ R, RoadBt ts f t R))))) ⟨same_new nD _, upd_same⟩ (fun i H' _ ⟨hS', _⟩ => SqL.of (hS' _ _ hl)) ?_ ?_
    · rintro i y H4 hy ⟨hS4, hD4⟩
      obtain ⟨t, htj, rfl⟩ : ∃ t, (frm ts e.2)[i]? = some t ∧ y = V.int (t : Int) := by
        rw [iv, List.getElem?_map] at hy
        cases h : (frm ts e.2)[i]? with
        | none => rw [h] at hy; cases hy
        | some o => rw [h] at hy; exact ⟨o, rfl, (Option.some.inj hy).symm⟩
      obtain ⟨g, hg1, hg2⟩ := hfl t (List.mem_of_getElem? htj)
      have htl := (List.getElem?_eq_some_iff.mp hg1).1
      have hs4 := hS4 _ _ hs3
      have hs4z : H4 s = some (.lst ((W.map fun n : Nat => (n : Int)).map V.int)) := by rw [hs4, iv_iz]
      refine ⟨rfl, _, rfl, s, _, rfl, SqL.of hs4z, by rw [List.length_map]; omega, fun s1 n1 hn1 hle1 ns1 => ?_⟩
      rw [List.length_map] at hle1
      refine ⟨s1, _, n1, rfl, upd_same, by omega, fun M mp hM hMm hMl nmp => ?_⟩
      have hS5 := (same_new ns1 (InO w s1 (inI (W.map fun n : Nat => (n : Int))) n1)).trans (same_new nmp (.lst (M.map V.int)))
      have hM5 : upd (upd H4 s1 (InO w s1 (inI (W.map fun n : Nat => (n : Int))) n1)) mp (.lst (M.map V.int)) mp = some (.lst (M.map V.int)) := upd_same
      generalize upd (upd H4 s1 (InO w s1 (inI (W.map fun n : Nat => (n : Int))) n1)) mp (.lst (M.map V.int)) = H5 at hS5 hM5
      have hMW : ∀ k : Int, k ∈ M ↔ ∃ f ∈ W, k = ((f : Nat) : Int) := fun k => by
        rw [hMm]
        unfold inI
        rw [decide_eq_true_iff, List.mem_map]
        exact ⟨fun ⟨f, h1, h2⟩ => ⟨f, h1, h2.symm⟩, fun ⟨f, h1, h2⟩ => ⟨f, h1, h2.symm⟩⟩
      have hS45 := hS4.trans hS5
      have hD5 := hS5 _ _ hD4
      refine ⟨mp, rfl, ⟨_, SqL.of hM5⟩, fun D2 nD2 => ?_⟩
      refine lc_list (K := K) (a := mp) (xs := M.map V.int) (fun j H' => Same H5 H' ∧ H' D2 = some (.lst (((M.take j).map fun k => isB (¬ ∃ R, RoadBt ts k.toNat t R)).map V.bl))) ⟨same_new nD2 _, upd_same⟩ (fun j H' _ ⟨hS', _⟩ => SqL.of (hS' _ _ hM5)) ?_ ?_
      · rintro j y2 H6 hy2 ⟨hS6, hD6⟩
        obtain ⟨f, hfW, hfj, rfl⟩ : ∃ f, f ∈ W ∧ M[j]? = some ((f : Nat) : Int) ∧ y2 = V.int (f : Int) := by
          rw [List.getElem?_map] at hy2
          cases h : M[j]? with
          | none => rw [h] at hy2; cases hy2
          | some o =>
            rw [h] at hy2
            obtain ⟨f, h1, h2⟩ := (hMW o).mp (List.mem_of_getElem? h)
            exact ⟨f, h1, by rw [h2], by rw [← h2]; exact (Option.some.inj hy2).symm⟩
        have hjl := (List.getElem?_eq_some_iff.mp hfj).1
        have hacc : ∀ H7 b, Same H6 H7 → b = isB (¬ ∃ R, RoadBt ts f t R) → ∃ acc, H7 D2 = some (.lst acc) ∧ acc.length < sizeLine ∧ Same H5 (upd H7 D2 (.lst (acc ++ [V.bl b]))) ∧ (upd H7 D2 (.lst (acc ++ [V.bl b]))) D2 = some (.lst (((M.take (j + 1)).map fun k => isB (¬ ∃ R, RoadBt ts k.toNat t R)).map V.bl)) := fun H7 b hS7 hb => by
          refine ⟨_, hS7 _ _ hD6, ?_, same_upd (hS6.trans hS7) nD2, ?_⟩
          · rw [List.length_map, List.length_map, List.length_take]
            exact Nat.lt_of_le_of_lt (show min j M.length ≤ 64 by omega) (by decide)
          · rw [upd_same, List.take_succ, hfj, Option.toList_some, List.map_append, List.map_append, hb]
            rfl
        refine ⟨rfl, _, rfl, _, rfl, _, rfl, a, N, ts, f, t, rfl, hw3.same (hS45.trans hS6), ho, hW.num f hfW, htl, fun H7 p R np hS7 hp hR hRl => ?_, fun H7 hS7 hno => ?_⟩
        · exact ⟨rfl, hacc H7 _ hS7 (by rw [Bool.eq_iff_iff, isB_iff]; exact ⟨fun z => by simp at z, fun z => absurd ⟨R, hR⟩ z⟩)⟩
        · exact ⟨rfl, hacc H7 _ hS7 (by rw [Bool.eq_iff_iff, isB_iff]; exact ⟨fun _ => hno, fun _ => by simp⟩)⟩
      rintro H6 ⟨hS6, hD6⟩
      rw [List.length_map, List.take_length] at hD6
      refine ⟨D2, _, rfl, SqL.of hD6, _, rfl, ?_⟩
      have hall : (M.map fun k => isB (¬ ∃ R, RoadBt ts k.toNat t R)).all id = isB (∀ f ∈ W, ¬ ∃ R, RoadBt ts f t R) := by
        rw [Bool.eq_iff_iff, isB_iff, List.all_map, List.all_eq_true]
        constructor
        · intro h f hf
          have := isB_iff.mp (h (f : Int) ((hMW _).mpr ⟨f, hf, rfl⟩))
          exact this
        · intro h k hk
          obtain ⟨f, h1, rfl⟩ := (hMW k).mp hk
          exact isB_iff.mpr (h f h1)
      rw [hall]
      have hS46 := hS45.trans hS6
      have hD6' := hS6 _ _ hD5
      cases hb : isB (∀ f ∈ W, ¬ ∃ R, RoadBt ts f t R) with
      | true =>
        refine iteT ⟨_, rfl, _, hD6', ?_, same_upd hS46 nD, ?_⟩
        · rw [List.length_map]
          refine Nat.lt_of_le_of_lt (Nat.le_trans (List.length_filter_le ..) (Nat.le_trans (List.length_take_le' ..) hflen)) (by decide)
        · rw [upd_same, take_filter htj, if_pos hb, ← iv_app]
      | false =>
        refine iteF ⟨hS46, ?_⟩
        rw [take_filter htj, if_neg (by rw [hb]; exact Bool.false_ne_true), List.append_nil]
        exact hD6'
    rintro H4 ⟨hS4, hD4⟩
    rw [show (iv (frm ts e.2)).length = (frm ts e.2).length from List.length_map .., List.take_length] at hD4
    refine q D H4 (hS03.trans hS4) (hS03.free nD) ?_
    rw [hD4]
    congr 2
    refine congrArg iv (List.filter_congr fun t ht => isB_eq ?_)
    obtain ⟨g, hg1, hg2⟩ := hfl t ht
    rw [sure_snoc hW (chain_snoc hW hx he hg1 hg2) hno]
    exact ⟨fun z => ⟨hno, z⟩, fun z => z.2⟩
def spcomes_from (_ : PySem.W.Frag) (C : Addr) : Sp := fun vs H Q _ => ∃ a N ts s W x e, vs = [.ref a, .ref s] ∧ WebAt C a N ts H ∧ OkWeb N ts ∧ closedB N ts = true ∧ H s = some (.lst (iv W)) ∧ Chain ts W ∧ W.length ≤ 20 ∧ W[0]? = some x ∧ ts[x]? = some e ∧
  ∀ p H', Same H H' → H p = none → H' p = some (.lst (iv ((frm (ts.map Prod.swap) e.1).filter fun t => isB (¬ HasRoad ts W ∧ ¬ HasRoad ts (t :: W))))) → Q (.ref p) H'
theorem okcomes_from (D : Def K mg "comes_from" scomes_from ["web", "walk"]) (B : Bs mg) (Glb : Glo mg) (WK : WebK K mg C)
    (his_sure : Good P w K mg base "is_sure" sis_sure ["web", "walk"] 10 (spis_sure K C))
    (hleads : Good P w K mg base "leads" sleads ["web", "walk"] 8 (spleads K C))
    (hroad_between : Good P w K mg base "road_between" sroad_between ["web", "first", "last"] 8 (sproad_between K C))
    (hWeb_ties_to : GoodM P w K mg base C "ties_to" "Web.ties_to" sWeb_ties_to ["self", "place"] 5 (spWeb_ties_to K C)) :
    Good P w K mg base "comes_from" scomes_from ["web", "walk"] 11 (spcomes_from K C) := by
  refine D.good fun f fd F => ?_
  obtain ⟨fis_sure, dis_sure, Ois_sure, mis_sure, kis_sure, bis_sure, Fis_sure⟩ := his_sure
  obtain ⟨fleads, dleads, Oleads, mleads, kleads, bleads, Fleads⟩ := hleads
  obtain ⟨froad_between, droad_between, Oroad_between, mroad_between, kroad_between, broad_between, Froad_between⟩ := hroad_between
  obtain ⟨fWeb_ties_to, dWeb_ties_to, OWeb_ties_to, tWeb_ties_to, bWeb_ties_to, FWeb_ties_to⟩ := hWeb_ties_to
  refine F.ok sccomes_from (fun vs H Q E h => ?_) (fun cdv A outer s H vs Q E hr h => ?_)
  · obtain ⟨a, N, ts, s, W, x, e, rfl, hw, ho, hcl, hs, hW, hWl, hx, he, q⟩ := h
    first | rfl | (rcases h with ⟨_, _, rfl, _⟩ | ⟨_, rfl, _⟩ <;> rfl)
  obtain ⟨a, N, ts, s, W, x, e, rfl, hw, ho, hcl, hs, hW, hWl, hx, he, q⟩ := h
  refine ⟨_, (pss_cons (ps_if (pt_not (pt_val (pe_call Ois_sure hr rfl mis_sure kis_sure bis_sure .nil pass0 (pa_cons (pv 0) (pa_cons (pv 1) pa_nil)))))
    (pss_one (ps_ret (pe_lst pa_nil))) pss_nil)
  (pss_cons (ps_set (i := 2) sccomes_from.nd rfl (by first | exact Or.inl rfl | exact Or.inr rfl) (pe_meth (pv 0) WK.cl tWeb_ties_to OWeb_ties_to (hr.mono (by decide)) bWeb_ties_to .nil pass0 (pa_cons (pe_ix ix_tup (pe_call Oleads (hr.mono (by decide)) rfl mleads kleads bleads .nil pass0 (pa_cons (pv 0) (pa_cons (pv 1) pa_nil))) pe_int (fun _ _ => rfl)) pa_nil)))
  (pss_one (ps_ret (pe_lc (own := [("tie", 3)]) (g := gName 3) (by rfl) sccomes_from.nd (pi_list (pv 2)) (blkOk_by (own := [("tie", 3)]) (N := ["web", "walk", "ahead", "tie", "last"]) (sc := defScope scomes_from) (by decide +kernel)) (fun _ _ _ _ _ => (pg_name (i := 3) sccomes_from.nd rfl (by first | exact Or.inl rfl | exact Or.inr rfl))) (fun _ _ _ _ _ => (pts_one (pt_val (pe_callB (cr_allK (K := K) rfl rfl) (by rfl) B.all (by decide +kernel) (pa_cons (pe_lc (own := [("last", 4)]) (g := gName 4) (by rfl) sccomes_from.nd (pi_listK (K := K) rfl (pe_callB (cr_sortInK (w := w) rfl rfl) (by rfl) B.sorted (by decide +kernel) (pa_cons (pe_callTy (cr_setInK (K := K) (w := w) rfl rfl rfl) (by rfl) B.set (by decide +kernel) (pa_cons (pv 1) pa_nil)) pa_nil))) (blkOk_by (own := [("last", 4)]) (N := ["web", "walk", "ahead", "tie", "last"]) (by rfl)) (fun _ _ _ _ _ => (pg_name (i := 4) sccomes_from.nd rfl (by first | exact Or.inl rfl | exact Or.inr rfl))) (fun _ _ _ _ _ => pts_nil) (fun _ _ _ _ _ => (pe_cmpR op_isN (pe_call Oroad_between (hr.mono (by decide)) rfl mroad_between kroad_between broad_between .nil pass0 (pa_cons (pv 0) (pa_cons (pv 3) (pa_cons (pv 4) pa_nil)))) pe_non (nomark _)))) pa_nil))))) (fun _ _ _ _ _ => (pv 3))))))), ?_⟩
  refine ⟨_, rfl, _, rfl, a, N, ts, s, W, rfl, hw, ho, hcl, .inl hs, hW, hWl, fun b H1 hS1 hb => ⟨_, rfl, ?_⟩⟩
  cases b with
  | false =>
    have hro : HasRoad ts W := Classical.byContradiction fun z => nomatch hb.mpr z
    refine iteT ⟨Nat.zero_le _, fun p np => q p _ (hS1.trans (same_new np _)) (hS1.free np) ?_⟩
    rw [upd_same]
    have : (frm (ts.map Prod.swap) e.1).filter (fun t => isB (¬ HasRoad ts W ∧ ¬ HasRoad ts (t :: W))) = [] := List.filter_eq_nil_iff.mpr fun t _ z => (isB_iff.mp z).1 hro
    rw [this]
    rfl
  | true =>
    have hno := hb.mp rfl
    refine iteF ?_
    have hw1 := hw.same hS1
    obtain ⟨dx, tl, fl, ol, g1, _⟩ := id hw1
    have hs1 := hS1 _ _ hs
    obtain ⟨hmem2, _⟩ := ho.ok e (List.mem_of_getElem? he)
    refine ⟨_, rfl, a, dx, _, rfl, g1, (by rfl), _, rfl, _, rfl, a, N, ts, s, W, rfl, hw1, .inl hs1, hW, by omega, fun H2 t x0 y0 e0 f0 k2 _ k4 _ hS2 nt ht => ?_⟩
    rw [hx] at k2
    cases k2
    rw [he] at k4
    cases k4
    refine ⟨_, _, _, .int (e.1 : Int), rfl, rfl, SqT.of ht, rfl, a, N, ts, e.1, rfl, hw1.same hS2, hmem2, fun H3 l nl hS3 hl => ?_⟩
    have hS13 := hS2.trans hS3
    have hw3 := hw1.same hS13
    have hs3 := hS13 _ _ hs1
    have hS03 := hS1.trans hS13
    have hfl : ∀ x ∈ frm (ts.map Prod.swap) e.1, ∃ g, ts[x]? = some g ∧ e.1 = g.2 := fun x hx => by
      obtain ⟨v, hv⟩ := frm_mem.mp hx
      rw [List.getElem?_map] at hv
      cases h : ts[x]? with
      | none => rw [h] at hv; cases hv
      | some g => rw [h] at hv; exact ⟨g, rfl, (congrArg Prod.fst (Option.some.inj hv)).symm⟩
    have hflen : (frm (ts.map Prod.swap) e.1).length ≤ 80 := Nat.le_trans (frmN_len (ts.map Prod.swap) e.1 _) (by rw [List.length_map]; exact ho.m)
    refine ⟨_, rfl, l, rfl, ⟨_, SqL.of hl⟩, fun D nD => ?_⟩
    refine lc_list (K := K) (a := l) (xs := iv (frm (ts.map Prod.swap) e.1)) (fun i H' => Same H3 H' ∧ H' D = some (.lst (iv (((frm (ts.map Prod.swap) e.1).take i).filter fun t => isB (∀ f ∈ W, ¬ ∃ R, RoadBt ts t f R))))) ⟨same_new nD _, upd_same⟩ (fun i H' _ ⟨hS', _⟩ => SqL.of (hS' _ _ hl)) ?_ ?_
    · rintro i y H4 hy ⟨hS4, hD4⟩
      obtain ⟨t, htj, rfl⟩ : ∃ t, (frm (ts.map Prod.swap) e.1)[i]? = some t ∧ y = V.int (t : Int) := by
        rw [iv, List.getElem?_map] at hy
        cases h : (frm (ts.map Prod.swap) e.1)[i]? with
        | none => rw [h] at hy; cases hy
        | some o => rw [h] at hy; exact ⟨o, rfl, (Option.some.inj hy).symm⟩
      obtain ⟨g, hg1, hg2⟩ := hfl t (List.mem_of_getElem? htj)
      have htl := (List.getElem?_eq_some_iff.mp hg1).1
      have hs4 := hS4 _ _ hs3
      have hs4z : H4 s = some (.lst ((W.map fun n : Nat => (n : Int)).map V.int)) := by rw [hs4, iv_iz]
      refine ⟨rfl, _, rfl, s, _, rfl, SqL.of hs4z, by rw [List.length_map]; omega, fun s1 n1 hn1 hle1 ns1 => ?_⟩
      rw [List.length_map] at hle1
      refine ⟨s1, _, n1, rfl, upd_same, by omega, fun M mp hM hMm hMl nmp => ?_⟩
      have hS5 := (same_new ns1 (InO w s1 (inI (W.map fun n : Nat => (n : Int))) n1)).trans (same_new nmp (.lst (M.map V.int)))
      have hM5 : upd (upd H4 s1 (InO w s1 (inI (W.map fun n : Nat => (n : Int))) n1)) mp (.lst (M.map V.int)) mp = some (.lst (M.map V.int)) := upd_same
      generalize upd (upd H4 s1 (InO w s1 (inI (W.map fun n : Nat => (n : Int))) n1)) mp (.lst (M.map V.int)) = H5 at hS5 hM5
      have hMW : ∀ k : Int, k ∈ M ↔ ∃ f ∈ W, k = ((f : Nat) : Int) := fun k => by
        rw [hMm]
        unfold inI
        rw [decide_eq_true_iff, List.mem_map]
        exact ⟨fun ⟨f, h1, h2⟩ => ⟨f, h1, h2.symm⟩, fun ⟨f, h1, h2⟩ => ⟨f, h1, h2.symm⟩⟩
      have hS45 := hS4.trans hS5
      have hD5 := hS5 _ _ hD4
      refine ⟨mp, rfl, ⟨_, SqL.of hM5⟩, fun D2 nD2 => ?_⟩
      refine lc_list (K := K) (a := mp) (xs := M.map V.int) (fun j H' => Same H5 H' ∧ H' D2 = some (.lst (((M.take j).map fun k => isB (¬ ∃ R, RoadBt ts t k.toNat R)).map V.bl))) ⟨same_new nD2 _, upd_same⟩ (fun j H' _ ⟨hS', _⟩ => SqL.of (hS' _ _ hM5)) ?_ ?_
      · rintro j y2 H6 hy2 ⟨hS6, hD6⟩
        obtain ⟨f, hfW, hfj, rfl⟩ : ∃ f, f ∈ W ∧ M[j]? = some ((f : Nat) : Int) ∧ y2 = V.int (f : Int) := by
          rw [List.getElem?_map] at hy2
          cases h : M[j]? with
          | none => rw [h] at hy2; cases hy2
          | some o =>
            rw [h] at hy2
            obtain ⟨f, h1, h2⟩ := (hMW o).mp (List.mem_of_getElem? h)
            exact ⟨f, h1, by rw [h2], by rw [← h2]; exact (Option.some.inj hy2).symm⟩
        have hjl := (List.getElem?_eq_some_iff.mp hfj).1
        have hacc : ∀ H7 b, Same H6 H7 → b = isB (¬ ∃ R, RoadBt ts t f R) → ∃ acc, H7 D2 = some (.lst acc) ∧ acc.length < sizeLine ∧ Same H5 (upd H7 D2 (.lst (acc ++ [V.bl b]))) ∧ (upd H7 D2 (.lst (acc ++ [V.bl b]))) D2 = some (.lst (((M.take (j + 1)).map fun k => isB (¬ ∃ R, RoadBt ts t k.toNat R)).map V.bl)) := fun H7 b hS7 hb => by
          refine ⟨_, hS7 _ _ hD6, ?_, same_upd (hS6.trans hS7) nD2, ?_⟩
          · rw [List.length_map, List.length_map, List.length_take]
            exact Nat.lt_of_le_of_lt (show min j M.length ≤ 64 by omega) (by decide)
          · rw [upd_same, List.take_succ, hfj, Option.toList_some, List.map_append, List.map_append, hb]
            rfl
        refine ⟨rfl, _, rfl, _, rfl, _, rfl, a, N, ts, t, f, rfl, hw3.same (hS45.trans hS6), ho, htl, hW.num f hfW, fun H7 p R np hS7 hp hR hRl => ?_, fun H7 hS7 hno => ?_⟩
        · exact ⟨rfl, hacc H7 _ hS7 (by rw [Bool.eq_iff_iff, isB_iff]; exact ⟨fun z => by simp at z, fun z => absurd ⟨R, hR⟩ z⟩)⟩
        · exact ⟨rfl, hacc H7 _ hS7 (by rw [Bool.eq_iff_iff, isB_iff]; exact ⟨fun _ => hno, fun _ => by simp⟩)⟩
      rintro H6 ⟨hS6, hD6⟩
      rw [List.length_map, List.take_length] at hD6
      refine ⟨D2, _, rfl, SqL.of hD6, _, rfl, ?_⟩
      have hall : (M.map fun k => isB (¬ ∃ R, RoadBt ts t k.toNat R)).all id = isB (∀ f ∈ W, ¬ ∃ R, RoadBt ts t f R) := by
        rw [Bool.eq_iff_iff, isB_iff, List.all_map, List.all_eq_true]
        constructor
        · intro h f hf
          have := isB_iff.mp (h (f : Int) ((hMW _).mpr ⟨f, hf, rfl⟩))
          exact this
        · intro h k hk
          obtain ⟨f, h1, rfl⟩ := (hMW k).mp hk
          exact isB_iff.mpr (h f h1)
      rw [hall]
      have hS46 := hS45.trans hS6
      have hD6' := hS6 _ _ hD5
      cases hb : isB (∀ f ∈ W, ¬ ∃ R, RoadBt ts t f R) with
      | true =>
        refine iteT ⟨_, rfl, _, hD6', ?_, same_upd hS46 nD, ?_⟩
        · rw [List.length_map]
          refine Nat.lt_of_le_of_lt (Nat.le_trans (List.length_filter_le ..) (Nat.le_trans (List.length_take_le' ..) hflen)) (by decide)
        · rw [upd_same, take_filter htj, if_pos hb, ← iv_app]
      | false =>
        refine iteF ⟨hS46, ?_⟩
        rw [take_filter htj, if_neg (by rw [hb]; exact Bool.false_ne_true), List.append_nil]
        exact hD6'
    rintro H4 ⟨hS4, hD4⟩
    rw [show (iv (frm (ts.map Prod.swap) e.1)).length = (frm (ts.map Prod.swap) e.1).length from List.length_map .., List.take_length] at hD4
    refine q D H4 (hS03.trans hS4) (hS03.free nD) ?_
    rw [hD4]
    congr 2
    refine congrArg iv (List.filter_congr fun t ht => isB_eq ?_)
    obtain ⟨g, hg1, hg2⟩ := hfl t ht
    rw [sure_cons hW (chain_cons hW hx he hg1 hg2) hno]
    exact ⟨fun z => ⟨hno, z⟩, fun z => z.2⟩
end
end My
set_option maxHeartbeats 4000000
namespace My
open PySem L2 PyProof.Rows
theorem eqvAll_iz : ∀ A B : List Int, PyData.eqvAll (A.map PyData.int) (B.map PyData.int) = decide (A = B)
  | [], [] => rfl
  | [], _ :: _ => rfl
  | _ :: _, [] => rfl
  | a :: L, b :: M => by
    show ((a == b) && PyData.eqvAll (L.map PyData.int) (M.map PyData.int)) = _
    rw [eqvAll_iz L M, Bool.eq_iff_iff]
    simp only [Bool.and_eq_true, beq_iff_eq, decide_eq_true_iff, List.cons.injEq]
theorem eqv_izs (A B : List Int) : PyData.eqv (dz A) (dz B) = decide (A = B) := eqvAll_iz A B
theorem eqv_ivs (A B : List Nat) : PyData.eqv (dz (A.map fun n : Nat => (n : Int))) (dz (B.map fun n : Nat => (n : Int))) = decide (A = B) := by
  rw [eqv_izs]
  refine decide_eq_decide.mpr ⟨fun h => ?_, fun h => by rw [h]⟩
  exact (List.map_inj_right (fun a b h => Int.ofNat.inj h)).mp h
theorem iv_take (L : List Nat) (k : Nat) : iv (L.take k) = (iv L).take k := List.map_take ..
theorem iv_drop (L : List Nat) (k : Nat) : iv (L.drop k) = (iv L).drop k := List.map_drop ..
theorem nxtD_high {W r : List Nat} {n : Nat} : ∀ i, i ≤ n → (∀ k, n - i < k → k ≤ n → r.drop (r.length - k) ≠ W.take k) → nxtD W r n = nxtD W r (n - i)
  | 0, _, _ => rfl
  | i + 1, h, no => by
    rw [nxtD_high i (by omega) fun k h1 h2 => no k (by omega) h2, show n - i = (n - (i + 1)) + 1 by omega]
    unfold nxtD
    rw [if_neg (no _ (by omega) (by omega))]
    cases n - (i + 1) <;> rfl
section
variable {P : Program} {w : World} {K : PySem.W.Frag} {mg : Str → Option Value} {base : Heap} {C : Addr}
def sp_law_next (_ : PySem.W.Frag) (_ : Addr) : Sp := fun vs H Q _ => ∃ s W m t, vs = [.ref s, .int ((m : Nat) : Int), .int ((t : Nat) : Int)] ∧ H s = some (.lst (iv W)) ∧ W.length ≤ 21 ∧ m ≤ W.length ∧ ∀ H', Same H H' → Q (.int ((nxt W m t : Nat) : Int)) H'
theorem ok_law_next (D : Def K mg "_law_next" s_law_next ["_law_walk_here", "_law_state", "_law_tie"]) (B : Bs mg) (Glb : Glo mg) (WK : WebK K mg C) :
    Good P w K mg base "_law_next" s_law_next ["_law_walk_here", "_law_state", "_law_tie"] 1 (sp_law_next K C) := by
  refine D.good fun f fd F => ?_
  refine F.ok sc_law_next (fun vs H Q E h => ?_) (fun cdv A outer s H vs Q E hr h => ?_)
  · obtain ⟨s, W, m, t, rfl, hs, hW, hm, q⟩ := h
    first | rfl | (rcases h with ⟨_, _, rfl, _⟩ | ⟨_, rfl, _⟩ <;> rfl)
  obtain ⟨s, W, m, t, rfl, hs, hW, hm, q⟩ := h
  refine ⟨_, (pss_cons (ps_set (i := 3) sc_law_next.nd rfl (by first | exact Or.inl rfl | exact Or.inr rfl) (pe_op op_cat (pe_slice sl_list (pv 0) po_none (po_some (pv 1))) (pe_lst (pa_cons (pv 2) pa_nil))))
  (pss_cons (ps_for PassesOwn.never rfl (pi_range3 (by rfl) B.range (pa_cons (pe_callB call_len_seq (by rfl) B.len (by decide +kernel) (pa_cons (pv 3) pa_nil)) (pa_cons pe_int (pa_cons (pe_un un_neg pe_int) pa_nil)))) (pg_name (i := 4) sc_law_next.nd rfl (by first | exact Or.inl rfl | exact Or.inr rfl))
    (pss_one (ps_if (pt_cmpR (op_eqD hr.units) (pe_slice sl_list (pv 3) (po_some (pe_op op_sub (pe_callB call_len_seq (by rfl) B.len (by decide +kernel) (pa_cons (pv 3) pa_nil)) (pv 4))) po_none) (pe_slice sl_list (pv 0) po_none (po_some (pv 4))) (nomark _))
    (pss_one (ps_ret (pv 4))) pss_nil)))
  (pss_one (ps_ret pe_int)))), ?_⟩
  refine ⟨_, rfl, _, rfl, _, rfl, s, _, rfl, SqL.of hs, fun q1 nq1 => ⟨_, rfl, (by show 1 ≤ sizeLine; decide), fun q2 nq2 => ⟨q1, q2, _, _, rfl, rfl, same_new nq2 _ _ _ upd_same, upd_same, ?_, fun l nl => ?_⟩⟩⟩
  · rw [cutV_to, List.length_take]
    exact Nat.le_of_lt (sml1000 (by rw [show (iv W).length = W.length from List.length_map ..]; show min m W.length + 1 ≤ _; omega))
  have hS1 := ((same_new nq1 (.lst (cutV (iv W) none (some (m : Int))))).trans (same_new nq2 (.lst [V.int (t : Int)]))).trans (same_new nl (.lst (cutV (iv W) none (some (m : Int)) ++ [V.int (t : Int)])))
  have hl1 : upd (upd (upd H q1 (.lst (cutV (iv W) none (some (m : Int))))) q2 (.lst [V.int (t : Int)])) l (.lst (cutV (iv W) none (some (m : Int)) ++ [V.int (t : Int)])) l = some (.lst (iv (W.take m ++ [t]))) := by
    rw [upd_same, cutV_to, iv_app, iv_take]
  generalize upd (upd (upd H q1 (.lst (cutV (iv W) none (some (m : Int))))) q2 (.lst [V.int (t : Int)])) l (.lst (cutV (iv W) none (some (m : Int)) ++ [V.int (t : Int)])) = H1 at hS1 hl1
  have hrl : (W.take m ++ [t]).length = m + 1 := by rw [List.length_append, List.length_take]; show min m W.length + 1 = _; omega
  have hrg : RgC ((iv (W.take m ++ [t])).length : Int) 0 (-1) (m + 1) := by
    rw [show (iv (W.take m ++ [t])).length = m + 1 by rw [← hrl]; exact List.length_map ..]
    have := RgC.neg (i := ((m + 1 : Nat) : Int)) (j := 0) (by omega) (by omega) (by omega) (by omega)
    rw [show ((((m + 1 : Nat) : Int) - 0).toNat) = m + 1 by omega] at this
    exact this
  refine ⟨_, rfl, l, _, rfl, .inl (SqL.of hl1), _, rfl, _, _, _, m + 1, rfl, hrg, ?_⟩
  have hlen : (iv (W.take m ++ [t])).length = m + 1 := by rw [← hrl]; exact List.length_map ..
  refine for_rangeC (n := m + 1) (fun i σ H' => ∃ v, σ = [some (.ref s), some (.int (m : Int)), some (.int (t : Int)), some (.ref l), v] ∧ Same H1 H' ∧ ∀ k, m + 1 - i < k → k ≤ m + 1 → (W.take m ++ [t]).drop ((W.take m ++ [t]).length - k) ≠ W.take k) ⟨_, rfl, fun b o e => e, fun k h1 h2 => by omega⟩ ?_ ?_
  · rintro i σ H2 hi ⟨v, rfl, hS2, hno⟩
    rw [hlen, show (((m + 1 : Nat) : Int) + (i : Nat) * (-1)) = ((m + 1 - i : Nat) : Int) by omega]
    have hl2 := hS2 _ _ hl1
    have hs2 := hS2 _ _ (hS1 _ _ hs)
    have epart : (((iv (W.take m ++ [t])).length : Nat) : Int) - ((m + 1 - i : Nat) : Int) = (((W.take m ++ [t]).length - (m + 1 - i) : Nat) : Int) := by rw [hlen, hrl]; omega
    refine ⟨_, rfl, _, rfl, l, _, rfl, .inl (SqL.of hl2), _, rfl, _, _, rfl, rfl, _, rfl, l, _, rfl, SqL.of hl2, fun p1 np1 => ?_⟩
    refine ⟨_, rfl, _, rfl, _, rfl, s, _, rfl, SqL.of (same_new np1 _ _ _ hs2), fun p2 np2 => ?_⟩
    have hS3 := (same_new np1 (.lst (cutV (iv (W.take m ++ [t])) (some ((((iv (W.take m ++ [t])).length : Nat) : Int) - ((m + 1 - i : Nat) : Int))) none))).trans (same_new np2 (.lst (cutV (iv W) none (some ((m + 1 - i : Nat) : Int)))))
    have hp1 := same_new np2 (.lst (cutV (iv W) none (some ((m + 1 - i : Nat) : Int)))) _ _ (upd_same (H := H2) (a := p1) (o := .lst (cutV (iv (W.take m ++ [t])) (some ((((iv (W.take m ++ [t])).length : Nat) : Int) - ((m + 1 - i : Nat) : Int))) none)))
    have hp2 : upd (upd H2 p1 (.lst (cutV (iv (W.take m ++ [t])) (some ((((iv (W.take m ++ [t])).length : Nat) : Int) - ((m + 1 - i : Nat) : Int))) none))) p2 (.lst (cutV (iv W) none (some ((m + 1 - i : Nat) : Int)))) p2 = some (.lst (iv (W.take (m + 1 - i)))) := by rw [upd_same, cutV_to, iv_take]
    rw [epart, cutV_from, ← iv_drop] at hp1
    rw [epart, cutV_from, ← iv_drop] at hp2 hS3
    rw [epart, cutV_from, ← iv_drop]
    generalize upd (upd H2 p1 (.lst (iv ((W.take m ++ [t]).drop ((W.take m ++ [t]).length - (m + 1 - i)))))) p2 (.lst (cutV (iv W) none (some ((m + 1 - i : Nat) : Int)))) = H3 at hS3 hp1 hp2
    refine ⟨_, _, dp_iv hp1, dp_iv hp2, shaped_iz _, shaped_iz _, _, rfl, ?_⟩
    rw [eqv_ivs]
    by_cases c : (W.take m ++ [t]).drop ((W.take m ++ [t]).length - (m + 1 - i)) = W.take (m + 1 - i)
    · refine iteYes c ⟨_, rfl, ?_⟩
      have : nxt W m t = m + 1 - i := by
        unfold nxt
        rw [hrl, nxtD_high i (by omega) hno]
        cases e : m + 1 - i with
        | zero => rfl
        | succ n =>
          unfold nxtD
          rw [← e, if_pos c]
      have h := q H3 ((hS1.trans hS2).trans hS3)
      rw [this] at h
      exact h
    · refine iteNo c ⟨_, rfl, hS2.trans hS3, fun k h1 h2 => ?_⟩
      by_cases ck : k = m + 1 - i
      · rw [ck]; exact c
      · exact hno k (by omega) h2
  · rintro σ H2 ⟨v, rfl, hS2, hno⟩
    have : nxt W m t = 0 := by
      unfold nxt
      rw [hrl, nxtD_high (m + 1) (Nat.le_refl _) hno, Nat.sub_self]
      rfl
    have h := q H2 (hS1.trans hS2)
    rw [this] at h
    exact h
end
end My
set_option maxHeartbeats 4000000
namespace My
open PySem L2 PyProof.Rows
/-- a standing as a key -/
def kk (u : Nat × Nat) : List Key := [.inl (u.1 : Int), .inl (u.2 : Int)]
theorem kk_inj {u v : Nat × Nat} (h : kk u = kk v) : u = v := by
  have z1 := Sum.inl.inj (List.cons.inj h).1
  have z2 := Sum.inl.inj (List.cons.inj (List.cons.inj h).2).1
  obtain ⟨a, b⟩ := u
  obtain ⟨c, d⟩ := v
  dsimp only at z1 z2
  rw [Int.ofNat.inj z1, Int.ofNat.inj z2]
theorem kk_tup (u : Nat × Nat) : (kk u).map kV = [V.int (u.1 : Int), V.int (u.2 : Int)] := rfl
/-- a dict of standings -/
def tD (g : Nat × Nat → V) (D : List (Nat × Nat)) : List (List Key × V) := D.map fun u => (kk u, g u)
theorem valV_tD (g : Nat × Nat → V) (u : Nat × Nat) : ∀ D : List (Nat × Nat), valV (tD g D) (kk u) = if u ∈ D then some (g u) else none
  | [] => rfl
  | a :: r => by
    by_cases c : a = u
    · subst c
      rw [if_pos (List.mem_cons_self ..)]
      exact valV_pos (p := (kk a, g a)) rfl
    · have : valV (tD g (a :: r)) (kk u) = valV (tD g r) (kk u) := valV_neg (p := (kk a, g a)) fun z => c (kk_inj z)
      rw [this, valV_tD g u r]
      have : u ∈ a :: r ↔ u ∈ r := by rw [List.mem_cons]; exact ⟨fun h => h.resolve_left fun z => c z.symm, .inr⟩
      by_cases d : u ∈ r
      · rw [if_pos d, if_pos (this.mpr d)]
      · rw [if_neg d, if_neg fun z => d (this.mp z)]
theorem put_tD {g : Nat × Nat → V} {D : List (Nat × Nat)} {u : Nat × Nat} {v : V} (h : u ∉ D) : putK (tD g D) (kk u) v = tD (fun z => if z = u then v else g z) (D ++ [u]) := by
  rw [putK_new v (by rw [valV_tD, if_neg h])]
  unfold tD
  rw [List.map_append]
  congr 1
  · refine List.map_congr_left fun z hz => ?_
    have : ¬ z = u := fun e => h (by rw [← e]; exact hz)
    show _ = (kk z, if z = u then v else g z)
    rw [if_neg this]
  · show [(kk u, v)] = [(kk u, if u = u then v else g u)]
    rw [if_pos rfl]
/-! ### the steps from a standing -/
def ltr (ts : List (Nat × Nat)) (W : List Nat) (m x : Nat) : Nat × Nat := ((ts.getD x (0, 0)).2, nxt W m x)
def stl (ts : List (Nat × Nat)) (W : List Nat) (m : Nat) (xs : List Nat) : List (Nat × (Nat × Nat)) := (xs.map fun x => (x, ltr ts W m x)).filter fun e => decide (e.2.2 < W.length)
def SL (ts : List (Nat × Nat)) (W : List Nat) (u : Nat × Nat) : List (Nat × (Nat × Nat)) := stl ts W u.2 (frm ts u.1)
theorem SL_mem {ts : List (Nat × Nat)} {W : List Nat} {u v : Nat × Nat} {x : Nat} : (x, v) ∈ SL ts W u ↔ Stp ts W u x v := by
  unfold SL stl
  rw [List.mem_filter, List.mem_map, decide_eq_true_iff]
  constructor
  · rintro ⟨⟨y, h1, h2⟩, h3⟩
    cases h2
    obtain ⟨z, hz⟩ := frm_mem.mp h1
    have e : ts.getD x (0, 0) = (u.1, z) := by rw [List.getD_eq_getElem?_getD, hz]; rfl
    refine ⟨?_, rfl, h3⟩
    show ts[x]? = some (u.1, (ts.getD x (0, 0)).2)
    rw [e]; exact hz
  · rintro ⟨h1, h2, h3⟩
    refine ⟨⟨x, frm_mem.mpr ⟨_, h1⟩, ?_⟩, h3⟩
    have e : ts.getD x (0, 0) = (u.1, v.1) := by rw [List.getD_eq_getElem?_getD, h1]; rfl
    unfold ltr
    rw [e, ← h2]
theorem stl_snoc {ts : List (Nat × Nat)} {W xs : List Nat} {m i x : Nat} (h : xs[i]? = some x) : stl ts W m (xs.take (i + 1)) = stl ts W m (xs.take i) ++ (if (ltr ts W m x).2 < W.length then [(x, ltr ts W m x)] else []) := by
  unfold stl
  rw [List.take_succ, h, Option.toList_some, List.map_append, List.filter_append]
  congr 1
  by_cases c : (ltr ts W m x).2 < W.length
  · rw [if_pos c]
    show List.filter _ [(x, ltr ts W m x)] = _
    rw [List.filter_cons, if_pos (decide_eq_true c)]; rfl
  · rw [if_neg c]
    show List.filter _ [(x, ltr ts W m x)] = _
    rw [List.filter_cons, if_neg (fun z => c (of_decide_eq_true z))]; rfl
theorem SL_len (ts : List (Nat × Nat)) (W : List Nat) (u : Nat × Nat) : (SL ts W u).length ≤ ts.length := by
  unfold SL stl
  refine Nat.le_trans (List.length_filter_le ..) ?_
  rw [List.length_map]
  exact frmN_len ts u.1 _
theorem stl_le (ts : List (Nat × Nat)) (W xs : List Nat) (m : Nat) : (stl ts W m xs).length ≤ xs.length := by
  unfold stl
  refine Nat.le_trans (List.length_filter_le ..) ?_
  rw [List.length_map]
  exact Nat.le_refl _
theorem few2 {N : Nat} {D : List (Nat × Nat)} (h : D.Nodup) (ok : ∀ u ∈ D, u.1 < N ∧ u.2 < 32) : D.length ≤ N * 32 := by
  have : (D.map fun u => u.1 * 32 + u.2).Nodup := by
    refine List.pairwise_map.mpr (List.Pairwise.imp_of_mem (fun {a b} ha hb hab z => hab ?_) h)
    have := ok a ha
    have := ok b hb
    obtain ⟨a1, a2⟩ := a
    obtain ⟨b1, b2⟩ := b
    dsimp only at *
    have e1 : a1 = b1 := by omega
    have e2 : a2 = b2 := by omega
    rw [e1, e2]
  have := few (N := N * 32) this fun x hx => by
    obtain ⟨u, hu, rfl⟩ := List.mem_map.mp hx
    have := ok u hu
    omega
  rwa [List.length_map] at this
/-- D: the standings written down, T: those that are still left -/
structure Exp (ts : List (Nat × Nat)) (W : List Nat) (N : Nat) (D T : List (Nat × Nat)) : Prop where
  nd : D.Nodup
  ok : ∀ u, u ∈ D ∨ u ∈ T → u.1 < N ∧ u.2 < W.length ∧ ∃ q, q < N ∧ Cm ts W (q, 0) u
  st : ∀ q, q < N → (q, 0) ∈ D ∨ (q, 0) ∈ T
  cl : ∀ u ∈ D, ∀ x v, Stp ts W u x v → v ∈ D ∨ v ∈ T
theorem Exp.start {ts : List (Nat × Nat)} {W : List Nat} {N : Nat} (h : 0 < W.length) : Exp ts W N [] ((List.range N).map fun q => (q, 0)) where
  nd := List.nodup_nil
  ok := fun u hu => by
    rcases hu with hu | hu
    · cases hu
    · obtain ⟨q, hq, rfl⟩ := List.mem_map.mp hu
      exact ⟨List.mem_range.mp hq, h, q, List.mem_range.mp hq, Cm.refl _⟩
  st := fun q hq => .inr (List.mem_map.mpr ⟨q, List.mem_range.mpr hq, rfl⟩)
  cl := fun u hu => by cases hu
theorem Exp.skip {ts : List (Nat × Nat)} {W : List Nat} {N : Nat} {D T : List (Nat × Nat)} {u : Nat × Nat} (h : Exp ts W N D (T ++ [u])) (hu : u ∈ D) : Exp ts W N D T where
  nd := h.nd
  ok := fun v hv => h.ok v (hv.imp id fun z => List.mem_append_left _ z)
  st := fun q hq => (h.st q hq).elim .inl fun z => (List.mem_append.mp z).elim .inr fun y => .inl (by rw [List.mem_singleton.mp y]; exact hu)
  cl := fun a ha x v hv => (h.cl a ha x v hv).elim .inl fun z => (List.mem_append.mp z).elim .inr fun y => .inl (by rw [List.mem_singleton.mp y]; exact hu)
theorem Exp.more {ts : List (Nat × Nat)} {W : List Nat} {N : Nat} {D T : List (Nat × Nat)} {u : Nat × Nat} (ho : OkWeb N ts) (h : Exp ts W N D (T ++ [u])) (hu : u ∉ D) : Exp ts W N (D ++ [u]) (T ++ (SL ts W u).map Prod.snd) where
  nd := by
    rw [List.nodup_append]
    exact ⟨h.nd, List.nodup_cons.mpr ⟨List.not_mem_nil, List.nodup_nil⟩, fun a ha b hb z => hu (by rw [List.mem_singleton.mp hb] at z; rw [← z]; exact ha)⟩
  ok := fun v hv => by
    have hou := h.ok u (.inr (List.mem_append_right _ (List.mem_singleton.mpr rfl)))
    rcases hv with hv | hv
    · rcases List.mem_append.mp hv with z | z
      · exact h.ok v (.inl z)
      · rw [List.mem_singleton.mp z]; exact hou
    · rcases List.mem_append.mp hv with z | z
      · exact h.ok v (.inr (List.mem_append_left _ z))
      · obtain ⟨⟨x, v'⟩, h1, rfl⟩ := List.mem_map.mp z
        have hs := SL_mem.mp h1
        obtain ⟨q, q1, q2⟩ := hou.2.2
        exact ⟨(ho.ok _ (List.mem_of_getElem? hs.1)).2, hs.2.2, q, q1, q2.step hs⟩
  st := fun q hq => (h.st q hq).elim (fun z => .inl (List.mem_append_left _ z)) fun z => (List.mem_append.mp z).elim (fun y => .inr (List.mem_append_left _ y)) fun y => .inl (List.mem_append_right _ y)
  cl := fun a ha x v hv => by
    rcases List.mem_append.mp ha with z | z
    · exact (h.cl a z x v hv).elim (fun z => .inl (List.mem_append_left _ z)) fun z => (List.mem_append.mp z).elim (fun y => .inr (List.mem_append_left _ y)) fun y => .inl (List.mem_append_right _ y)
    · rw [List.mem_singleton.mp z] at hv
      exact .inr (List.mem_append_right _ (List.mem_map.mpr ⟨(x, v), SL_mem.mpr hv, rfl⟩))
/-! ### on the heap -/
def StT (H : Hp) (p : Addr) (e : Nat × (Nat × Nat)) : Prop := ∃ q, H p = some (.tup [.int ((e.1 : Nat) : Int), .ref q]) ∧ H q = some (.tup [.int ((e.2.1 : Nat) : Int), .int ((e.2.2 : Nat) : Int)])
def StL (H : Hp) (v : Addr) (L : List (Nat × (Nat × Nat))) : Prop := ∃ ps : List Addr, H v = some (.lst (ps.map V.ref)) ∧ Paired (StT H) ps L
theorem StL.kept {H H' : Hp} {a v : Addr} {L : List (Nat × (Nat × Nat))} (h : StL H v L) (k : Kept a H H') (hv : v ≠ a) (ha : ∀ xs, H a ≠ some (.tup xs)) : StL H' v L := by
  obtain ⟨ps, h1, h2⟩ := h
  refine ⟨ps, k _ _ h1 hv, paired_mono (fun p e ⟨q, e1, e2⟩ => ⟨q, k _ _ e1 fun z => ha _ (z ▸ e1), k _ _ e2 fun z => ha _ (z ▸ e2)⟩) h2⟩
theorem StL.keptR {H H' : Hp} {R : List Addr} {v : Addr} {L : List (Nat × (Nat × Nat))} (h : StL H v L) (k : KeptR R H H') (hv : v ∉ R) (ha : ∀ a ∈ R, ∀ xs, H a ≠ some (.tup xs)) : StL H' v L := by
  obtain ⟨ps, h1, h2⟩ := h
  refine ⟨ps, k _ _ h1 hv, paired_mono (fun p e ⟨q, e1, e2⟩ => ⟨q, k _ _ e1 fun z => ha _ z _ e1, k _ _ e2 fun z => ha _ z _ e2⟩) h2⟩
theorem StL.same {H H' : Hp} {v : Addr} {L : List (Nat × (Nat × Nat))} (h : StL H v L) (k : Same H H') : StL H' v L := by
  obtain ⟨ps, h1, h2⟩ := h
  exact ⟨ps, k _ _ h1, paired_mono (fun p e ⟨q, e1, e2⟩ => ⟨q, k _ _ e1, k _ _ e2⟩) h2⟩
theorem kept_upd {H : Hp} {a : Addr} {o : HO} : Kept a H (upd H a o) := fun b o' z n => by rw [upd_ne n]; exact z
theorem StL.push {H : Hp} {v tp q : Addr} {L : List (Nat × (Nat × Nat))} {x : Nat} {u : Nat × Nat} (h : StL H v L) (h1 : H tp = some (.tup [.int (x : Int), .ref q])) (h2 : H q = some (.tup [.int (u.1 : Int), .int (u.2 : Int)])) :
    ∃ xs, H v = some (.lst xs) ∧ xs.length = L.length ∧ StL (upd H v (.lst (xs ++ [.ref tp]))) v (L ++ [(x, u)]) := by
  obtain ⟨ps, k1, k2⟩ := h
  have ne : ∀ p ys, H p = some (.tup ys) → p ≠ v := fun p ys hp => ne_of hp k1 (by intro z; cases z)
  have keep : ∀ (o : HO) p ys, H p = some (.tup ys) → upd H v o p = some (.tup ys) := fun o p ys hp => by rw [upd_ne (ne p ys hp)]; exact hp
  exact ⟨_, k1, by rw [List.length_map]; exact paired_len k2, ps ++ [tp], by rw [upd_same, List.map_append]; rfl, paired_app (paired_mono (fun p e ⟨r, e1, e2⟩ => ⟨r, keep _ _ _ e1, keep _ _ _ e2⟩) k2) ⟨q, keep _ _ _ h1, keep _ _ _ h2⟩⟩
theorem TiesAt.addT {H : Hp} {l tp : Addr} {T : List (Nat × Nat)} {u : Nat × Nat} (h : TiesAt H l T) (ht : H tp = some (.tup [.int (u.1 : Int), .int (u.2 : Int)])) :
    ∃ xs, H l = some (.lst xs) ∧ xs.length = T.length ∧ TiesAt (upd H l (.lst (xs ++ [.ref tp]))) l (T ++ [u]) := by
  obtain ⟨ps, k1, k2⟩ := h
  have ne : ∀ p ys, H p = some (.tup ys) → p ≠ l := fun p ys hp => ne_of hp k1 (by intro z; cases z)
  refine ⟨_, k1, by rw [List.length_map]; exact paired_len k2, ps ++ [tp], by rw [upd_same, List.map_append]; rfl, paired_app (paired_mono (fun p e hp => ?_) k2) ?_⟩
  · show upd _ _ _ p = _
    rw [upd_ne (ne _ _ hp)]; exact hp
  · show upd _ _ _ tp = _
    rw [upd_ne (ne _ _ ht)]; exact ht
theorem TiesAt.keep {H H' : Hp} {a l : Addr} {T : List (Nat × Nat)} (h : TiesAt H l T) (k : Kept a H H') (hv : l ≠ a) (ha : ∀ xs, H a ≠ some (.tup xs)) : TiesAt H' l T := by
  obtain ⟨ps, h1, h2⟩ := h
  exact ⟨ps, k _ _ h1 hv, paired_mono (fun p e e1 => k _ _ e1 fun z => ha _ (z ▸ e1)) h2⟩
/-- the steps of the standings D, in a dict -/
def TabAt (ts : List (Nat × Nat)) (W : List Nat) (H : Hp) (f : Addr) (D : List (Nat × Nat)) (va : Nat × Nat → Addr) : Prop := H f = some (.dT (tD (fun u => .ref (va u)) D)) ∧ ∀ u ∈ D, StL H (va u) (SL ts W u)
section
variable {P : Program} {w : World} {K : PySem.W.Frag} {mg : Str → Option Value} {base : Heap} {C : Addr}
def sp_law_steps (_ : PySem.W.Frag) (_ : Addr) : Sp := fun vs H Q _ => ∃ t s N ts W, vs = [.int ((N : Nat) : Int), .ref t, .ref s] ∧ TiesAt H t ts ∧ OkWeb N ts ∧ N ≤ 4 ∧ ts.length ≤ 10 ∧ H s = some (.lst (iv W)) ∧ 0 < W.length ∧ W.length ≤ 21 ∧
  ∀ f D va H', Exp ts W N D [] → D.length ≤ 128 → Same H H' → H f = none → TabAt ts W H' f D va → Q (.ref f) H'
theorem ok_law_steps (D : Def K mg "_law_steps" s_law_steps ["_law_places", "_law_ties_here", "_law_walk_here"]) (B : Bs mg) (Glb : Glo mg) (WK : WebK K mg C)
    (h_law_out : Good P w K mg base "_law_out" s_law_out ["_law_ties_here", "_law_place", "_law_without"] 1 (sp_law_out K C))
    (h_law_next : Good P w K mg base "_law_next" s_law_next ["_law_walk_here", "_law_state", "_law_tie"] 1 (sp_law_next K C)) :
    Good P w K mg base "_law_steps" s_law_steps ["_law_places", "_law_ties_here", "_law_walk_here"] 2 (sp_law_steps K C) := by
  refine D.good fun f fd F => ?_
  obtain ⟨f_law_out, d_law_out, O_law_out, m_law_out, k_law_out, b_law_out, F_law_out⟩ := h_law_out
  obtain ⟨f_law_next, d_law_next, O_law_next, m_law_next, k_law_next, b_law_next, F_law_next⟩ := h_law_next
  refine F.ok sc_law_steps (fun vs H Q E h => ?_) (fun cdv A outer s H vs Q E hr h => ?_)
  · obtain ⟨t, s, N, ts, W, rfl, hT, ho, hN, hm, hs, hW0, hW, q⟩ := h
    first | rfl | (rcases h with ⟨_, _, rfl, _⟩ | ⟨_, rfl, _⟩ <;> rfl)
  obtain ⟨t, s, N, ts, W, rfl, hT, ho, hN, hm, hs, hW0, hW, q⟩ := h
  refine ⟨_, (pss_cons (ps_par (i := 3) (j := 4) (by rfl) sc_law_steps.nd rfl rfl (by decide) rfl rfl (pa_cons pe_dnewT (pa_cons (pe_lc (own := [("_law_place", 8)]) (g := gName 8) (by rfl) sc_law_steps.nd (pi_range1 (by rfl) B.range (pa_cons (pv 0) pa_nil)) (blkOk_by (own := [("_law_place", 8)]) (N := ["_law_places", "_law_ties_here", "_law_walk_here", "_law_found", "_law_left", "_law_here", "_law_tie", "_law_later", "_law_place"]) (sc := defScope s_law_steps) (by decide +kernel)) (fun _ _ _ _ _ => (pg_name (i := 8) sc_law_steps.nd rfl (by first | exact Or.inl rfl | exact Or.inr rfl))) (fun _ _ _ _ _ => pts_nil) (fun _ _ _ _ _ => (pe_tup (pa_cons (pv 8) (pa_cons pe_int pa_nil))))) pa_nil)) (by rfl))
  (pss_cons (ps_while PassesOwn.never (pt_cmpR (op_neD hr.units) (pv 4) (pe_lst pa_nil) (nomark _))
    (pss_cons (ps_set (i := 5) sc_law_steps.nd rfl (by first | exact Or.inl rfl | exact Or.inr rfl) (pe_bm0 PySem.F.plainAttrs_list PySem.F.slot_list_pop PySem.F.type_list_pop mt_pop (pv 4)))
  (pss_one (ps_if (pt_cmp (pc_dnotin (hu_of hr) (pv 5) (pv 3)))
    (pss_cons (ps_dput (hu_of hr) (pv 3) (pv 5) (pe_lst pa_nil) rfl)
  (pss_one (ps_for PassesOwn.never rfl (pi_list (pe_call O_law_out hr rfl m_law_out k_law_out b_law_out .nil pass0 (pa_cons (pv 1) (pa_cons (pe_ix ix_tup (pv 5) pe_int (fun _ _ => rfl)) (pa_cons (pe_lst pa_nil) pa_nil))))) (pg_name (i := 6) sc_law_steps.nd rfl (by first | exact Or.inl rfl | exact Or.inr rfl))
    (pss_cons (ps_set (i := 7) sc_law_steps.nd rfl (by first | exact Or.inl rfl | exact Or.inr rfl) (pe_tup (pa_cons (pe_ix ix_tup (pe_ix ix_list (pv 1) (pv 6) (fun _ _ => rfl)) pe_int (fun _ _ => rfl)) (pa_cons (pe_call O_law_next hr rfl m_law_next k_law_next b_law_next .nil pass0 (pa_cons (pv 2) (pa_cons (pe_ix ix_tup (pv 5) pe_int (fun _ _ => rfl)) (pa_cons (pv 6) pa_nil)))) pa_nil))))
  (pss_one (ps_if (pt_cmpR op_lt (pe_ix ix_tup (pv 7) pe_int (fun _ _ => rfl)) (pe_callB call_len_seq (by rfl) B.len (by decide +kernel) (pa_cons (pv 2) pa_nil)) (nomark _))
    (pss_cons (ps_expr (pe_bm PySem.F.plainAttrs_list PySem.F.slot_list_append PySem.F.type_list_append mt_append (pe_dget (hu_of hr) (pv 3) (pv 5) (fun _ _ => rfl)) (pa_cons (pe_tup (pa_cons (pv 6) (pa_cons (pv 7) pa_nil))) pa_nil)))
  (pss_one (ps_expr (pe_bm PySem.F.plainAttrs_list PySem.F.slot_list_append PySem.F.type_list_append mt_append (pv 4) (pa_cons (pv 7) pa_nil))))) pss_nil)))))) pss_nil))))
  (pss_one (ps_ret (pv 3))))), ?_⟩
  refine fun f nf => ⟨_, rfl, _, rfl, by omega, by omega, fun tl ntl => ?_⟩
  have htlf : tl ≠ f := fun z => by rw [z, upd_same] at ntl; cases ntl
  have ntlH : H tl = none := (same_new nf (.dT [])).free ntl
  rw [show ((N : Int)).toNat = N by omega]
  refine lc_range (lo := 0) (n := N) (fun i H' => Same H H' ∧ H' f = some (.dT []) ∧ TiesAt H' tl ((List.range i).map fun q => (q, 0))) ⟨(same_new nf (.dT [])).trans (same_new ntl _), by rw [upd_ne htlf.symm, upd_same], TiesAt.nil⟩ ?_ ?_
  · rintro i H1 hi ⟨hS1, hf1, hT1⟩
    refine ⟨rfl, _, rfl, (by show 2 ≤ sizeLine; decide), fun tp ntp => ?_⟩
    obtain ⟨xs, g1, g2, g3⟩ := hT1.pushV (u := i) (v := 0) (x := V.int (0 + (i : Int))) (y := V.int 0) (by rw [Int.zero_add]) rfl ntp
    refine ⟨xs, g1, ?_, ?_, ?_, ?_⟩
    · rw [g2, List.length_map, List.length_range]; exact sml1000 (by omega)
    · exact same_upd (hS1.trans (same_new ntp _)) ntlH
    · rw [upd_ne htlf.symm]; exact same_new ntp _ _ _ hf1
    · rw [List.range_succ, List.map_append]; exact g3
  rintro H1 ⟨hS1, hf1, hT1⟩
  refine ⟨_, _, rfl, ?_⟩
  let Pv : Nat → L2.St → Hp → Prop := fun m σ H' => ∃ (v5 v6 v7 v8 : Option V) (D T : List (Nat × Nat)) (va : Nat × Nat → Addr), σ = [some (.int (N : Int)), some (.ref t), some (.ref s), some (.ref f), some (.ref tl), v5, v6, v7, v8] ∧ Same H H' ∧ TiesAt H' tl T ∧ TabAt ts W H' f D va ∧ (∀ u ∈ D, va u ≠ tl) ∧ Exp ts W N D T ∧ T.length ≤ 4 + 11 * D.length ∧ 11 * (128 - D.length) + T.length = m
  refine ⟨Pv, ⟨_, none, none, none, none, [], _, fun _ => f, rfl, hS1, hT1, ⟨hf1, (fun u hu => by cases hu)⟩, (fun u hu => by cases hu), Exp.start hW0, by rw [List.length_map, List.length_range]; omega, rfl⟩, ?_⟩
  rintro m σ H2 ⟨v5, v6, v7, v8, D, T, va, rfl, hS2, hT2, hTab2, hva, hE, hTl, hμ⟩
  have hDl : D.length ≤ 128 := Nat.le_trans (few2 hE.nd fun u hu => ⟨(hE.ok u (.inl hu)).1, by have := (hE.ok u (.inl hu)).2.1; omega⟩) (by omega)
  refine ⟨_, rfl, Nat.zero_le _, fun p0 np0 => ⟨_, _, dp_tz (hT2.same (same_new np0 _)), dp_iz (L := []) upd_same, shaped_tz _, shaped_iz _, _, rfl, ?_⟩⟩
  rw [eqv_tz]
  have hS3 := hS2.trans (same_new np0 (.lst []))
  have hT3 := hT2.same (same_new np0 (.lst []))
  have hTab3 : TabAt ts W (upd H2 p0 (.lst [])) f D va := ⟨same_new np0 _ _ _ hTab2.1, fun u hu => (hTab2.2 u hu).same (same_new np0 _)⟩
  generalize upd H2 p0 (.lst []) = H3 at hS3 hT3 hTab3
  rcases List.eq_nil_or_concat T with rfl | ⟨rest, ⟨hp, hm0⟩, rfl⟩
  · refine iteNot' rfl ⟨_, rfl, ?_⟩
    exact q f D va H3 hE hDl hS3 nf hTab3
  rw [List.concat_eq_append] at *
  refine iteNot (by simp) ?_
  refine ⟨fun σ' H' => ∃ m', m' < m ∧ Pv m' σ' H', fun σ' H' h => h, ?_⟩
  obtain ⟨xs, pt, g1, g2, g3, g4⟩ := hT3.pop
  refine ⟨_, rfl, .inl ⟨rfl, _, SqL.of g1⟩, tl, _, _, rfl, rfl, g1, g2, ?_⟩
  have nptl : pt ≠ tl := ne_of g3 g1 (by intro z; cases z)
  have notup : ∀ ys, H3 tl ≠ some (.tup ys) := fun ys z => by rw [g1] at z; cases z
  have hS4 : Same H (upd H3 tl (.lst xs.dropLast)) := same_upd hS3 ntlH
  have hp4 : (upd H3 tl (.lst xs.dropLast)) pt = some (.tup [.int (hp : Int), .int (hm0 : Int)]) := by rw [upd_ne nptl]; exact g3
  have hTab4 : TabAt ts W (upd H3 tl (.lst xs.dropLast)) f D va := ⟨by rw [upd_ne htlf.symm]; exact hTab3.1, fun u hu => (hTab3.2 u hu).kept kept_upd (hva u hu) notup⟩
  generalize upd H3 tl (.lst xs.dropLast) = H4 at hS4 hp4 hTab4 g4
  refine ⟨_, rfl, _, rfl, f, _, rfl, DGet.t hTab4.1 (k := kk (hp, hm0)) hp4, _, rfl, ?_⟩
  rw [valV_tD]
  have hlast : (hp, hm0) ∈ D ∨ (hp, hm0) ∈ rest ++ [(hp, hm0)] := .inr (List.mem_append_right _ (List.mem_singleton.mpr rfl))
  obtain ⟨hpN, hmW, _⟩ := hE.ok _ hlast
  dsimp only at hpN hmW
  have hTl' : rest.length + 1 ≤ 4 + 11 * D.length := by rw [List.length_append] at hTl; exact hTl
  have hμ' : 11 * (128 - D.length) + (rest.length + 1) = m := by rw [List.length_append] at hμ; exact hμ
  by_cases hin : (hp, hm0) ∈ D
  · rw [if_pos hin]
    exact iteF ⟨_, by omega, _, _, _, _, D, rest, va, rfl, hS4, g4, hTab4, hva, hE.skip hin, by omega, rfl⟩
  rw [if_neg hin]
  refine iteT ⟨Nat.zero_le _, fun v nv => ?_⟩
  have hv4 := same_new nv (.lst [])
  have hf5 := hv4 _ _ hTab4.1
  have hp5 := hv4 _ _ hp4
  have hv5 : upd H4 v (.lst []) v = some (.lst []) := upd_same
  have htl5 := g4.same hv4
  have nvf : v ≠ f := (ne_of_none hTab4.1 nv).symm
  have nvtl : v ≠ tl := by
    obtain ⟨ys, e, _⟩ := g4
    exact (ne_of_none e nv).symm
  have nvva : ∀ u ∈ D, va u ≠ v := fun u hu => by
    obtain ⟨ps, e, _⟩ := hTab4.2 u hu
    exact ne_of_none e nv
  have hS5 := hS4.trans hv4
  have hst5 : ∀ u ∈ D, StL (upd H4 v (.lst [])) (va u) (SL ts W u) := fun u hu => (hTab4.2 u hu).same hv4
  have nvH : H v = none := hS4.free nv
  generalize upd H4 v (.lst []) = H5 at hS5 hf5 hp5 hv5 htl5 hst5
  refine ⟨_, rfl, _, rfl, f, _, rfl, DPut.t hf5 (k := kk (hp, hm0)) hp5 (sml1000 (by unfold tD; rw [List.length_map]; omega)), ?_⟩
  have eput : putK (tD (fun u => .ref (va u)) D) (kk (hp, hm0)) (.ref v) = tD (fun u => .ref ((fun z => if z = (hp, hm0) then v else va z) u)) (D ++ [(hp, hm0)]) := by
    rw [put_tD hin]
    congr 1
    funext z
    by_cases c : z = (hp, hm0)
    · show (if z = (hp, hm0) then V.ref v else V.ref (va z)) = V.ref (if z = (hp, hm0) then v else va z)
      rw [if_pos c, if_pos c]
    · show (if z = (hp, hm0) then V.ref v else V.ref (va z)) = V.ref (if z = (hp, hm0) then v else va z)
      rw [if_neg c, if_neg c]
  rw [eput]
  generalize hvg : (fun z => if z = (hp, hm0) then v else va z) = vb
  have hvb0 : vb (hp, hm0) = v := by rw [← hvg]; exact if_pos rfl
  have hvb : ∀ u ∈ D, vb u = va u := fun u hu => by
    rw [← hvg]
    exact if_neg fun e => hin (by rw [← e]; exact hu)
  have nofT : ∀ ys, H5 f ≠ some (.tup ys) := fun ys z => by rw [hf5] at z; cases z
  have hS6 : Same H (upd H5 f (.dT (tD (fun u => .ref (vb u)) (D ++ [(hp, hm0)])))) := same_upd hS5 nf
  have hf6 : (upd H5 f (.dT (tD (fun u => .ref (vb u)) (D ++ [(hp, hm0)])))) f = some (.dT (tD (fun u => .ref (vb u)) (D ++ [(hp, hm0)]))) := upd_same
  have hp6 : (upd H5 f (.dT (tD (fun u => .ref (vb u)) (D ++ [(hp, hm0)])))) pt = some (.tup [.int (hp : Int), .int (hm0 : Int)]) := by
    rw [upd_ne (ne_of hp5 hf5 (by intro z; cases z))]; exact hp5
  have hv6 : (upd H5 f (.dT (tD (fun u => .ref (vb u)) (D ++ [(hp, hm0)])))) v = some (.lst []) := by rw [upd_ne nvf]; exact hv5
  have htl6 := htl5.keep (a := f) (kept_upd (o := .dT (tD (fun u => .ref (vb u)) (D ++ [(hp, hm0)])))) htlf nofT
  have hst6 : ∀ u ∈ D, StL (upd H5 f (.dT (tD (fun u => .ref (vb u)) (D ++ [(hp, hm0)])))) (va u) (SL ts W u) := fun u hu => (hst5 u hu).kept kept_upd (by
    obtain ⟨ps, e, _⟩ := hst5 u hu
    exact ne_of e hf5 (by intro z; cases z)) nofT
  generalize upd H5 f (.dT (tD (fun u => .ref (vb u)) (D ++ [(hp, hm0)]))) = H6 at hS6 hf6 hp6 hv6 htl6 hst6
  refine ⟨_, rfl, _, rfl, _, _, _, .int (hp : Int), rfl, rfl, SqT.of hp6, rfl, Nat.zero_le _, fun e0 ne0 => ?_⟩
  refine ⟨t, hp, e0, ts, [], rfl, hT.same (hS6.trans (same_new ne0 _)), by omega, upd_same, fun o H8 hS8 no ho8 => ?_⟩
  replace hS8 := (same_new ne0 (.lst [])).trans hS8
  rw [show ((frm ts hp).filter fun x => decide (x ∉ ([] : List Nat))) = frm ts hp from List.filter_eq_self.mpr fun x _ => by simp] at ho8
  have hf8 := hS8 _ _ hf6
  have hp8 := hS8 _ _ hp6
  have hv8 := hS8 _ _ hv6
  have htl8 := htl6.same hS8
  have hst8 : ∀ u ∈ D, StL H8 (va u) (SL ts W u) := fun u hu => (hst6 u hu).same hS8
  have hS08 := hS6.trans hS8
  have hov : o ≠ v := by
    have h6 : H6 o = none := (same_new ne0 (.lst [])).free no
    exact fun z => by rw [z, hv6] at h6; cases h6
  have hotl : o ≠ tl := by
    have h6 : H6 o = none := (same_new ne0 (.lst [])).free no
    obtain ⟨ys, e, _⟩ := htl6
    exact fun z => by rw [z, e] at h6; cases h6
  refine ⟨o, rfl, ⟨_, SqL.of ho8⟩, ?_⟩
  have notR : ∀ a ∈ [v, tl], ∀ ys, H8 a ≠ some (.tup ys) := fun a ha ys z => by
    rcases List.mem_cons.mp ha with e | e
    · rw [e, hv8] at z; cases z
    · rw [List.mem_singleton.mp e] at z
      obtain ⟨ys', e', _⟩ := htl8
      rw [e'] at z; cases z
  have vaR : ∀ u ∈ D, va u ∉ [v, tl] := fun u hu z => by
    rcases List.mem_cons.mp z with e | e
    · exact nvva u hu e
    · exact hva u hu (List.mem_singleton.mp e)
  have fR : f ∉ [v, tl] := fun z => by
    rcases List.mem_cons.mp z with e | e
    · exact nvf e.symm
    · exact htlf (List.mem_singleton.mp e).symm
  have oR : o ∉ [v, tl] := fun z => by
    rcases List.mem_cons.mp z with e | e
    · exact hov e
    · exact hotl (List.mem_singleton.mp e)
  have ptR : pt ∉ [v, tl] := fun z => notR _ z _ hp8
  have hfl : (frm ts hp).length ≤ 10 := Nat.le_trans (frmN_len ts hp _) hm
  refine for_list (K := K) (a := o) (xs := iv (frm ts hp)) (fun i σ H' => ∃ v6 v7 : Option V, σ = [some (.int (N : Int)), some (.ref t), some (.ref s), some (.ref f), some (.ref tl), some (.ref pt), v6, v7, v8] ∧ Same H H' ∧ KeptR [v, tl] H8 H' ∧ TiesAt H' tl (rest ++ (stl ts W hm0 ((frm ts hp).take i)).map Prod.snd) ∧ StL H' v (stl ts W hm0 ((frm ts hp).take i))) ⟨_, _, rfl, hS08, KeptR.refl _ _, (by show TiesAt H8 tl (rest ++ []); rw [List.append_nil]; exact htl8), ⟨[], hv8, .nil⟩⟩ (fun i σ H' _ ⟨_, _, _, _, hk, _⟩ => SqL.of (hk _ _ ho8 oR)) ?_ ?_
  · rintro i y σ H9 hy ⟨v6, v7, rfl, hS9, hk9, hT9, hst9⟩
    obtain ⟨x, hxi, rfl⟩ : ∃ x, (frm ts hp)[i]? = some x ∧ y = V.int (x : Int) := by
      rw [iv, List.getElem?_map] at hy
      cases h : (frm ts hp)[i]? with
      | none => rw [h] at hy; cases hy
      | some o => rw [h] at hy; exact ⟨o, rfl, (Option.some.inj hy).symm⟩
    have hil := (List.getElem?_eq_some_iff.mp hxi).1
    obtain ⟨z, hz⟩ := frm_mem.mp (List.mem_of_getElem? hxi)
    have hltr : ltr ts W hm0 x = (z, nxt W hm0 x) := by
      unfold ltr
      rw [List.getD_eq_getElem?_getD, hz]; rfl
    have hstep := stl_snoc (ts := ts) (W := W) (m := hm0) hxi
    rw [hltr] at hstep
    obtain ⟨tas, p, k1, k2, k3⟩ := (hT.same hS9).at_ hz
    have hp9 := hk9 _ _ hp8 ptR
    have hsl : (stl ts W hm0 ((frm ts hp).take i)).length ≤ i := by
      have := stl_le ts W ((frm ts hp).take i) hm0
      rw [List.length_take] at this
      omega
    refine ⟨_, rfl, _, rfl, _, _, _, .ref p, rfl, rfl, SqL.of k1, k2, _, _, _, .int (z : Int), rfl, rfl, SqT.of k3, rfl, _, rfl, _, rfl, _, _, _, .int (hm0 : Int), rfl, rfl, SqT.of hp9, rfl, _, rfl, s, W, hm0, x, rfl, hS9 _ _ hs, hW, by omega, fun H10 hS10 => ⟨(by show 2 ≤ sizeLine; decide), fun tq ntq => ?_⟩⟩
    have hS11 := hS10.trans (same_new ntq (.tup [V.int (z : Int), V.int (nxt W hm0 x : Int)]))
    have htq : upd H10 tq (.tup [V.int (z : Int), V.int (nxt W hm0 x : Int)]) tq = some (.tup [V.int (z : Int), V.int (nxt W hm0 x : Int)]) := upd_same
    generalize upd H10 tq (.tup [V.int (z : Int), V.int (nxt W hm0 x : Int)]) = H11 at hS11 htq
    have hS911 := hS9.trans hS11
    have hk11 : KeptR [v, tl] H8 H11 := fun b o' e n => hS11 _ _ (hk9 _ _ e n)
    have hT11 := hT9.same hS11
    have hst11 := hst9.same hS11
    refine ⟨_, rfl, _, _, _, .int (nxt W hm0 x : Int), rfl, rfl, SqT.of htq, rfl, _, rfl, s, _, rfl, .inl (SqL.of (hS911 _ _ hs)), _, _, rfl, rfl, _, rfl, ?_⟩
    rw [show (iv W).length = W.length from List.length_map ..]
    by_cases c : nxt W hm0 x < W.length
    · refine iteYes (by omega) ?_
      rw [if_pos c] at hstep
      have hget : DGet H11 f (.ref pt) (some (.ref v)) := by
        have := DGet.t (hk11 _ _ hf8 fR) (k := kk (hp, hm0)) (hk11 _ _ hp8 ptR)
        rw [valV_tD, if_pos (List.mem_append_right _ (List.mem_singleton.mpr rfl)), hvb0] at this
        exact this
      obtain ⟨ps0, e10, _⟩ := id hst11
      refine ⟨_, rfl, _, rfl, f, _, rfl, hget, .inl ⟨rfl, _, SqL.of e10⟩, _, rfl, _, rfl, (by show 2 ≤ sizeLine; decide), fun tp ntp => ?_⟩
      have hn12 := same_new ntp (.tup [V.int (x : Int), V.ref tq])
      obtain ⟨xs, e1, e1l, e2⟩ := (hst11.same hn12).push (tp := tp) (q := tq) (x := x) (u := (z, nxt W hm0 x)) upd_same (hn12 _ _ htq)
      refine ⟨v, _, _, rfl, rfl, e1, sml1000 (by omega), ?_⟩
      have hT12 := (hT11.same hn12).keep (a := v) (kept_upd (o := .lst (xs ++ [.ref tp]))) nvtl.symm (fun ys q => by rw [e1] at q; cases q)
      have hk12 : KeptR [v, tl] H8 (upd (upd H11 tp (.tup [V.int (x : Int), V.ref tq])) v (.lst (xs ++ [.ref tp]))) := KeptR.put (hk11.new ntp) (List.mem_cons_self ..)
      have hS12 : Same H (upd (upd H11 tp (.tup [V.int (x : Int), V.ref tq])) v (.lst (xs ++ [.ref tp]))) := same_upd (hS911.trans hn12) nvH
      have htq12 : (upd (upd H11 tp (.tup [V.int (x : Int), V.ref tq])) v (.lst (xs ++ [.ref tp]))) tq = some (.tup [V.int (z : Int), V.int (nxt W hm0 x : Int)]) := by
        have h := hn12 _ _ htq
        rw [upd_ne (ne_of h e1 (by intro q; cases q))]
        exact h
      generalize upd (upd H11 tp (.tup [V.int (x : Int), V.ref tq])) v (.lst (xs ++ [.ref tp])) = H12 at hT12 hk12 hS12 htq12 e2
      obtain ⟨ys, d1, d2, d3⟩ := hT12.addT (u := (z, nxt W hm0 x)) htq12
      refine ⟨_, rfl, .inl ⟨rfl, _, SqL.of d1⟩, _, rfl, tl, _, _, rfl, rfl, d1, ?_, ?_⟩
      · rw [d2, List.length_append, List.length_map]
        exact Nat.lt_of_lt_of_le (show _ < 2000 by omega) (by decide)
      refine ⟨_, _, rfl, same_upd hS12 ntlH, KeptR.put hk12 (List.mem_cons_of_mem _ (List.mem_cons_self ..)), ?_, ?_⟩
      · rw [hstep, List.map_append, ← List.append_assoc]
        exact d3
      · rw [hstep]
        exact e2.kept kept_upd nvtl (fun ys q => by rw [d1] at q; cases q)
    · refine iteNo (by omega) ?_
      rw [if_neg c, List.append_nil] at hstep
      refine ⟨_, _, rfl, hS911, hk11, by rw [hstep]; exact hT11, by rw [hstep]; exact hst11⟩
  · rintro σ H9 ⟨v6, v7, rfl, hS9, hk9, hT9, hst9⟩
    rw [show (iv (frm ts hp)).length = (frm ts hp).length from List.length_map .., List.take_length] at hT9 hst9
    have hSl := SL_len ts W (hp, hm0)
    have hDl2 : (D ++ [(hp, hm0)]).length = D.length + 1 := by rw [List.length_append]; rfl
    have hD128 : D.length + 1 ≤ 128 := by
      have := (hE.more ho hin).nd
      have := few2 (N := N) this fun u hu => by
        have := (hE.more ho hin).ok u (.inl hu)
        exact ⟨this.1, by omega⟩
      rw [hDl2] at this
      omega
    refine ⟨_, ?_, _, _, _, _, D ++ [(hp, hm0)], rest ++ (SL ts W (hp, hm0)).map Prod.snd, vb, rfl, hS9, hT9, ⟨hk9 _ _ hf8 fR, fun u hu => ?_⟩, fun u hu => ?_, hE.more ho hin, ?_, rfl⟩
    · rw [hDl2, List.length_append, List.length_map]
      omega
    · rcases List.mem_append.mp hu with h | h
      · rw [hvb u h]
        exact (hst8 u h).keptR hk9 (vaR u h) notR
      · rw [List.mem_singleton.mp h, hvb0]
        exact hst9
    · rcases List.mem_append.mp hu with h | h
      · rw [hvb u h]; exact hva u h
      · rw [List.mem_singleton.mp h, hvb0]; exact nvtl
    · rw [hDl2, List.length_append, List.length_map]
      omega
end
end My
/-! {k: v}, k a tuple of whole numbers and texts -/
namespace My
open PySem PySem.Spec PyProof.Rows L2
def tDispT (trs : List (TE × TE)) : TE := fun σ H Q => ∀ p, H p = none → tPairs trs σ (upd H p (.dT [])) fun ps H2 => H2 p = some (.dT []) ∧ ∃ (b : Addr) (k : List Key) (y : V), ps = [(.ref b, y)] ∧ H2 b = some (.tup (k.map kV)) ∧ Q (.ref p) (upd H2 p (.dT [(k, y)]))
theorem pe_dispT {X : Cx} {pos : Pos} {k v : Expr} {trs : List (TE × TE)} (hu : X.A.units + 1 < cLine) (h : PPs X pos [some k] [v] trs) : PE X (.Dict [some k] [v] pos) (tDispT trs) := by
  refine ⟨fun pins s σ H Q I q => ?_⟩
  have hn := I.hok.fresh (Nat.le_refl s.heap.objs.size)
  have I1 := I.laid (a := s.heap.objs.size) (o := .dT []) (h' := s.heap.push { cls := .type "dict", data := .dict #[] }) (t' := s.toks) (fun _ _ q => Heap.get?_push_of_some _ q) (Nat.le_refl _) (dt_empty s.heap I.big)
  rw [arm_eval_Dict, zip_pairTrees [some k] [v] X.env pos rfl rfl, dictDisplay_pairs _ (by intro z; cases z) (by rw [pairTrees_length [some k] [v] X.env pos rfl rfl]; exact Nat.le_of_ble_eq_true rfl)]
  refine wpAny_bind (wpAny_standAt (wpAny_bind (wpAny_subDictH (knd := tupleKind (mixKind X.prog X.w)) (Nat.lt_of_succ_lt hu) (by rw [pairTrees_length [some k] [v] X.env pos rfl rfl]; exact Nat.le_of_ble_eq_true rfl) ?_)))
  refine thn (h.run pins _ σ _ _ I1 (q _ hn)) fun ws s2 ⟨ps, H2, I2, rel, e, b, kx, y, ep, eb, q2⟩ => ?_
  subst ep
  cases rel with
  | @cons p0 q0 ps0 qs0 r rr =>
    cases rr
    obtain ⟨k0, v0⟩ := q0
    obtain ⟨r1, r2⟩ := r
    cases (show k0 = Value.ref b from r1)
    obtain ⟨z, hd, xs, rel, dd⟩ := dt_of I2.hok e
    cases rel
    refine ⟨[(kx, b, v0)], ⟨rfl, rfl, key_of I2.hok eb, trivial⟩, dd, fun h' tk dd' hs => ?_⟩
    refine wpAny_pure ⟨.ref s.heap.objs.size, _, ?_, rfl, q2⟩
    obtain ⟨o, es, ep, hq, h2, h3, h4, _, h5⟩ := dd'
    refine d_write I2 (by rw [e]; exact True.intro) hs ⟨o, hq⟩ ⟨by rw [sizeLine_eq]; simp, hd, [(kx, b, v0)], .cons ⟨rfl, ?_, r2⟩ .nil, o, es, ep, hq, h2, h3, h4, h5⟩
    show upd _ _ _ b = _
    rw [upd_ne (ne_of eb e (fun z => nomatch z))]
    exact eb
end My
set_option maxHeartbeats 4000000
namespace My
open PySem L2 PyProof.Rows
theorem Rd.same {H H' : Hp} {a : Addr} {u : HO} (h : Rd H a u) (s : Same H H') : Rd H' a u := by
  rcases h with h | ⟨o, h⟩
  · exact .inl (s _ _ h)
  · exact .inr ⟨o, s _ _ h⟩
def TabR (ts : List (Nat × Nat)) (W : List Nat) (H : Hp) (f : Addr) (D : List (Nat × Nat)) (va : Nat × Nat → Addr) : Prop := Rd H f (.dT (tD (fun u => .ref (va u)) D)) ∧ ∀ u ∈ D, StL H (va u) (SL ts W u)
theorem TabR.same {ts : List (Nat × Nat)} {W : List Nat} {H H' : Hp} {f : Addr} {D : List (Nat × Nat)} {va : Nat × Nat → Addr} (h : TabR ts W H f D va) (s : Same H H') : TabR ts W H' f D va := ⟨Rd.same h.1 s, fun u hu => (h.2 u hu).same s⟩
theorem TabR.get {ts : List (Nat × Nat)} {W : List Nat} {H : Hp} {f p : Addr} {D : List (Nat × Nat)} {va : Nat × Nat → Addr} (h : TabR ts W H f D va) {u : Nat × Nat} (hu : u ∈ D) (hp : H p = some (.tup [.int (u.1 : Int), .int (u.2 : Int)])) : DGet H f (.ref p) (some (.ref (va u))) :=
  .inr ⟨_, kk u, p, h.1, rfl, hp, by rw [valV_tD, if_pos hu]⟩
section
variable {ts : List (Nat × Nat)} {W : List Nat} {D C T : List (Nat × Nat)} {u : Nat × Nat}
def Cls (ts : List (Nat × Nat)) (W : List Nat) (C : List (Nat × Nat)) (y : Nat × Nat) : Prop := ∀ x v, Stp ts W y x v → v ∈ C
/-- C: what was found from u, T: what is left of it -/
structure Cmg (ts : List (Nat × Nat)) (W : List Nat) (D : List (Nat × Nat)) (u : Nat × Nat) (C T : List (Nat × Nat)) : Prop where
  nd : C.Nodup
  has : u ∈ C
  ok : ∀ z ∈ C, Cm ts W u z ∧ z ∈ D
  sub : ∀ z ∈ T, z ∈ C
  cl : ∀ z ∈ C, z ∉ T → Cls ts W C z
structure Cmi (ts : List (Nat × Nat)) (W : List Nat) (D : List (Nat × Nat)) (u z : Nat × Nat) (S : List (Nat × (Nat × Nat))) (C T : List (Nat × Nat)) : Prop where
  nd : C.Nodup
  has : u ∈ C
  zin : z ∈ C
  ok : ∀ z ∈ C, Cm ts W u z ∧ z ∈ D
  sub : ∀ z ∈ T, z ∈ C
  cl : ∀ y ∈ C, y ∉ T → y = z ∨ Cls ts W C y
  dn : ∀ e ∈ S, e.2 ∈ C
theorem Cmg.start (hu : u ∈ D) : Cmg ts W D u [u] [u] where
  nd := List.nodup_cons.mpr ⟨List.not_mem_nil, List.nodup_nil⟩
  has := List.mem_singleton.mpr rfl
  ok := fun z hz => by rw [List.mem_singleton.mp hz]; exact ⟨Cm.refl _, hu⟩
  sub := fun z hz => hz
  cl := fun z hz hn => absurd hz hn
theorem Cmg.pop {z : Nat × Nat} (h : Cmg ts W D u C (T ++ [z])) : Cmi ts W D u z [] C T where
  nd := h.nd
  has := h.has
  zin := h.sub z (List.mem_append_right _ (List.mem_singleton.mpr rfl))
  ok := h.ok
  sub := fun y hy => h.sub y (List.mem_append_left _ hy)
  cl := fun y hy hn => by
    by_cases c : y = z
    · exact .inl c
    · exact .inr (h.cl y hy fun q => (List.mem_append.mp q).elim hn fun r => c (List.mem_singleton.mp r))
  dn := fun e he => by cases he
theorem Cmi.old {z v : Nat × Nat} {x : Nat} {S : List (Nat × (Nat × Nat))} (h : Cmi ts W D u z S C T) (hv : v ∈ C) : Cmi ts W D u z (S ++ [(x, v)]) C T :=
  { h with dn := fun e he => (List.mem_append.mp he).elim (h.dn e) fun q => by rw [List.mem_singleton.mp q]; exact hv }
theorem Cmi.new {z v : Nat × Nat} {x : Nat} {S : List (Nat × (Nat × Nat))} (h : Cmi ts W D u z S C T) (hv : v ∉ C) (hs : Stp ts W z x v) (hD : v ∈ D) : Cmi ts W D u z (S ++ [(x, v)]) (C ++ [v]) (T ++ [v]) where
  nd := by
    rw [List.nodup_append]
    exact ⟨h.nd, List.nodup_cons.mpr ⟨List.not_mem_nil, List.nodup_nil⟩, fun a ha b hb q => hv (by rw [List.mem_singleton.mp hb] at q; rw [← q]; exact ha)⟩
  has := List.mem_append_left _ h.has
  zin := List.mem_append_left _ h.zin
  ok := fun y hy => (List.mem_append.mp hy).elim (h.ok y) fun q => by rw [List.mem_singleton.mp q]; exact ⟨(h.ok z h.zin).1.step hs, hD⟩
  sub := fun y hy => (List.mem_append.mp hy).elim (fun q => List.mem_append_left _ (h.sub y q)) fun q => List.mem_append_right _ q
  cl := fun y hy hn => by
    rcases List.mem_append.mp hy with q | q
    · exact (h.cl y q fun r => hn (List.mem_append_left _ r)).imp id fun r x' v' hs' => List.mem_append_left _ (r x' v' hs')
    · exact absurd (List.mem_append_right _ q) hn
  dn := fun e he => (List.mem_append.mp he).elim (fun q => List.mem_append_left _ (h.dn e q)) fun q => List.mem_append_right _ (by rw [List.mem_singleton.mp q]; exact List.mem_singleton.mpr rfl)
theorem Cmi.done {z : Nat × Nat} (h : Cmi ts W D u z (SL ts W z) C T) : Cmg ts W D u C T :=
  { nd := h.nd, has := h.has, ok := h.ok, sub := h.sub, cl := fun y hy hn => (h.cl y hy hn).elim (fun e x v hs => h.dn (x, v) (SL_mem.mpr (by rw [← e]; exact hs))) id }
theorem Cmg.all (h : Cmg ts W D u C []) : ∀ z, z ∈ C ↔ Cm ts W u z := fun z => by
  refine ⟨fun hz => (h.ok z hz).1, fun ⟨A, hA⟩ => ?_⟩
  have : ∀ (A : List Nat) (y z : Nat × Nat), y ∈ C → Run ts W y A z → z ∈ C := by
    intro A
    induction A with
    | nil => intro y z hy hr; rw [← show y = z from hr]; exact hy
    | cons x A ih =>
      rintro y z hy ⟨v, h1, h2⟩
      exact ih v z (h.cl y hy List.not_mem_nil x v h1) h2
  exact this A u z h.has hA
end
section
variable {P : Program} {w : World} {K : PySem.W.Frag} {mg : Str → Option Value} {base : Heap} {C : Addr}
def sp_law_come (_ : PySem.W.Frag) (_ : Addr) : Sp := fun vs H Q _ => ∃ d b u N ts W D va, vs = [.ref d, .ref b] ∧ H b = some (.tup [.int ((u.1 : Nat) : Int), .int ((u.2 : Nat) : Int)]) ∧ u ∈ D ∧ N ≤ 4 ∧ W.length ≤ 21 ∧ Exp ts W N D [] ∧ TabR ts W H d D va ∧
  ∀ f E H', E.Nodup → E.length ≤ 128 → (∀ z, z ∈ E ↔ Cm ts W u z) → (∀ z ∈ E, z ∈ D) → Same H H' → H f = none → H' f = some (.dT (tD (fun _ => .bl true) E)) → Q (.ref f) H'
theorem ok_law_come (D : Def K mg "_law_come" s_law_come ["_law_steps_here", "_law_first"]) (B : Bs mg) (Glb : Glo mg) (WK : WebK K mg C) :
    Good P w K mg base "_law_come" s_law_come ["_law_steps_here", "_law_first"] 1 (sp_law_come K C) := by
  refine D.good fun f fd F => ?_
  refine F.ok sc_law_come (fun vs H Q E h => ?_) (fun cdv A outer s H vs Q E hr h => ?_)
  · obtain ⟨d, b, u, N, ts, W, D, va, rfl, hb, huD, hN, hW, hE, hTab, q⟩ := h
    first | rfl | (rcases h with ⟨_, _, rfl, _⟩ | ⟨_, rfl, _⟩ <;> rfl)
  obtain ⟨d, b, u, N, ts, W, D, va, rfl, hb, huD, hN, hW, hE, hTab, q⟩ := h
  refine ⟨_, (pss_cons (ps_par (i := 2) (j := 3) (by rfl) sc_law_come.nd rfl rfl (by decide) rfl rfl (pa_cons (pe_dispT (hu_of hr) (pps_cons (pv 1) pe_bl pps_nil)) (pa_cons (pe_lst (pa_cons (pv 1) pa_nil)) pa_nil)) (by rfl))
  (pss_cons (ps_while PassesOwn.never (pt_cmpR (op_neD hr.units) (pv 3) (pe_lst pa_nil) (nomark _))
    (pss_one (ps_for PassesOwn.never rfl (pi_list (pe_dget (hu_of hr) (pv 0) (pe_bm0 PySem.F.plainAttrs_list PySem.F.slot_list_pop PySem.F.type_list_pop mt_pop (pv 3)) (fun _ _ => rfl))) (pg_tup rfl (pgs_cons (pg_name (i := 4) sc_law_come.nd rfl (by first | exact Or.inl rfl | exact Or.inr rfl)) (pgs_cons (pg_name (i := 5) sc_law_come.nd rfl (by first | exact Or.inl rfl | exact Or.inr rfl)) pgs_nil)))
    (pss_one (ps_if (pt_cmp (pc_dnotin (hu_of hr) (pv 5) (pv 2)))
    (pss_cons (ps_dput (hu_of hr) (pv 2) (pv 5) pe_bl rfl)
  (pss_one (ps_expr (pe_bm PySem.F.plainAttrs_list PySem.F.slot_list_append PySem.F.type_list_append mt_append (pv 3) (pa_cons (pv 5) pa_nil))))) pss_nil)))))
  (pss_one (ps_ret (pv 2))))), ?_⟩
  refine fun f nf => ⟨_, rfl, upd_same, b, kk u, .bl true, rfl, same_new nf _ _ _ hb, _, rfl, (by show 1 ≤ sizeLine; decide), fun tl ntl => ?_⟩
  refine ⟨_, _, rfl, ?_⟩
  have hn1 := same_new nf (.dT [])
  have hf1 : upd (upd H f (.dT [])) f (.dT [(kk u, .bl true)]) f = some (.dT (tD (fun _ => .bl true) [u])) := upd_same
  have hS1 : Same H (upd (upd H f (.dT [])) f (.dT [(kk u, .bl true)])) := same_upd hn1 nf
  have ntlf : tl ≠ f := (ne_of_none hf1 ntl).symm
  have ntlH : H tl = none := hS1.free ntl
  have hb1 := hS1 _ _ hb
  generalize upd (upd H f (.dT [])) f (.dT [(kk u, .bl true)]) = H1 at hf1 hS1 ntl hb1
  have hf2 := same_new ntl (.lst [V.ref b]) _ _ hf1
  have hS2 := hS1.trans (same_new ntl (.lst [V.ref b]))
  have hT2 : TiesAt (upd H1 tl (.lst [V.ref b])) tl [u] := ⟨[b], upd_same, .cons (same_new ntl _ _ _ hb1) .nil⟩
  generalize upd H1 tl (.lst [V.ref b]) = H2 at hf2 hS2 hT2
  let Pv : Nat → L2.St → Hp → Prop := fun m σ H' => ∃ (v4 v5 : Option V) (E T : List (Nat × Nat)), σ = [some (.ref d), some (.ref b), some (.ref f), some (.ref tl), v4, v5] ∧ Same H H' ∧ H' f = some (.dT (tD (fun _ => .bl true) E)) ∧ TiesAt H' tl T ∧ Cmg ts W D u E T ∧ T.length ≤ E.length ∧ 2 * (128 - E.length) + T.length = m
  refine ⟨Pv, ⟨_, _, _, [u], [u], rfl, hS2, hf2, hT2, Cmg.start huD, Nat.le_refl _, rfl⟩, ?_⟩
  have hsz : ∀ E : List (Nat × Nat), E.Nodup → (∀ z ∈ E, z ∈ D) → E.length ≤ 128 := fun E h1 h2 => Nat.le_trans (few2 h1 fun z hz => ⟨(hE.ok z (.inl (h2 z hz))).1, by have := (hE.ok z (.inl (h2 z hz))).2.1; omega⟩) (by omega)
  rintro m σ H3 ⟨v4, v5, E, T, rfl, hS3, hf3, hT3, hC, hTE, hμ⟩
  have hEl := hsz E hC.nd fun z hz => (hC.ok z hz).2
  refine ⟨_, rfl, Nat.zero_le _, fun p0 np0 => ⟨_, _, dp_tz (hT3.same (same_new np0 _)), dp_iz (L := []) upd_same, shaped_tz _, shaped_iz _, _, rfl, ?_⟩⟩
  rw [eqv_tz]
  have hS4 := hS3.trans (same_new np0 (.lst []))
  have hT4 := hT3.same (same_new np0 (.lst []))
  have hf4 := same_new np0 (.lst []) _ _ hf3
  generalize upd H3 p0 (.lst []) = H4 at hS4 hT4 hf4
  rcases List.eq_nil_or_concat T with rfl | ⟨rest, z, rfl⟩
  · refine iteNot' rfl ⟨_, rfl, ?_⟩
    exact q f E H4 hC.nd hEl hC.all (fun z hz => (hC.ok z hz).2) hS4 nf hf4
  rw [List.concat_eq_append] at *
  refine iteNot (by simp) ?_
  refine ⟨fun σ' H' => ∃ m', m' < m ∧ Pv m' σ' H', fun σ' H' h => h, ?_⟩
  obtain ⟨xs, pt, g1, g2, g3, g4⟩ := hT4.pop
  have nptl : pt ≠ tl := ne_of g3 g1 (by intro z; cases z)
  have hS5 : Same H (upd H4 tl (.lst xs.dropLast)) := same_upd hS4 ntlH
  have hp5 : (upd H4 tl (.lst xs.dropLast)) pt = some (.tup [.int (z.1 : Int), .int (z.2 : Int)]) := by rw [upd_ne nptl]; exact g3
  have hf5 : (upd H4 tl (.lst xs.dropLast)) f = some (.dT (tD (fun _ => .bl true) E)) := by rw [upd_ne ntlf.symm]; exact hf4
  refine ⟨_, rfl, _, rfl, .inl ⟨rfl, _, SqL.of g1⟩, tl, _, _, rfl, rfl, g1, g2, ?_⟩
  generalize upd H4 tl (.lst xs.dropLast) = H5 at hS5 hp5 hf5 g4
  have hI := hC.pop
  have hzD := (hC.ok z hI.zin).2
  have hTl : rest.length + 1 ≤ E.length := by rw [List.length_append] at hTE; exact hTE
  have hμ' : 2 * (128 - E.length) + (rest.length + 1) = m := by rw [List.length_append] at hμ; exact hμ
  obtain ⟨ps, s1, s2⟩ := hTab.2 z hzD
  refine ⟨d, .ref (va z), rfl, (hTab.same hS5).get hzD hp5, va z, rfl, ⟨_, SqL.of (hS5 _ _ s1)⟩, ?_⟩
  refine for_list (K := K) (a := va z) (xs := ps.map V.ref) (fun i σ H' => ∃ (v4 v5 : Option V) (E T : List (Nat × Nat)), σ = [some (.ref d), some (.ref b), some (.ref f), some (.ref tl), v4, v5] ∧ Same H H' ∧ H' f = some (.dT (tD (fun _ => .bl true) E)) ∧ TiesAt H' tl T ∧ Cmi ts W D u z ((SL ts W z).take i) E T ∧ T.length + 1 ≤ E.length ∧ 2 * (128 - E.length) + T.length < m) ⟨_, _, E, rest, rfl, hS5, hf5, g4, hI, hTl, by omega⟩ (fun i σ H' _ ⟨_, _, _, _, _, hS', _⟩ => SqL.of (hS' _ _ s1)) ?_ ?_
  · rintro i y σ H6 hy ⟨v4, v5, E6, T6, rfl, hS6, hf6, hT6, hI6, hTl6, hμ6⟩
    rw [List.getElem?_map] at hy
    obtain ⟨p, hpi, rfl⟩ := Option.map_eq_some_iff.mp hy
    obtain ⟨⟨x, v⟩, he, q', t1, t2⟩ := paired_get s2 hpi
    have hstp := SL_mem.mp (List.mem_of_getElem? he)
    have hvD : v ∈ D := (hE.cl z hzD x v hstp).elim id fun r => by cases r
    have htk : (SL ts W z).take (i + 1) = (SL ts W z).take i ++ [(x, v)] := by rw [List.take_succ, he]; rfl
    have hq6 := hS6 _ _ t2
    refine ⟨p, _, rfl, SqT.of (hS6 _ _ t1), rfl, _, _, rfl, _, _, rfl, rfl, ?_⟩
    refine ⟨_, rfl, _, rfl, f, _, rfl, DGet.t hf6 (k := kk v) hq6, _, rfl, ?_⟩
    rw [valV_tD]
    by_cases c : v ∈ E6
    · rw [if_pos c]
      exact iteF ⟨_, _, E6, T6, rfl, hS6, hf6, hT6, by rw [htk]; exact hI6.old c, hTl6, hμ6⟩
    · rw [if_neg c]
      have hN6 := hI6.new c hstp hvD
      have hsz6 := hsz _ hN6.nd fun y hy => (hN6.ok y hy).2
      rw [List.length_append, List.length_singleton] at hsz6
      refine iteT ⟨_, rfl, _, rfl, f, _, rfl, DPut.t hf6 (k := kk v) hq6 (sml1000 (by unfold tD; rw [List.length_map]; omega)), ?_⟩
      have eput : putK (tD (fun _ => .bl true) E6) (kk v) (.bl true) = tD (fun _ => .bl true) (E6 ++ [v]) := by
        rw [put_tD c]
        congr 1
        funext y
        split <;> rfl
      rw [eput]
      have hS7 : Same H (upd H6 f (.dT (tD (fun _ => .bl true) (E6 ++ [v])))) := same_upd hS6 nf
      have hf7 : (upd H6 f (.dT (tD (fun _ => .bl true) (E6 ++ [v])))) f = some (.dT (tD (fun _ => .bl true) (E6 ++ [v]))) := upd_same
      have hT7 := hT6.keep (a := f) (kept_upd (o := .dT (tD (fun _ => .bl true) (E6 ++ [v])))) ntlf (fun ys q => by rw [hf6] at q; cases q)
      have hq7 := hS7 _ _ t2
      generalize upd H6 f (.dT (tD (fun _ => .bl true) (E6 ++ [v]))) = H7 at hS7 hf7 hT7 hq7
      obtain ⟨ys, d1, d2, d3⟩ := hT7.addT (u := v) hq7
      refine ⟨_, rfl, .inl ⟨rfl, _, SqL.of d1⟩, _, rfl, tl, _, _, rfl, rfl, d1, sml1000 (by omega), ?_⟩
      refine ⟨_, _, E6 ++ [v], T6 ++ [v], rfl, same_upd hS7 ntlH, by rw [upd_ne ntlf.symm]; exact hf7, d3, by rw [htk]; exact hN6, ?_, ?_⟩
      · rw [List.length_append, List.length_append]
        exact Nat.add_le_add_right hTl6 1
      · rw [List.length_append, List.length_append]
        show 2 * (128 - (E6.length + 1)) + (T6.length + 1) < m
        omega
  · rintro σ H6 ⟨v4, v5, E6, T6, rfl, hS6, hf6, hT6, hI6, hTl6, hμ6⟩
    rw [List.length_map, paired_len s2, List.take_length] at hI6
    exact ⟨_, hμ6, _, _, E6, T6, rfl, hS6, hf6, hT6, hI6.done, by omega, rfl⟩
end
end My
set_option maxHeartbeats 4000000
namespace My
open PySem L2 PyProof.Rows
theorem put_tR {ca : Nat × Nat → Addr} {D : List (Nat × Nat)} {u : Nat × Nat} {f : Addr} (h : u ∉ D) : putK (tD (fun z => .ref (ca z)) D) (kk u) (.ref f) = tD (fun z => .ref ((fun z => if z = u then f else ca z) z)) (D ++ [u]) := by
  rw [put_tD h]
  congr 1
  funext z
  by_cases c : z = u
  · show (if z = u then V.ref f else V.ref (ca z)) = V.ref (if z = u then f else ca z)
    rw [if_pos c, if_pos c]
  · show (if z = u then V.ref f else V.ref (ca z)) = V.ref (if z = u then f else ca z)
    rw [if_neg c, if_neg c]
theorem few3 {N : Nat} {D : List (Nat × Nat)} (h : D.Nodup) (ok : ∀ u ∈ D, u.1 < N ∧ u.2 < 8) : D.length ≤ N * 8 := by
  have : (D.map fun u => u.1 * 8 + u.2).Nodup := by
    refine List.pairwise_map.mpr (List.Pairwise.imp_of_mem (fun {a b} ha hb hab z => hab ?_) h)
    have := ok a ha
    have := ok b hb
    obtain ⟨a1, a2⟩ := a
    obtain ⟨b1, b2⟩ := b
    dsimp only at *
    have e1 : a1 = b1 := by omega
    have e2 : a2 = b2 := by omega
    rw [e1, e2]
  have := few (N := N * 8) this fun x hx => by
    obtain ⟨u, hu, rfl⟩ := List.mem_map.mp hx
    have := ok u hu
    omega
  rwa [List.length_map] at this
/-- the dict of what is found from each of D -/
def FullAt (H : Hp) (c : Addr) (D : List (Nat × Nat)) (ca : Nat × Nat → Addr) (E : Nat × Nat → List (Nat × Nat)) : Prop := H c = some (.dT (tD (fun u => .ref (ca u)) D)) ∧ ∀ u ∈ D, Rd H (ca u) (.dT (tD (fun _ => .bl true) (E u)))
theorem FullAt.same {H H' : Hp} {c : Addr} {D : List (Nat × Nat)} {ca : Nat × Nat → Addr} {E : Nat × Nat → List (Nat × Nat)} (h : FullAt H c D ca E) (s : Same H H') : FullAt H' c D ca E := ⟨s _ _ h.1, fun u hu => Rd.same (h.2 u hu) s⟩
theorem FullAt.get {H : Hp} {c p : Addr} {D : List (Nat × Nat)} {ca : Nat × Nat → Addr} {E : Nat × Nat → List (Nat × Nat)} (h : FullAt H c D ca E) {u : Nat × Nat} (hu : u ∈ D) (hp : H p = some (.tup [.int (u.1 : Int), .int (u.2 : Int)])) : DGet H c (.ref p) (some (.ref (ca u))) :=
  .inr ⟨_, kk u, p, .inl h.1, rfl, hp, by rw [valV_tD, if_pos hu]⟩
theorem FullAt.has {H : Hp} {c p : Addr} {D : List (Nat × Nat)} {ca : Nat × Nat → Addr} {E : Nat × Nat → List (Nat × Nat)} (h : FullAt H c D ca E) {u v : Nat × Nat} (hu : u ∈ D) (hp : H p = some (.tup [.int (v.1 : Int), .int (v.2 : Int)])) : DGet H (ca u) (.ref p) (if v ∈ E u then some (.bl true) else none) :=
  .inr ⟨_, kk v, p, h.2 u hu, rfl, hp, by rw [valV_tD]⟩
theorem FullAt.keptR {H H' : Hp} {R : List Addr} {c : Addr} {D : List (Nat × Nat)} {ca : Nat × Nat → Addr} {E : Nat × Nat → List (Nat × Nat)} (h : FullAt H c D ca E) (k : KeptR R H H') (hR : ∀ a ∈ R, ∃ xs, H a = some (.lst xs)) : FullAt H' c D ca E := by
  refine ⟨k _ _ h.1 fun z => ?_, fun u hu => ?_⟩
  · obtain ⟨xs, e⟩ := hR _ z
    rw [h.1] at e; cases e
  · rcases h.2 u hu with e | ⟨o, e⟩
    · refine .inl (k _ _ e fun z => ?_)
      obtain ⟨xs, e'⟩ := hR _ z
      rw [e] at e'; cases e'
    · refine .inr ⟨o, k _ _ e fun z => ?_⟩
      obtain ⟨xs, e'⟩ := hR _ z
      rw [e] at e'; cases e'
theorem Exp.reach {ts : List (Nat × Nat)} {W : List Nat} {N : Nat} {D : List (Nat × Nat)} (hE : Exp ts W N D []) : ∀ (A : List Nat) (y z : Nat × Nat), y ∈ D → Run ts W y A z → z ∈ D
  | [], y, z, hy, hr => by rw [← show y = z from hr]; exact hy
  | x :: A, y, z, hy, ⟨v, h1, h2⟩ => hE.reach A v z ((hE.cl y hy x v h1).elim id fun r => by cases r) h2
theorem isSome_if {p : Prop} [Decidable p] {x : V} : (if p then some x else none).isSome = decide p := by
  by_cases c : p
  · rw [if_pos c, decide_eq_true c]; rfl
  · rw [if_neg c, decide_eq_false c]; rfl
/-- the ties along which one can go from h and come back, out of the standing s -/
def wit (ts : List (Nat × Nat)) (W : List Nat) (E : Nat × Nat → List (Nat × Nat)) (h s : Nat × Nat) : List Nat := if h ∈ E s then ((SL ts W s).filter fun e => decide (h ∈ E e.2) && decide (e.2 ∈ E h)).map Prod.fst else []
theorem wit_len {ts : List (Nat × Nat)} {W : List Nat} {E : Nat × Nat → List (Nat × Nat)} {h s : Nat × Nat} : (wit ts W E h s).length ≤ ts.length := by
  unfold wit
  split
  · rw [List.length_map]
    exact Nat.le_trans (List.length_filter_le ..) (SL_len ts W s)
  · exact Nat.zero_le _
theorem wit_mem {ts : List (Nat × Nat)} {W : List Nat} {E : Nat × Nat → List (Nat × Nat)} {h s : Nat × Nat} {x : Nat} : x ∈ wit ts W E h s ↔ h ∈ E s ∧ ∃ u, Stp ts W s x u ∧ h ∈ E u ∧ u ∈ E h := by
  unfold wit
  split
  · rename_i c
    rw [List.mem_map]
    constructor
    · rintro ⟨⟨y, u⟩, h1, rfl⟩
      have h2 := List.mem_filter.mp h1
      have h3 := h2.2
      rw [Bool.and_eq_true, decide_eq_true_iff, decide_eq_true_iff] at h3
      exact ⟨c, u, SL_mem.mp h2.1, h3⟩
    · rintro ⟨_, u, h1, h2⟩
      exact ⟨(x, u), List.mem_filter.mpr ⟨SL_mem.mpr h1, by rw [Bool.and_eq_true, decide_eq_true_iff, decide_eq_true_iff]; exact h2⟩, rfl⟩
  · rename_i c
    exact ⟨(fun z => by cases z), fun z => absurd z.1 c⟩
theorem within_all {ts : List (Nat × Nat)} {W : List Nat} {E : Nat × Nat → List (Nat × Nat)} {h : Nat × Nat} {D : List (Nat × Nat)} (hE : ∀ u ∈ D, ∀ z, z ∈ E u ↔ Cm ts W u z) (hD : ∀ u ∈ D, ∀ z ∈ E u, z ∈ D) (hh : h ∈ D) (x : Nat) :
    x ∈ (E h).flatMap (wit ts W E h) ↔ ∃ s u, Stp ts W s x u ∧ Cm ts W h s ∧ Cm ts W u h := by
  rw [List.mem_flatMap]
  constructor
  · rintro ⟨s, h1, h2⟩
    obtain ⟨h3, u, h4, h5, h6⟩ := wit_mem.mp h2
    have hu := hD h hh u h6
    exact ⟨s, u, h4, (hE h hh s).mp h1, (hE u hu h).mp h5⟩
  · rintro ⟨s, u, h1, h2, h3⟩
    have hs := (hE h hh s).mpr h2
    have hhu := h2.step h1
    have hu := (hE h hh u).mpr hhu
    have hsD := hD h hh s hs
    have huD := hD h hh u hu
    have hsh : Cm ts W s h := ((Cm.refl s).step h1).trans h3
    exact ⟨s, hs, wit_mem.mpr ⟨(hE s hsD h).mpr hsh, u, h1, (hE u huD h).mpr h3, hu⟩⟩
theorem flat_take {α : Type} {E : List α} {g : α → List Nat} {j : Nat} {s : α} (h : E[j]? = some s) : (E.take (j + 1)).flatMap g = (E.take j).flatMap g ++ g s := by
  rw [List.take_succ, h, Option.toList_some, List.flatMap_append]
  congr 1
  simp
theorem flat_len {α : Type} {E : List α} {g : α → List Nat} {n : Nat} (h : ∀ s, (g s).length ≤ n) : ∀ j, ((E.take j).flatMap g).length ≤ j * n
  | 0 => by simp
  | j + 1 => by
    have ih := flat_len (E := E) h j
    cases e : E[j]? with
    | none =>
      rw [List.take_succ, e]
      have : (j + 1) * n = j * n + n := by rw [Nat.succ_mul]
      show ((E.take j ++ []).flatMap g).length ≤ _
      rw [List.append_nil]
      omega
    | some s =>
      rw [flat_take e, List.length_append, Nat.succ_mul]
      have := h s
      omega
theorem nodup_sub : ∀ {L S : List Nat}, L.Nodup → (∀ x ∈ L, x ∈ S) → L.length ≤ S.length
  | [], _, _, _ => Nat.zero_le _
  | a :: r, S, hn, h => by
    obtain ⟨h1, h2⟩ := List.nodup_cons.mp hn
    have ha := h a List.mem_cons_self
    have ih := nodup_sub (L := r) (S := S.erase a) h2 fun x hx => (List.mem_erase_of_ne (fun z => h1 (by rw [← z]; exact hx))).mpr (h x (List.mem_cons_of_mem _ hx))
    rw [List.length_erase_of_mem ha] at ih
    have := List.length_pos_of_mem ha
    rw [List.length_cons]
    omega
/-! ### rounds of a function -/
theorem some_nodup {α : Type} [DecidableEq α] : ∀ xs : List α, ∃ ys : List α, ys.Nodup ∧ ∀ x, x ∈ ys ↔ x ∈ xs
  | [] => ⟨[], List.nodup_nil, fun _ => Iff.rfl⟩
  | a :: r => by
    obtain ⟨ys, hn, hm⟩ := some_nodup r
    by_cases c : a ∈ r
    · refine ⟨ys, hn, fun x => ?_⟩
      rw [hm, List.mem_cons]
      exact ⟨.inr, fun h => h.elim (fun z => z ▸ c) id⟩
    · refine ⟨a :: ys, List.nodup_cons.mpr ⟨fun z => c ((hm a).mp z), hn⟩, fun x => ?_⟩
      rw [List.mem_cons, List.mem_cons, hm]
/-- so many unlike numbers below n: all of them, exactly if there are n -/
theorem all_there {R : List Nat} {n k : Nat} (h : ∀ x ∈ R, x < n) (hk : ∀ D : List Int, D.Nodup → (∀ z, z ∈ D ↔ z ∈ R.map fun m : Nat => (m : Int)) → D.length = k) : k = n ↔ ∀ x, x < n → x ∈ R := by
  obtain ⟨E, hn, hm⟩ := some_nodup R
  have e1 : E.length = k := by
    have := hk (E.map fun m : Nat => (m : Int)) (List.Pairwise.map _ (fun a b hab z => hab (by omega)) hn) fun z => by
      rw [List.mem_map, List.mem_map]
      exact ⟨fun ⟨m, h1, h2⟩ => ⟨m, (hm m).mp h1, h2⟩, fun ⟨m, h1, h2⟩ => ⟨m, (hm m).mpr h1, h2⟩⟩
    rw [List.length_map] at this
    exact this
  have h2 : E.length ≤ n := few hn fun x hx => h x ((hm x).mp hx)
  constructor
  · intro e x hx
    refine Classical.byContradiction fun no => ?_
    have h3 := few (List.nodup_cons.mpr ⟨fun z => no ((hm x).mp z), hn⟩) (N := n) fun y hy => by
      rcases List.mem_cons.mp hy with z | z
      · rw [z]; exact hx
      · exact h y ((hm y).mp z)
    rw [List.length_cons] at h3
    omega
  · intro hall
    have h3 := nodup_sub (L := List.range n) (S := E) List.nodup_range fun x hx => (hm x).mpr (hall x (List.mem_range.mp hx))
    rw [List.length_range] at h3
    omega
section
variable {P : Program} {w : World} {K : PySem.W.Frag} {mg : Str → Option Value} {base : Heap} {C : Addr}
def sp_law_is_sure (_ : PySem.W.Frag) (_ : Addr) : Sp := fun vs H Q _ => ∃ t s N ts W, vs = [.int ((N : Nat) : Int), .ref t, .ref s] ∧ TiesAt H t ts ∧ OkWeb N ts ∧ N ≤ 4 ∧ ts.length ≤ 10 ∧ H s = some (.lst (iv W)) ∧ 0 < W.length ∧ W.length ≤ 8 ∧
  ∀ b H', Same H H' → (b = true ↔ ¬ NotSure ts W N) → Q (.bl b) H'
theorem ok_law_is_sure (D : Def K mg "_law_is_sure" s_law_is_sure ["_law_places", "_law_ties_here", "_law_walk_here"]) (B : Bs mg) (Glb : Glo mg) (WK : WebK K mg C)
    (h_law_steps : Good P w K mg base "_law_steps" s_law_steps ["_law_places", "_law_ties_here", "_law_walk_here"] 2 (sp_law_steps K C))
    (h_law_come : Good P w K mg base "_law_come" s_law_come ["_law_steps_here", "_law_first"] 1 (sp_law_come K C)) :
    Good P w K mg base "_law_is_sure" s_law_is_sure ["_law_places", "_law_ties_here", "_law_walk_here"] 3 (sp_law_is_sure K C) := by
  refine D.good fun f fd F => ?_
  obtain ⟨f_law_steps, d_law_steps, O_law_steps, m_law_steps, k_law_steps, b_law_steps, F_law_steps⟩ := h_law_steps
  obtain ⟨f_law_come, d_law_come, O_law_come, m_law_come, k_law_come, b_law_come, F_law_come⟩ := h_law_come
  refine F.ok sc_law_is_sure (fun vs H Q E h => ?_) (fun cdv A outer s H vs Q E hr h => ?_)
  · obtain ⟨t, s, N, ts, W, rfl, hT, ho, hN, hm, hs, hW0, hW, q⟩ := h
    first | rfl | (rcases h with ⟨_, _, rfl, _⟩ | ⟨_, rfl, _⟩ <;> rfl)
  obtain ⟨t, s, N, ts, W, rfl, hT, ho, hN, hm, hs, hW0, hW, q⟩ := h
  refine ⟨_, (pss_cons (ps_asg (pe_tup (pa_cons (pe_call O_law_steps hr rfl m_law_steps k_law_steps b_law_steps .nil pass0 (pa_cons (pv 0) (pa_cons (pv 1) (pa_cons (pv 2) pa_nil)))) (pa_cons pe_dnewT pa_nil))) (pg_tup rfl (pgs_cons (pg_name (i := 3) sc_law_is_sure.nd rfl (by first | exact Or.inl rfl | exact Or.inr rfl)) (pgs_cons (pg_name (i := 4) sc_law_is_sure.nd rfl (by first | exact Or.inl rfl | exact Or.inr rfl)) pgs_nil))))
  (pss_cons (ps_lock (ps_for PassesOwn.never rfl (pi_keys (pv 3)) (pg_name (i := 5) sc_law_is_sure.nd rfl (by first | exact Or.inl rfl | exact Or.inr rfl))
    (pss_one (ps_dput (hu_of hr) (pv 4) (pv 5) (pe_call O_law_come (hr.mono (by decide)) rfl m_law_come k_law_come b_law_come .nil pass0 (pa_cons (pv 3) (pa_cons (pv 5) pa_nil))) rfl))))
  (pss_cons (ps_lock (ps_for PassesOwn.never rfl (pi_keys (pv 3)) (pg_name (i := 5) sc_law_is_sure.nd rfl (by first | exact Or.inl rfl | exact Or.inr rfl))
    (pss_cons (ps_set (i := 6) sc_law_is_sure.nd rfl (by first | exact Or.inl rfl | exact Or.inr rfl) (pe_lst pa_nil))
  (pss_cons (ps_lock (ps_for PassesOwn.never rfl (pi_keys (pe_dget (hu_of hr) (pv 4) (pv 5) (fun _ _ => rfl))) (pg_name (i := 7) sc_law_is_sure.nd rfl (by first | exact Or.inl rfl | exact Or.inr rfl))
    (pss_one (ps_if (pt_cmp (pc_din (hu_of hr) (pv 5) (pe_dget (hu_of hr) (pv 4) (pv 7) (fun _ _ => rfl))))
    (pss_one (ps_expr (pe_bm PySem.F.plainAttrs_list PySem.F.slot_list_extend PySem.F.type_list_extend mt_extend (pv 6) (pa_cons (pe_lc (own := [("_law_tie", 8), ("_law_later", 9)]) (g := gTup K 2 (gCons (gName 8) (gCons (gName 9) gNil))) (by rfl) sc_law_is_sure.nd (pi_list (pe_dget (hu_of hr) (pv 3) (pv 7) (fun _ _ => rfl))) (blkOk_by (own := [("_law_tie", 8), ("_law_later", 9)]) (N := ["_law_places", "_law_ties_here", "_law_walk_here", "_law_steps_here", "_law_come_here", "_law_here", "_law_within", "_law_one", "_law_tie", "_law_later"]) (sc := defScope s_law_is_sure) (by decide +kernel)) (fun _ _ _ _ _ => (pg_tup rfl (pgs_cons (pg_name (i := 8) sc_law_is_sure.nd rfl (by first | exact Or.inl rfl | exact Or.inr rfl)) (pgs_cons (pg_name (i := 9) sc_law_is_sure.nd rfl (by first | exact Or.inl rfl | exact Or.inr rfl)) pgs_nil)))) (fun _ _ _ _ _ => (pts_one (PW.pt (pw_and (pt_cmp (pc_din (hu_of hr) (pv 5) (pe_dget (hu_of hr) (pv 4) (pv 9) (by exact fun _ _ => rfl)))) (pw_and1 (pt_cmp (pc_din (hu_of hr) (pv 9) (pe_dget (hu_of hr) (pv 4) (pv 5) (by exact fun _ _ => rfl))))))))) (fun _ _ _ _ _ => (pv 8))) pa_nil)))) pss_nil))))
  (pss_one (ps_if (pt_cmpR op_eq (pe_callB cr_lenIn (by rfl) B.len (by decide +kernel) (pa_cons (pe_callTy (cr_setIn rfl) (by rfl) B.set (by decide +kernel) (pa_cons (pv 6) pa_nil)) pa_nil)) (pe_callB call_len_seq (by rfl) B.len (by decide +kernel) (pa_cons (pv 1) pa_nil)) (nomark _))
    (pss_one (ps_ret pe_bl)) pss_nil))))))
  (pss_one (ps_ret pe_bl))))), ?_⟩
  refine ⟨_, rfl, _, rfl, _, rfl, t, s, N, ts, W, rfl, hT, ho, hN, hm, hs, hW0, by omega, fun d D va H1 hE _ hS1 nd hTab1 => ?_⟩
  refine fun c nc => ⟨(by show 2 ≤ sizeLine; decide), fun tp ntp => ⟨tp, _, rfl, SqT.of upd_same, rfl, _, _, rfl, _, _, rfl, rfl, ?_⟩⟩
  have hDl : D.length ≤ 32 := Nat.le_trans (few3 hE.nd fun u hu => ⟨(hE.ok u (.inl hu)).1, by have := (hE.ok u (.inl hu)).2.1; omega⟩) (by omega)
  have hn2 := (same_new nc (.dT [])).trans (same_new ntp (.tup [V.ref d, V.ref c]))
  have hS2 := hS1.trans hn2
  have hc2 := same_new ntp (.tup [V.ref d, V.ref c]) _ _ (upd_same (H := H1) (a := c) (o := .dT []))
  have hd2 := hn2 _ _ hTab1.1
  have hst2 : ∀ u ∈ D, StL (upd (upd H1 c (.dT [])) tp (.tup [V.ref d, V.ref c])) (va u) (SL ts W u) := fun u hu => (hTab1.2 u hu).same hn2
  have ncd : c ≠ d := (ne_of_none hTab1.1 nc).symm
  have ncH : H c = none := hS1.free nc
  generalize upd (upd H1 c (.dT [])) tp (.tup [V.ref d, V.ref c]) = H2 at hS2 hc2 hd2 hst2
  refine ⟨d, _, hd2, trivial, fun od => ⟨_, rfl, d, od, rfl, .inr ⟨_, upd_same, ?_⟩⟩⟩
  have kl : ∀ (o : HO) b u, H2 b = some u → b ≠ d → upd H2 d o b = some u := fun o b u e n => by rw [upd_ne n]; exact e
  have ntd : ∀ ys, H2 d ≠ some (.tup ys) := fun ys z => by rw [hd2] at z; cases z
  have nvd : ∀ u ∈ D, va u ≠ d := fun u hu => by
    obtain ⟨ps, e, _⟩ := hst2 u hu
    exact ne_of e hd2 (by intro z; cases z)
  have hS3 : Same H (upd H2 d (.frz od (.dT (tD (fun u => .ref (va u)) D)))) := same_upd hS2 nd
  have hc3 := kl (.frz od (.dT (tD (fun u => .ref (va u)) D))) _ _ hc2 ncd
  have hd3 : upd H2 d (.frz od (.dT (tD (fun u => .ref (va u)) D))) d = some (.frz od (.dT (tD (fun u => .ref (va u)) D))) := upd_same
  have hst3 : ∀ u ∈ D, StL (upd H2 d (.frz od (.dT (tD (fun u => .ref (va u)) D)))) (va u) (SL ts W u) := fun u hu => (hst2 u hu).kept kept_upd (nvd u hu) ntd
  generalize upd H2 d (.frz od (.dT (tD (fun u => .ref (va u)) D))) = H3 at hS3 hc3 hd3 hst3
  have htl : (tD (fun u => V.ref (va u)) D).length = D.length := List.length_map ..
  have hat : ∀ {i : Nat} {k : List Key} {v : V}, (tD (fun u => V.ref (va u)) D)[i]? = some (k, v) → ∃ u, D[i]? = some u ∧ k = kk u := fun {i k v} h => by
    unfold tD at h
    rw [List.getElem?_map] at h
    obtain ⟨u, h1, h2⟩ := Option.map_eq_some_iff.mp h
    exact ⟨u, h1, (Prod.mk.inj h2).1.symm⟩
  refine for_it walk_keysT (fun i σ H' => ∃ (v5 v6 v7 v8 v9 : Option V) (ca : Nat × Nat → Addr) (E : Nat × Nat → List (Nat × Nat)), σ = [some (.int (N : Int)), some (.ref t), some (.ref s), some (.ref d), some (.ref c), v5, v6, v7, v8, v9] ∧ Same H H' ∧ H' d = some (.frz od (.dT (tD (fun u => .ref (va u)) D))) ∧ (∀ u ∈ D, StL H' (va u) (SL ts W u)) ∧ H' c = some (.dT (tD (fun u => .ref (ca u)) (D.take i))) ∧ (∀ u ∈ D.take i, ca u ≠ c ∧ H' (ca u) = some (.dT (tD (fun _ => .bl true) (E u))) ∧ (E u).Nodup ∧ (∀ z, z ∈ E u ↔ Cm ts W u z) ∧ ∀ z ∈ E u, z ∈ D)) ?_ ?_ ?_ ?_
  · exact ⟨_, _, _, _, _, fun _ => c, fun _ => [], rfl, hS3, hd3, hst3, hc3, (fun u hu => by cases hu)⟩
  · rintro i σ H' _ ⟨_, _, _, _, _, _, _, _, _, h, _⟩
    exact h
  · rintro i x σ H4 H4' hi ⟨v5, v6, v7, v8, v9, ca, E, rfl, hS4, hd4, hst4, hc4, hca4⟩ ⟨rfl, k, v, q0, hk, rfl, hq⟩
    obtain ⟨u, hu, rfl⟩ := hat hk
    have huD := List.mem_of_getElem? hu
    have hil := (List.getElem?_eq_some_iff.mp hu).1
    have htk : D.take (i + 1) = D.take i ++ [u] := by rw [List.take_succ, hu]; rfl
    have hnot : u ∉ D.take i := fun z => by
      have := hE.nd
      rw [← List.take_append_drop (i + 1) D, htk] at this
      have := (List.nodup_append.mp this).1
      exact (List.nodup_append.mp this).2.2 u z u (List.mem_singleton.mpr rfl) rfl
    refine ⟨_, rfl, _, rfl, d, q0, u, N, ts, W, D, va, rfl, hq, huD, hN, by omega, hE, ⟨.inr ⟨_, hd4⟩, hst4⟩, fun f E0 H5 hEn _ hEm hED hS5 nf hf => ?_⟩
    have hc5 := hS5 _ _ hc4
    refine ⟨_, rfl, _, rfl, c, _, rfl, DPut.t hc5 (k := kk u) (hS5 _ _ hq) (sml1000 (by unfold tD; rw [List.length_map, List.length_take]; omega)), ?_⟩
    rw [put_tR hnot, ← htk]
    have nfc : f ≠ c := (ne_of_none hc4 nf).symm
    have ntc : ∀ ys, H5 c ≠ some (.tup ys) := fun ys z => by rw [hc5] at z; cases z
    refine ⟨_, _, _, _, _, (fun z => if z = u then f else ca z), (fun z => if z = u then E0 else E z), rfl, same_upd (hS4.trans hS5) ncH, by rw [upd_ne ncd.symm]; exact hS5 _ _ hd4, fun y hy => ((hst4 y hy).same hS5).kept kept_upd ?_ ntc, upd_same, fun y hy => ?_⟩
    · obtain ⟨ps, e, _⟩ := (hst4 y hy).same hS5
      exact ne_of e hc5 (by intro z; cases z)
    · by_cases cy : y = u
      · subst cy
        dsimp only
        rw [if_pos rfl, if_pos rfl, upd_ne nfc]
        exact ⟨nfc, hf, hEn, hEm, hED⟩
      · dsimp only
        rw [if_neg cy, if_neg cy]
        have hy' : y ∈ D.take i := by
          rw [htk] at hy
          exact (List.mem_append.mp hy).elim id fun z => absurd (List.mem_singleton.mp z) cy
        obtain ⟨h0, h1, h2⟩ := hca4 y hy'
        rw [upd_ne h0]
        exact ⟨h0, hS5 _ _ h1, h2⟩
  · rintro σ H4 ⟨v5, v6, v7, v8, v9, ca, E, rfl, hS4, hd4, hst4, hc4, hca4⟩
    rw [htl, List.take_length] at hc4 hca4
    refine ⟨hd4, d, _, upd_same, trivial, fun od2 => ⟨_, rfl, d, od2, rfl, .inr ⟨_, upd_same, ?_⟩⟩⟩
    have kl2 : ∀ (o1 o2 : HO) b, b ≠ d → upd (upd H4 d o1) d o2 b = H4 b := fun o1 o2 b n => by rw [upd_ne n, upd_ne n]
    have nvd4 : ∀ u ∈ D, va u ≠ d := fun u hu => by
      obtain ⟨ps, e, _⟩ := hst4 u hu
      exact ne_of e hd4 (by intro z; cases z)
    have nt4 : ∀ ys, H4 d ≠ some (.tup ys) := fun ys z => by rw [hd4] at z; cases z
    have hS6 : Same H (upd (upd H4 d (.dT (tD (fun u => .ref (va u)) D))) d (.frz od2 (.dT (tD (fun u => .ref (va u)) D)))) := fun b o e => by
      have hb : b ≠ d := ne_of_none e nd
      rw [kl2 _ _ b hb]
      exact hS4 _ _ e
    have hd6 : (upd (upd H4 d (.dT (tD (fun u => .ref (va u)) D))) d (.frz od2 (.dT (tD (fun u => .ref (va u)) D)))) d = some (.frz od2 (.dT (tD (fun u => .ref (va u)) D))) := upd_same
    have hst6 : ∀ u ∈ D, StL (upd (upd H4 d (.dT (tD (fun u => .ref (va u)) D))) d (.frz od2 (.dT (tD (fun u => .ref (va u)) D)))) (va u) (SL ts W u) := fun u hu => (hst4 u hu).kept (a := d) (fun b o e n => by rw [kl2 _ _ b n]; exact e) (nvd4 u hu) nt4
    have hc6 : (upd (upd H4 d (.dT (tD (fun u => .ref (va u)) D))) d (.frz od2 (.dT (tD (fun u => .ref (va u)) D)))) c = some (.dT (tD (fun u => .ref (ca u)) D)) := by rw [kl2 _ _ c ncd]; exact hc4
    have hca6 : ∀ u ∈ D, (upd (upd H4 d (.dT (tD (fun u => .ref (va u)) D))) d (.frz od2 (.dT (tD (fun u => .ref (va u)) D)))) (ca u) = some (.dT (tD (fun _ => .bl true) (E u))) := fun u hu => by
      have h1 := (hca4 u hu).2.1
      rw [kl2 _ _ _ (ne_of h1 hd4 (by intro z; cases z))]
      exact h1
    generalize upd (upd H4 d (.dT (tD (fun u => .ref (va u)) D))) d (.frz od2 (.dT (tD (fun u => .ref (va u)) D))) = H6 at hS6 hd6 hst6 hc6 hca6
    have hEm : ∀ u ∈ D, ∀ z, z ∈ E u ↔ Cm ts W u z := fun u hu => (hca4 u hu).2.2.2.1
    have hED : ∀ u ∈ D, ∀ z ∈ E u, z ∈ D := fun u hu => (hca4 u hu).2.2.2.2
    refine for_it walk_keysT (fun i σ H' => ∃ v5 v6 v7 v8 v9 : Option V, σ = [some (.int (N : Int)), some (.ref t), some (.ref s), some (.ref d), some (.ref c), v5, v6, v7, v8, v9] ∧ Same H6 H' ∧ ∀ u ∈ D.take i, ¬ ∀ x, x < ts.length → ∃ s u', Stp ts W s x u' ∧ Cm ts W u s ∧ Cm ts W u' u) ⟨_, _, _, _, _, rfl, (fun b o e => e), (fun u hu => by cases hu)⟩ ?_ ?_ ?_
    · rintro i σ H' _ ⟨_, _, _, _, _, _, h, _⟩
      exact h _ _ hd6
    · rintro i x σ H7' H7 hi ⟨v5, v6, v7, v8, v9, rfl, hS7, hno7⟩ ⟨rfl, k, v, q0, hk, rfl, hq7⟩
      obtain ⟨h, hh, rfl⟩ := hat hk
      have hhD := List.mem_of_getElem? hh
      have htk : D.take (i + 1) = D.take i ++ [h] := by rw [List.take_succ, hh]; rfl
      refine ⟨Nat.zero_le _, fun wl nwl => ?_⟩
      have hw7 := same_new nwl (.lst [])
      have hq8 := hw7 _ _ hq7
      have hS8 := hS7.trans hw7
      have hwl8 : upd H7 wl (.lst []) wl = some (.lst []) := upd_same
      have hca8 := hS8 _ _ (hca6 h hhD)
      refine ⟨ca h, _, hca8, trivial, fun od3 => ?_⟩
      have nwh : wl ≠ ca h := (ne_of_none (hS7 _ _ (hca6 h hhD)) nwl).symm
      have nHb : ∀ b o, H7 b = some o → b ≠ wl := fun b o e => ne_of_none e nwl
      have hch : c ≠ ca h := (hca4 h hhD).1.symm
      have hqh : q0 ≠ ca h := ne_of hq8 hca8 (by intro z; cases z)
      have hF9 : FullAt (upd (upd H7 wl (.lst [])) (ca h) (.frz od3 (.dT (tD (fun _ => .bl true) (E h))))) c D ca E := by
        refine ⟨by rw [upd_ne hch]; exact hS8 _ _ hc6, fun u hu => ?_⟩
        have h1 := hS8 _ _ (hca6 u hu)
        by_cases e : ca u = ca h
        · rw [e] at h1 ⊢
          rw [hca8] at h1
          refine .inr ⟨od3, ?_⟩
          rw [upd_same, ← Option.some.inj h1]
        · refine .inl ?_
          rw [upd_ne e]
          exact h1
      have hd9 : (upd (upd H7 wl (.lst [])) (ca h) (.frz od3 (.dT (tD (fun _ => .bl true) (E h))))) d = some (.frz od2 (.dT (tD (fun u => .ref (va u)) D))) := by
        have h1 := hS8 _ _ hd6
        rw [upd_ne (ne_of h1 hca8 (by intro z; cases z))]
        exact h1
      have ntca : ∀ ys, (upd H7 wl (.lst [])) (ca h) ≠ some (.tup ys) := fun ys z => by rw [hca8] at z; cases z
      have hst9 : ∀ u ∈ D, StL (upd (upd H7 wl (.lst [])) (ca h) (.frz od3 (.dT (tD (fun _ => .bl true) (E h))))) (va u) (SL ts W u) := fun u hu => by
        have h1 := (hst6 u hu).same hS8
        refine h1.kept kept_upd ?_ ntca
        obtain ⟨ps, e, _⟩ := h1
        exact ne_of e hca8 (by intro z; cases z)
      have hq9 : (upd (upd H7 wl (.lst [])) (ca h) (.frz od3 (.dT (tD (fun _ => .bl true) (E h))))) q0 = some (.tup [.int (h.1 : Int), .int (h.2 : Int)]) := by rw [upd_ne hqh]; exact hq8
      have hca9 : (upd (upd H7 wl (.lst [])) (ca h) (.frz od3 (.dT (tD (fun _ => .bl true) (E h))))) (ca h) = some (.frz od3 (.dT (tD (fun _ => .bl true) (E h)))) := upd_same
      have hwl9 : (upd (upd H7 wl (.lst [])) (ca h) (.frz od3 (.dT (tD (fun _ => .bl true) (E h))))) wl = some (.lst []) := by rw [upd_ne nwh]; exact hwl8
      have k79 : ∀ b o, H7 b = some o → b ≠ ca h → (upd (upd H7 wl (.lst [])) (ca h) (.frz od3 (.dT (tD (fun _ => .bl true) (E h))))) b = some o := fun b o e n => by rw [upd_ne n]; exact hw7 _ _ e
      generalize upd (upd H7 wl (.lst [])) (ca h) (.frz od3 (.dT (tD (fun _ => .bl true) (E h)))) = H9 at hF9 hd9 hst9 hq9 hca9 hwl9 k79
      refine ⟨_, rfl, _, rfl, c, _, rfl, hF9.get hhD hq9, ca h, od3, rfl, .inr ⟨_, hca9, ?_⟩⟩
      have helen : (tD (fun _ => V.bl true) (E h)).length = (E h).length := List.length_map ..
      have heat : ∀ {i : Nat} {k : List Key} {v : V}, (tD (fun _ => V.bl true) (E h))[i]? = some (k, v) → ∃ u, (E h)[i]? = some u ∧ k = kk u := fun {i k v} e => by
        unfold tD at e
        rw [List.getElem?_map] at e
        obtain ⟨u, h1, h2⟩ := Option.map_eq_some_iff.mp e
        exact ⟨u, h1, (Prod.mk.inj h2).1.symm⟩
      have hEl : (E h).length ≤ 32 := Nat.le_trans (few3 (hca4 h hhD).2.2.1 fun u hu => ⟨(hE.ok u (.inl (hED h hhD u hu))).1, by have := (hE.ok u (.inl (hED h hhD u hu))).2.1; omega⟩) (by omega)
      have hR9 : ∀ a ∈ [wl], ∃ xs, H9 a = some (.lst xs) := fun a ha => by rw [List.mem_singleton.mp ha]; exact ⟨_, hwl9⟩
      have hRt : ∀ a ∈ [wl], ∀ ys, H9 a ≠ some (.tup ys) := fun a ha ys z => by rw [List.mem_singleton.mp ha, hwl9] at z; cases z
      have nqw : q0 ∉ [wl] := fun z => by rw [List.mem_singleton.mp z, hwl9] at hq9; cases hq9
      have ndw : d ∉ [wl] := fun z => by rw [List.mem_singleton.mp z, hwl9] at hd9; cases hd9
      have ncw : ca h ∉ [wl] := fun z => by rw [List.mem_singleton.mp z, hwl9] at hca9; cases hca9
      have nvw : ∀ u ∈ D, va u ∉ [wl] := fun u hu z => by
        have h1 : H7 (va u) = none := by rw [List.mem_singleton.mp z]; exact nwl
        obtain ⟨ps, e, _⟩ := (hst6 u hu).same hS7
        rw [e] at h1; cases h1
      refine for_it walk_keysT (fun j σ H' => ∃ v7 v8 v9 : Option V, σ = [some (.int (N : Int)), some (.ref t), some (.ref s), some (.ref d), some (.ref c), some (.ref q0), some (.ref wl), v7, v8, v9] ∧ KeptR [wl] H9 H' ∧ H' wl = some (.lst (iv (((E h).take j).flatMap (wit ts W E h))))) ⟨_, _, _, rfl, KeptR.refl _ _, hwl9⟩ ?_ ?_ ?_
      · rintro j σ H' _ ⟨_, _, _, _, hk, _⟩
        exact hk _ _ hca9 ncw
      · rintro j x σ H10' H10 hj ⟨v7, v8, v9, rfl, hk10, hwl10⟩ ⟨rfl, k, v, q1, hkv, rfl, hq1⟩
        obtain ⟨one, hone, rfl⟩ := heat hkv
        have honeE := List.mem_of_getElem? hone
        have honeD := hED h hhD one honeE
        have hF10 := hF9.keptR hk10 hR9
        have hq10 := hk10 _ _ hq9 nqw
        have hlen10 := flat_len (E := E h) (fun s => wit_len (ts := ts) (W := W) (E := E) (h := h) (s := s)) j
        have hjl := (List.getElem?_eq_some_iff.mp hone).1
        have hbnd : (((E h).take j).flatMap (wit ts W E h)).length ≤ 320 := Nat.le_trans hlen10 (Nat.le_trans (Nat.mul_le_mul (show j ≤ 32 by omega) hm) (by decide))
        refine ⟨_, rfl, _, rfl, _, rfl, c, _, rfl, hF10.get honeD hq1, ca one, _, rfl, hF10.has honeD hq10, _, rfl, ?_⟩
        by_cases c1 : h ∈ E one
        · rw [if_pos c1]
          refine iteT ?_
          have hst10 := (hst9 one honeD).keptR hk10 (nvw one honeD) hRt
          obtain ⟨ps, s1, s2⟩ := hst10
          have hTab10 : TabR ts W H10 d D va := ⟨.inr ⟨_, hk10 _ _ hd9 ndw⟩, fun u hu => (hst9 u hu).keptR hk10 (nvw u hu) hRt⟩
          refine ⟨_, rfl, .inl ⟨rfl, _, SqL.of hwl10⟩, _, rfl, _, rfl, d, .ref (va one), rfl, hTab10.get honeD hq1, va one, rfl, ⟨_, SqL.of s1⟩, fun D2 nD2 => ?_⟩
          refine lc_list (K := K) (a := va one) (xs := ps.map V.ref) (fun k H' => Same H10 H' ∧ H' D2 = some (.lst (iv ((((SL ts W one).take k).filter fun e => decide (h ∈ E e.2) && decide (e.2 ∈ E h)).map Prod.fst)))) ⟨same_new nD2 _, upd_same⟩ (fun i H' _ ⟨hS', _⟩ => SqL.of (hS' _ _ s1)) ?_ ?_
          · rintro k y H11 hy ⟨hS11, hD11⟩
            rw [List.getElem?_map] at hy
            obtain ⟨p, hpk, rfl⟩ := Option.map_eq_some_iff.mp hy
            obtain ⟨⟨tie, later⟩, he, q', t1, t2⟩ := paired_get s2 hpk
            have hstp := SL_mem.mp (List.mem_of_getElem? he)
            have hlD : later ∈ D := (hE.cl one honeD tie later hstp).elim id fun r => by cases r
            have hF11 := hF10.same hS11
            have hsl : k < (SL ts W one).length := (List.getElem?_eq_some_iff.mp he).1
            have hsl2 := SL_len ts W one
            have hstep := take_filter (p := fun e : Nat × (Nat × Nat) => decide (h ∈ E e.2) && decide (e.2 ∈ E h)) he
            have hlen11 : ((((SL ts W one).take k).filter fun e => decide (h ∈ E e.2) && decide (e.2 ∈ E h)).map Prod.fst).length ≤ 10 := by
              rw [List.length_map]
              refine Nat.le_trans (List.length_filter_le ..) ?_
              rw [List.length_take]
              omega
            have hl11 := hS11 _ _ t2
            have hq11 := hS11 _ _ hq10
            refine ⟨p, _, rfl, SqT.of (hS11 _ _ t1), rfl, _, _, rfl, _, _, rfl, rfl, rfl, _, rfl, _, rfl, _, rfl, c, _, rfl, hF11.get hlD hl11, ca later, _, rfl, hF11.has hlD hq11, _, rfl, ?_⟩
            by_cases a1 : h ∈ E later
            · rw [if_pos a1]
              refine iteT ⟨_, rfl, _, rfl, _, rfl, c, _, rfl, hF11.get hhD hq11, ca h, _, rfl, hF11.has hhD hl11, _, rfl, ?_⟩
              by_cases a2 : later ∈ E h
              · rw [if_pos a2]
                refine iteT ⟨_, rfl, _, hD11, ?_, same_upd hS11 nD2, ?_⟩
                · rw [List.length_map]
                  exact sml1000 (by omega)
                · rw [upd_same, hstep, if_pos (by rw [Bool.and_eq_true, decide_eq_true_iff, decide_eq_true_iff]; exact ⟨a1, a2⟩), List.map_append, ← iv_app]
                  rfl
              · rw [if_neg a2]
                refine iteF ⟨hS11, ?_⟩
                rw [hstep, if_neg (by rw [Bool.and_eq_true, decide_eq_true_iff, decide_eq_true_iff]; exact fun z => a2 z.2), List.append_nil]
                exact hD11
            · rw [if_neg a1]
              refine iteF (iteF ⟨hS11, ?_⟩)
              rw [hstep, if_neg (by rw [Bool.and_eq_true, decide_eq_true_iff, decide_eq_true_iff]; exact fun z => a1 z.1), List.append_nil]
              exact hD11
          rintro H11 ⟨hS11, hD11⟩
          rw [List.length_map, paired_len s2, List.take_length] at hD11
          have hw1 : wit ts W E h one = ((SL ts W one).filter fun e => decide (h ∈ E e.2) && decide (e.2 ∈ E h)).map Prod.fst := by unfold wit; rw [if_pos c1]
          rw [← hw1] at hD11
          have hwl1 := wit_len (ts := ts) (W := W) (E := E) (h := h) (s := one)
          refine ⟨wl, D2, _, _, rfl, rfl, hS11 _ _ hwl10, hD11, ?_, ?_⟩
          · rw [List.length_map, List.length_map]
            exact Nat.le_of_lt (sml1000 (by omega))
          · refine ⟨_, _, _, rfl, KeptR.put (fun b o e n => hS11 _ _ (hk10 b o e n)) (List.mem_singleton.mpr rfl), ?_⟩
            rw [upd_same, flat_take hone]
            unfold iv
            rw [List.map_append]
        · rw [if_neg c1]
          refine iteF ⟨_, _, _, rfl, hk10, ?_⟩
          have hw0 : wit ts W E h one = [] := by unfold wit; rw [if_neg c1]
          rw [flat_take hone, hw0, List.append_nil]
          exact hwl10
      · rintro σ H10 ⟨v7, v8, v9, rfl, hk10, hwl10⟩
        rw [helen, List.take_length] at hwl10
        refine ⟨hk10 _ _ hca9 ncw, ?_⟩
        have hS12 : Same H7 (upd H10 (ca h) (.dT (tD (fun _ => .bl true) (E h)))) := fun b o e => by
          by_cases n : b = ca h
          · rw [n] at e ⊢
            rw [upd_same, ← e]
            exact (hS7 _ _ (hca6 h hhD)).symm
          · rw [upd_ne n]
            exact hk10 _ _ (k79 b o e n) fun z => nHb b o e (List.mem_singleton.mp z)
        have hwl12 : (upd H10 (ca h) (.dT (tD (fun _ => .bl true) (E h)))) wl = some (.lst (iv ((E h).flatMap (wit ts W E h)))) := by rw [upd_ne nwh]; exact hwl10
        generalize upd H10 (ca h) (.dT (tD (fun _ => .bl true) (E h))) = H12 at hS12 hwl12
        have hWin := within_all (ts := ts) (W := W) (h := h) hEm hED hhD
        have hlt : ∀ x ∈ (E h).flatMap (wit ts W E h), x < ts.length := fun x hx => by
          obtain ⟨s', u', h1, _⟩ := (hWin x).mp hx
          exact (List.getElem?_eq_some_iff.mp h1.1).1
        have hlen12 := flat_len (E := E h) (fun s => wit_len (ts := ts) (W := W) (E := E) (h := h) (s := s)) (E h).length
        rw [List.take_length] at hlen12
        have hbnd : ((E h).flatMap (wit ts W E h)).length ≤ 320 := Nat.le_trans hlen12 (Nat.le_trans (Nat.mul_le_mul hEl hm) (by decide))
        rw [iv_iz] at hwl12
        have hS07 := hS6.trans (hS7.trans hS12)
        refine ⟨_, rfl, wl, _, rfl, SqL.of hwl12, by rw [List.length_map]; omega, fun s1 n1 hn1 hle1 ns1 => ?_⟩
        rw [List.length_map] at hle1
        have hS13 := same_new ns1 (InO w s1 (inI (((E h).flatMap (wit ts W E h)).map fun n : Nat => (n : Int))) n1)
        obtain ⟨xs, ht, htl13⟩ := (hT.same (hS07.trans hS13)).get
        refine ⟨s1, _, n1, rfl, upd_same, by omega, _, rfl, t, _, rfl, .inl (SqL.of ht), rfl, _, rfl, ?_⟩
        have hcnt := all_there hlt hn1
        by_cases c2 : n1 = ts.length
        · refine iteYes (by rw [c2, htl13]) ?_
          refine ⟨((hS7.trans hS12).trans hS13) _ _ hd6, q false _ (same_upd (hS07.trans hS13) nd) ⟨(fun z => nomatch z), fun z => absurd ?_ z⟩⟩
          exact ⟨h, (hE.ok h (.inl hhD)).2.2, fun x hx => (hWin x).mp (hcnt.mp c2 x hx)⟩
        · refine iteNo (fun z => c2 (by have := int_eq.mp z; omega)) ⟨_, _, _, _, _, rfl, (hS7.trans hS12).trans hS13, fun u hu => ?_⟩
          rw [htk] at hu
          rcases List.mem_append.mp hu with z | z
          · exact hno7 u z
          · rw [List.mem_singleton.mp z]
            exact fun hall => c2 (hcnt.mpr fun x hx => (hWin x).mpr (hall x hx))
    · rintro σ H7 ⟨v5, v6, v7, v8, v9, rfl, hS7, hno7⟩
      rw [htl, List.take_length] at hno7
      refine ⟨hS7 _ _ hd6, q true _ (same_upd (hS6.trans hS7) nd) ⟨fun _ => ?_, fun _ => rfl⟩⟩
      rintro ⟨h, ⟨q0, hq0, A, hA⟩, hall⟩
      have h1 : (q0, 0) ∈ D := (hE.st q0 hq0).elim id fun r => by cases r
      exact hno7 h (hE.reach A _ _ h1 hA) hall
end
end My
/-! a op1 b op2 c op3 d, asked as a test -/
namespace My
open PySem PyProof.Rows L2
section
variable {X : Cx} {a b c d : Expr} {ta tb tc td : TE} {pos : Pos}
/-- three comparisons in a row: each operand is read once, and not behind the first that fails -/
def tRow3 (r1 r2 r3 : R2) (ta tb tc td : TE) : TT := fun σ H Q =>
  ta σ H fun x H1 => tb σ H1 fun y H2 => r1 x y H2 fun z H3 => ∃ k, z = .bl k ∧
    (if k = true then tc σ H3 fun u H4 => r2 y u H4 fun z' H5 => ∃ k', z' = .bl k' ∧
      (if k' = true then td σ H5 fun v H6 => r3 u v H6 fun z'' H7 => ∃ k'', z'' = .bl k'' ∧ Q k'' H7
      else Q false H5) else Q false H3)
theorem pt_row3 {o1 o2 o3 : CmpOp} {r1 r2 r3 : R2} (h1 : OpR X (compareOp o1) r1) (h2 : OpR X (compareOp o2) r2) (h3 : OpR X (compareOp o3) r3)
    (ha : PE X a ta) (hb : PE X b tb) (hc : PE X c tc) (hd : PE X d td) (hm : lastMarks [o1, o2, o3] [b, c, d] = false := by with_unfolding_all rfl) :
    PT X (.Compare a [o1, o2, o3] [b, c, d] pos) (tRow3 r1 r2 r3 ta tb tc td) := by
  refine ⟨fun ps t σ H Q I g => ?_⟩
  refine isTrue_chain (thn (ha.run ps t σ H _ I g) fun va t1 ⟨x, H1, I1, e1, g1⟩ => ?_) hm
  refine test_link (thn (hb.run ps t1 σ H1 _ I1 g1) fun vb t2 ⟨y, H2, I2, e2, g2⟩ => ?_)
  refine thn (h1 ps t2 σ H2 x y va vb _ I2 e1 e2 g2) fun w1 t3 ⟨z, H3, I3, e3, k, ek, g3⟩ => ?_
  subst ek
  cases e3
  refine wpAny_truthy_bool ?_
  cases k with
  | false => exact ite_ff ⟨H3, I3, g3⟩
  | true =>
    refine ite_tt (test_link (thn (hc.run ps t3 σ H3 _ I3 g3) fun vc t4 ⟨u, H4, I4, e4, g4⟩ => ?_))
    refine thn (h2 ps t4 σ H4 y u vb vc _ I4 e2 e4 g4) fun w2 t5 ⟨z2, H5, I5, e5, k2, ek2, g5⟩ => ?_
    subst ek2
    cases e5
    refine wpAny_truthy_bool ?_
    cases k2 with
    | false => exact ite_ff ⟨H5, I5, g5⟩
    | true =>
      refine ite_tt (test_last (thn (hd.run ps t5 σ H5 _ I5 g5) fun vd t6 ⟨v, H6, I6, e6, g6⟩ => ?_))
      refine thn (h3 ps t6 σ H6 u v vc vd _ I6 e4 e6 g6) fun w3 t7 ⟨z3, H7, I7, e7, k3, ek3, g7⟩ => ?_
      subst ek3
      cases e7
      exact wpAny_truthy_bool ⟨H7, I7, g7⟩
end
end My
set_option maxHeartbeats 4000000
namespace My
open PySem L2 PyProof.Rows
section
variable {P : Program} {w : World} {K : PySem.W.Frag} {mg : Str → Option Value} {base : Heap} {C : Addr}
def sp_law_is_around (_ : PySem.W.Frag) (_ : Addr) : Sp := fun vs H Q _ => ∃ t s p r ts W i j R, vs = [.ref t, .ref s, .ref p] ∧ TiesAt H t ts ∧ H s = some (.lst (iv W)) ∧ Chain ts W ∧ W.length ≤ 8 ∧ H p = some (.tup [.int ((i : Nat) : Int), .int ((j : Nat) : Int), .ref r]) ∧ H r = some (.lst (iv R)) ∧ RoadAt ts W i j R ∧ R.length ≤ 100 ∧
  ∀ H', Same H H' → Q (.bl true) H'
theorem ok_law_is_around (D : Def K mg "_law_is_around" s_law_is_around ["_law_ties_here", "_law_walk_here", "_law_told"]) (B : Bs mg) (Glb : Glo mg) (WK : WebK K mg C) :
    Good P w K mg base "_law_is_around" s_law_is_around ["_law_ties_here", "_law_walk_here", "_law_told"] 1 (sp_law_is_around K C) := by
  refine D.good fun f fd F => ?_
  refine F.ok sc_law_is_around (fun vs H Q E h => ?_) (fun cdv A outer s H vs Q E hr h => ?_)
  · obtain ⟨t, s, p, r, ts, W, i, j, R, rfl, hT, hs, hW, hWl, hp, hr', hRo, hRl, q⟩ := h
    first | rfl | (rcases h with ⟨_, _, rfl, _⟩ | ⟨_, rfl, _⟩ <;> rfl)
  obtain ⟨t, s, p, r, ts, W, i, j, R, rfl, hT, hs, hW, hWl, hp, hr', hRo, hRl, q⟩ := h
  refine ⟨_, (pss_cons (ps_if (PW.pt (pw_or (pt_not (pt_val (pe_callB call_isi (by rfl) B.isinstance (by decide +kernel) (pa_cons (pv 2) (pa_cons (pe_bltn (v := .ty "tuple") (by rfl) B.tuple (by decide +kernel) rfl) pa_nil))))) (pw_or1 (pt_cmpR op_ne (pe_callB call_len_seq (by rfl) B.len (by decide +kernel) (pa_cons (pv 2) pa_nil)) pe_int (nomark _)))))
    (pss_one (ps_ret pe_bl)) pss_nil)
  (pss_cons (ps_asg (pv 2) (pg_tup rfl (pgs_cons (pg_name (i := 3) sc_law_is_around.nd rfl (by first | exact Or.inl rfl | exact Or.inr rfl)) (pgs_cons (pg_name (i := 4) sc_law_is_around.nd rfl (by first | exact Or.inl rfl | exact Or.inr rfl)) (pgs_cons (pg_name (i := 5) sc_law_is_around.nd rfl (by first | exact Or.inl rfl | exact Or.inr rfl)) pgs_nil)))))
  (pss_cons (ps_if (PW.pt (pw_or (pt_not (pt_row3 op_le op_le op_lt pe_int (pv 3) (pv 4) (pe_callB call_len_seq (by rfl) B.len (by decide +kernel) (pa_cons (pv 1) pa_nil)))) (pw_or (pt_cmpR op_eq (pe_callB call_len_seq (by rfl) B.len (by decide +kernel) (pa_cons (pv 5) pa_nil)) pe_int (nomark _)) (pw_or (pt_cmpR op_in_seq (pe_ix ix_list (pv 1) (pv 4) (fun _ _ => rfl)) (pv 5) (by rfl)) (pw_or1 (pt_cmpR op_in_seq (pe_ix ix_list (pv 1) (pe_op op_sub (pv 3) pe_int) (fun _ _ => rfl)) (pv 5) (by rfl)))))))
    (pss_one (ps_ret pe_bl)) pss_nil)
  (pss_cons (ps_if (PW.pt (pw_or (pt_cmpR op_ne (pe_ix ix_tup (pe_ix ix_list (pv 0) (pe_ix ix_list (pv 5) pe_int (fun _ _ => rfl)) (fun _ _ => rfl)) pe_int (fun _ _ => rfl)) (pe_ix ix_tup (pe_ix ix_list (pv 0) (pe_ix ix_list (pv 1) (pv 4) (fun _ _ => rfl)) (fun _ _ => rfl)) pe_int (fun _ _ => rfl)) (nomark _)) (pw_or1 (pt_cmpR op_ne (pe_ix ix_tup (pe_ix ix_list (pv 0) (pe_ix ix_list (pv 5) (pe_un un_neg pe_int) (fun _ _ => rfl)) (fun _ _ => rfl)) pe_int (fun _ _ => rfl)) (pe_ix ix_tup (pe_ix ix_list (pv 0) (pe_ix ix_list (pv 1) (pv 3) (fun _ _ => rfl)) (fun _ _ => rfl)) pe_int (fun _ _ => rfl)) (nomark _)))))
    (pss_one (ps_ret pe_bl)) pss_nil)
  (pss_one (ps_ret (pe_callB (cr_all rfl) (by rfl) B.all (by decide +kernel) (pa_cons (pe_lc (own := [("_law_near", 6), ("_law_far", 7)]) (g := gTup K 2 (gCons (gName 6) (gCons (gName 7) gNil))) (by rfl) sc_law_is_around.nd (pi_zip (by rfl) B.zip (pa_cons (pv 5) (pa_cons (pe_slice sl_list (pv 5) (po_some pe_int) po_none) pa_nil))) (blkOk_by (own := [("_law_near", 6), ("_law_far", 7)]) (N := ["_law_ties_here", "_law_walk_here", "_law_told", "_law_i", "_law_j", "_law_road", "_law_near", "_law_far"]) (sc := defScope s_law_is_around) (by decide +kernel)) (fun _ _ _ _ _ => (pg_tup rfl (pgs_cons (pg_name (i := 6) sc_law_is_around.nd rfl (by first | exact Or.inl rfl | exact Or.inr rfl)) (pgs_cons (pg_name (i := 7) sc_law_is_around.nd rfl (by first | exact Or.inl rfl | exact Or.inr rfl)) pgs_nil)))) (fun _ _ _ _ _ => pts_nil) (fun _ _ _ _ _ => (pe_cmpR op_eq (pe_ix (ix_tupK (K := K) rfl) (pe_ix (ix_listK (K := K) rfl) (pv 0) (pv 6) (by exact fun _ _ => rfl)) pe_int (by exact fun _ _ => rfl)) (pe_ix (ix_tupK (K := K) rfl) (pe_ix (ix_listK (K := K) rfl) (pv 0) (pv 7) (by exact fun _ _ => rfl)) pe_int (by exact fun _ _ => rfl)) (nomark _)))) pa_nil)))))))), ?_⟩
  have hi1 := hRo.i1
  have hij := hRo.ij
  have hjl := hRo.jl
  obtain ⟨x0, y0, wj, wi, e, f0, g, h, r1, r2, r3, r4, r5, r6, r7, r8, r9, r10⟩ := hRo.ends
  have hR0 := hRo.ch.n0
  have hWi : (iv W).length = W.length := List.length_map ..
  have hRi : (iv R).length = R.length := List.length_map ..
  have hs1 := hs
  refine ⟨_, rfl, _, _, _, _, true, rfl, .ty _, .base (.tup hp), kit_ty (by decide +kernel), _, rfl, iteF ⟨_, rfl, p, _, rfl, .inr (SqT.of hp), rfl, _, rfl, iteNot' rfl ?_⟩⟩
  refine ⟨_, rfl, p, _, rfl, SqT.of hp, rfl, _, _, rfl, _, _, rfl, _, _, rfl, rfl, ?_⟩
  refine ⟨_, rfl, _, _, rfl, rfl, _, rfl, iteYes (show (1 : Int) ≤ (i : Int) by omega) ?_⟩
  refine ⟨_, rfl, _, _, rfl, rfl, _, rfl, iteYes (show (i : Int) ≤ (j : Int) by omega) ?_⟩
  have hTT : ∀ {x : Nat} {e : Nat × Nat}, ts[x]? = some e → ∃ xs p, H t = some (.lst xs) ∧ atI xs (x : Int) = some (.ref p) ∧ H p = some (.tup [.int (e.1 : Int), .int (e.2 : Int)]) := fun hx => hT.at_ hx
  obtain ⟨a0, wi2, p0, q0, o1, o2, o3, o4, o5⟩ := hW.on (i - 1) (by omega)
  rw [show i - 1 + 1 = i by omega] at o2
  rw [o1] at r4
  cases r4
  rw [o3] at r8
  cases r8
  obtain ⟨z1, p1, k11, k12, k13⟩ := hTT r5
  obtain ⟨z2, p2, k21, k22, k23⟩ := hTT r6
  obtain ⟨z3, p3, k31, k32, k33⟩ := hTT r7
  obtain ⟨z4, p4, k41, k42, k43⟩ := hTT o4
  refine ⟨_, rfl, s, _, rfl, .inl (SqL.of hs), _, _, rfl, rfl, _, rfl, iteNot' (show (j : Int) < ((iv W).length : Int) by omega) ?_⟩
  refine ⟨_, rfl, r, _, rfl, .inl (SqL.of hr'), rfl, _, rfl, iteNo (fun z => by have := int_eq.mp z; omega) ?_⟩
  refine ⟨_, rfl, _, rfl, _, _, _, .int (wj : Int), rfl, rfl, SqL.of hs, iv_at r3, _, rfl, r, _, rfl, .inl (SqL.of hr'), rfl, flat_iv _, _, rfl, ?_⟩
  rw [inV_iv]
  refine iteNo (hRo.nj wj r3) ?_
  refine ⟨_, rfl, _, rfl, _, _, rfl, rfl, _, _, _, .int (wi : Int), rfl, rfl, SqL.of hs, (by rw [show ((i : Nat) : Int) - 1 = ((i - 1 : Nat) : Int) by omega]; exact iv_at o1), _, rfl, r, _, rfl, .inl (SqL.of hr'), rfl, flat_iv _, _, rfl, ?_⟩
  rw [inV_iv]
  refine iteNo (hRo.ni wi o1) ?_
  refine ⟨_, rfl, _, rfl, _, _, _, .int (x0 : Int), rfl, rfl, SqL.of hr', iv_at (j := 0) r1, _, _, _, .ref p1, rfl, rfl, SqL.of k11, k12, _, _, _, .int (e.1 : Int), rfl, rfl, SqT.of k13, rfl, _, rfl, _, rfl, _, rfl, _, _, _, .int (wj : Int), rfl, rfl, SqL.of hs, iv_at r3, _, _, _, .ref p3, rfl, rfl, SqL.of k31, k32, _, _, _, .int (g.1 : Int), rfl, rfl, SqT.of k33, rfl, rfl, _, rfl, iteNot' (by rw [r9]) ?_⟩
  refine ⟨_, rfl, _, rfl, _, rfl, _, _, _, .int (y0 : Int), rfl, rfl, SqL.of hr', iv_back r2, _, _, _, .ref p2, rfl, rfl, SqL.of k21, k22, _, _, _, .int (f0.2 : Int), rfl, rfl, SqT.of k23, rfl, _, rfl, _, rfl, _, rfl, _, _, _, .int (wi2 : Int), rfl, rfl, SqL.of hs, iv_at o2, _, _, _, .ref p4, rfl, rfl, SqL.of k41, k42, _, _, _, .int (q0.1 : Int), rfl, rfl, SqT.of k43, rfl, rfl, _, rfl, iteNot' (by rw [r10, o5]) ?_⟩
  refine ⟨_, rfl, _, rfl, _, rfl, r, _, rfl, SqL.of hr', fun q1 nq1 => ⟨r, q1, _, _, rfl, SqL.of (same_new nq1 _ _ _ hr'), SqL.of upd_same, fun D nD => ?_⟩⟩
  rw [show cutV (iv R) (some (1 : Int)) none = (iv R).drop 1 from cutV_from (k := 1)] at nD ⊢
  have hS3 := same_new nq1 (.lst ((iv R).drop 1))
  have hq3 : upd H q1 (.lst ((iv R).drop 1)) q1 = some (.lst ((iv R).drop 1)) := upd_same
  generalize upd H q1 (.lst ((iv R).drop 1)) = H3 at hS3 hq3 nD
  have hs3 : H3 r = some (.lst (iv R)) := hS3 _ _ hr'
  have hT3 := hT.same hS3
  refine lc_it (walk_zip (K := K) (a := r) (b := q1) (xs := iv R) (ys := (iv R).drop 1) (n := R.length - 1) (by rw [List.length_drop, List.length_map]; omega)) (fun i H' => Same H3 H' ∧ H' D = some (.lst ((List.replicate i true).map V.bl))) ⟨same_new nD _, upd_same⟩ (fun i H' _ ⟨hS', _⟩ => ⟨SqL.of (hS' _ _ hs3), SqL.of (hS' _ _ hq3)⟩) ?_ ?_
  · rintro m y H4 H5 hm ⟨hS4, hD4⟩ ⟨T0, x1, x2, rfl, nT0, rfl, e1, e2⟩
    obtain ⟨xa, xb, ea, eb, b1, b2, b3, b4, b5⟩ := hRo.ch.on m (by omega)
    replace e1 : (iv R)[m]? = some x1 := e1
    replace e2 : ((iv R).drop 1)[m]? = some x2 := e2
    rw [List.getElem?_map, b1] at e1
    rw [List.getElem?_drop, List.getElem?_map, show 1 + m = m + 1 by omega, b2] at e2
    cases e1
    cases e2
    have hS5 := hS4.trans (same_new nT0 (.tup [.int (xa : Int), .int (xb : Int)]))
    have hT5 : upd H4 T0 (.tup [.int (xa : Int), .int (xb : Int)]) T0 = some (.tup [.int (xa : Int), .int (xb : Int)]) := upd_same
    have hD5 := same_new nT0 (.tup [.int (xa : Int), .int (xb : Int)]) _ _ hD4
    generalize upd H4 T0 (.tup [.int (xa : Int), .int (xb : Int)]) = H5 at hS5 hT5 hD5
    obtain ⟨zs, p0, k1, k2, k3⟩ := (hT3.same hS5).at_ b3
    obtain ⟨zs', p0', k1', k2', k3'⟩ := (hT3.same hS5).at_ b4
    refine ⟨T0, _, rfl, SqT.of hT5, rfl, _, _, rfl, _, _, rfl, rfl, rfl, ?_⟩
    refine ⟨_, rfl, _, rfl, _, _, _, .ref p0, rfl, rfl, SqL.of k1, k2, _, _, _, .int (ea.2 : Int), rfl, rfl, SqT.of k3, rfl, ?_⟩
    refine ⟨_, rfl, _, rfl, _, _, _, .ref p0', rfl, rfl, SqL.of k1', k2', _, _, _, .int (eb.1 : Int), rfl, rfl, SqT.of k3', rfl, rfl, _, hD5, ?_, same_upd hS5 nD, ?_⟩
    · rw [List.length_map, List.length_replicate]
      exact sml1000 (by omega)
    · rw [upd_same, List.replicate_succ', List.map_append, b5, decide_eq_true rfl]
      rfl
  rintro H4 ⟨hS4, hD4⟩
  refine ⟨D, List.replicate (R.length - 1) true, rfl, SqL.of hD4, ?_⟩
  rw [show (List.replicate (R.length - 1) true).all id = true by simp]
  exact q H4 (hS3.trans hS4)
end
end My
namespace My
open PySem L2 PyProof.Rows
/-! ### small data -/
structure Sm (d : PyData) : Prop where
  sh : d.showable = true
  nd : d.hasDict = false
  lay : d.canLay0 = true
  shorts : d.intsShort 13 = true
  dep : d.depth ≤ 2
  wt : d.weight ≤ 20
structure SmAll (ds : List PyData) : Prop where
  sh : PyData.showableAll ds = true
  nd : PyData.hasDictAll ds = false
  lay : PyData.canLayAll0 ds = true
  shorts : PyData.intsShortAll 13 ds = true
  dep : PyData.depthAll ds ≤ 2
  wt : PyData.weightAll ds ≤ 21 * ds.length
theorem smAll : ∀ {ds : List PyData}, (∀ d ∈ ds, Sm d) → SmAll ds
  | [], _ => ⟨rfl, rfl, rfl, rfl, Nat.zero_le _, Nat.zero_le _⟩
  | d :: r, h => by
    have h1 := h d List.mem_cons_self
    have ih := smAll (ds := r) fun x hx => h x (List.mem_cons_of_mem _ hx)
    refine ⟨?_, ?_, ?_, ?_, ?_, ?_⟩
    · show (d.showable && PyData.showableAll r) = true
      rw [h1.sh, ih.sh]; rfl
    · show (d.hasDict || PyData.hasDictAll r) = false
      rw [h1.nd, ih.nd]; rfl
    · show (d.canLay0 && PyData.canLayAll0 r) = true
      rw [h1.lay, ih.lay]; rfl
    · show (d.intsShort 13 && PyData.intsShortAll 13 r) = true
      rw [h1.shorts, ih.shorts]; rfl
    · show max d.depth (PyData.depthAll r) ≤ 2
      have := h1.dep
      have := ih.dep
      omega
    · show d.weight + 1 + PyData.weightAll r ≤ 21 * (d :: r).length
      have := h1.wt
      have := ih.wt
      rw [List.length_cons]
      omega
theorem sm_none : Sm .none := ⟨rfl, rfl, rfl, rfl, by decide, by decide⟩
theorem sm_bool (b : Bool) : Sm (.bool b) := ⟨rfl, rfl, rfl, rfl, Nat.zero_le _, Nat.zero_le _⟩
theorem sm_str {s : Str} (h : s.cps.all (· < 0x110000) = true) (k : s.cps.size ≤ 20) : Sm (.str s) := ⟨rfl, rfl, h, rfl, Nat.zero_le _, k⟩
theorem log_small {n : Int} (h : n.natAbs < 128) : n.natAbs.log2 < 7 := by
  by_cases c : n.natAbs = 0
  · rw [c]; decide
  · exact (Nat.log2_lt c).mpr h
theorem int_short {n : Int} (h : n.natAbs < 128) : PyData.intsShort 13 (.int n) = true := by
  have := PyData.intsShortAll_ints [n] fun m hm => by
    rw [List.mem_singleton.mp hm]
    omega
  have h2 : (PyData.intsShort 13 (.int n) && true) = true := this
  simpa using h2
theorem sm_int {n : Int} (h : n.natAbs < 128) : Sm (.int n) := by
  have h1 := log_small h
  refine ⟨?_, rfl, rfl, int_short h, Nat.zero_le _, ?_⟩
  · show PyData.showable (.int n) = true
    unfold PyData.showable
    exact decide_eq_true (by omega)
  · show PyData.weight (.int n) ≤ 20
    unfold PyData.weight
    split <;> omega
theorem sm_one : Sm (.list [.int 0]) := ⟨by decide +kernel, by decide +kernel, by decide +kernel, by decide +kernel, by decide +kernel, by decide +kernel⟩
structure Fits (d : PyData) : Prop where
  sh : d.showable = true
  nd : d.hasDict = true → d = .dict []
  dep : d.depth ≤ 60
  len : d.shown.length ≤ sizeLine
theorem fits_list {ds : List PyData} (h : SmAll ds) (hl : ds.length ≤ 1000) : Fits (.list ds) := by
  refine ⟨?_, fun z => ?_, ?_, ?_⟩
  · show PyData.showable (.list ds) = true
    unfold PyData.showable
    exact h.sh
  · have : PyData.hasDict (.list ds) = false := by
      unfold PyData.hasDict
      exact h.nd
    rw [this] at z
    cases z
  · show PyData.depth (.list ds) ≤ 60
    unfold PyData.depth
    have := h.dep
    omega
  · refine PyData.shown_fits (B := 13) (by decide) (by decide) (PyData.leavesShort_of_canLay0 13 _ ?_ ?_) ?_
    · show PyData.canLay0 (.list ds) = true
      unfold PyData.canLay0
      exact h.lay
    · show PyData.intsShort 13 (.list ds) = true
      unfold PyData.intsShort
      exact h.shorts
    · show PyData.weight (.list ds) ≤ _
      unfold PyData.weight
      have := h.wt
      omega
theorem fits_tup {ds : List PyData} (h : SmAll ds) (hl : ds.length ≤ 1000) : Fits (.tuple ds) := by
  refine ⟨?_, fun z => ?_, ?_, ?_⟩
  · show PyData.showable (.tuple ds) = true
    unfold PyData.showable
    exact h.sh
  · have : PyData.hasDict (.tuple ds) = false := by
      unfold PyData.hasDict
      exact h.nd
    rw [this] at z
    cases z
  · show PyData.depth (.tuple ds) ≤ 60
    unfold PyData.depth
    have := h.dep
    omega
  · refine PyData.shown_fits (B := 13) (by decide) (by decide) (PyData.leavesShort_of_canLay0 13 _ ?_ ?_) ?_
    · show PyData.canLay0 (.tuple ds) = true
      unfold PyData.canLay0
      exact h.lay
    · show PyData.intsShort 13 (.tuple ds) = true
      unfold PyData.intsShort
      exact h.shorts
    · show PyData.weight (.tuple ds) ≤ _
      unfold PyData.weight
      have := h.wt
      omega
/-- a value that law asks about -/
structure Odd (K : PySem.W.Frag) (H : Hp) (v : V) (o : Option (List (Option Int))) (d : PyData) : Prop where
  val : Val H v o
  len : ∀ os, o = some os → os.length ≤ 100
  shows : Shows K H v d
  fits : Fits d
end My
namespace My
open PySem L2 PyProof.Rows
/-- the heap without the pot -/
def Off (a : Addr) (H : Hp) : Hp := fun b => if b = a then none else H b
theorem Off.get {a p : Addr} {H : Hp} {o : HO} (h : H p = some o) (n : p ≠ a) : Off a H p = some o := by
  unfold Off
  rw [if_neg n]
  exact h
theorem Off.same {a : Addr} {H : Hp} : Same (Off a H) H := fun b o e => by
  unfold Off at e
  split at e
  · cases e
  · exact e
theorem Off.none {a : Addr} {H : Hp} : Off a H a = none := by unfold Off; rw [if_pos rfl]
theorem Off.mono {a : Addr} {H H' : Hp} (s : Same H H') : Same (Off a H) (Off a H') := fun b o e => by
  unfold Off at e
  split at e
  · cases e
  · rename_i n
    exact Off.get (s _ _ e) n
theorem Off.kept {a : Addr} {H H' : Hp} (s : Kept a H H') : Same (Off a H) (Off a H') := fun b o e => by
  unfold Off at e
  split at e
  · cases e
  · rename_i n
    exact Off.get (s _ _ e n) n
theorem str0 : (Str.ofString "0").cps.all (· < 0x110000) = true := by decide +kernel
theorem str0z : (Str.ofString "0").cps.size ≤ 20 := by decide +kernel
/-- what may stand in a list that is asked about -/
inductive Itm (S : Hp) : V → Prop where
  | non : Itm S .non
  | bl (b : Bool) : Itm S (.bl b)
  | int {n : Int} (h : n.natAbs < 128) : Itm S (.int n)
  | str : Itm S (.str (Str.ofString "0"))
  | one {z : Addr} (h : S z = some (.lst [.int 0])) : Itm S (.ref z)
theorem Itm.same {S S' : Hp} {v : V} (h : Itm S v) (s : Same S S') : Itm S' v := by
  cases h with
  | non => exact .non
  | bl b => exact .bl b
  | int h => exact .int h
  | str => exact .str
  | one h => exact .one (s _ _ h)
theorem Itm.is {K : PySem.W.Frag} {S : Hp} {v : V} (h : Itm S v) : ∃ o d, Num S v o ∧ Dp K S v d ∧ Sm d := by
  cases h with
  | non => exact ⟨_, _, .non, .non, sm_none⟩
  | bl b => exact ⟨_, _, .bl b, .bl b, sm_bool b⟩
  | int h => exact ⟨_, _, .int _, .int _, sm_int h⟩
  | str => exact ⟨_, _, .str _, .str _, sm_str str0 str0z⟩
  | one h => exact ⟨_, _, .lst h, .lst (SqL.of h) (.cons (.int 0) .nil), sm_one⟩
theorem itms {K : PySem.W.Frag} {S : Hp} : ∀ {xs : List V}, (∀ x ∈ xs, Itm S x) → ∃ os ds, Paired (Num S) xs os ∧ DpAll K S xs ds ∧ SmAll ds ∧ os.length = xs.length ∧ ds.length = xs.length
  | [], _ => ⟨[], [], .nil, .nil, ⟨rfl, rfl, rfl, rfl, Nat.zero_le _, Nat.zero_le _⟩, rfl, rfl⟩
  | x :: r, h => by
    obtain ⟨o, d, h1, h2, h3⟩ := (h x List.mem_cons_self).is (K := K)
    have hr := fun y hy => h y (List.mem_cons_of_mem _ hy)
    obtain ⟨os, ds, k1, k2, k3, k4, k5⟩ := itms (K := K) (xs := r) hr
    refine ⟨o :: os, d :: ds, .cons h1 k1, .cons h2 k2, ?_, by simp [k4], by simp [k5]⟩
    refine ⟨?_, ?_, ?_, ?_, ?_, ?_⟩
    · show (d.showable && PyData.showableAll ds) = true
      rw [h3.sh, k3.sh]; rfl
    · show (d.hasDict || PyData.hasDictAll ds) = false
      rw [h3.nd, k3.nd]; rfl
    · show (d.canLay0 && PyData.canLayAll0 ds) = true
      rw [h3.lay, k3.lay]; rfl
    · show (d.intsShort 13 && PyData.intsShortAll 13 ds) = true
      rw [h3.shorts, k3.shorts]; rfl
    · show max d.depth (PyData.depthAll ds) ≤ 2
      have := h3.dep
      have := k3.dep
      omega
    · show d.weight + 1 + PyData.weightAll ds ≤ 21 * (d :: ds).length
      have := h3.wt
      have := k3.wt
      rw [List.length_cons]
      omega
theorem odd_lst {K : PySem.W.Frag} {S : Hp} {p : Addr} {xs : List V} (h : S p = some (.lst xs)) (hi : ∀ x ∈ xs, Itm S x) (hl : xs.length ≤ 100) : ∃ o d, Odd K S (.ref p) o d := by
  obtain ⟨os, ds, k1, k2, k3, k4, k5⟩ := itms (K := K) hi
  exact ⟨some os, .list ds, .lst h k1, fun os' e => by cases e; omega, .inl (.lst (SqL.of h) k2), fits_list k3 (by omega)⟩
theorem odd_tup {K : PySem.W.Frag} {S : Hp} {p : Addr} {xs : List V} (h : S p = some (.tup xs)) (hi : ∀ x ∈ xs, Itm S x) (hl : xs.length ≤ 100) : ∃ o d, Odd K S (.ref p) o d := by
  obtain ⟨os, ds, k1, k2, k3, k4, k5⟩ := itms (K := K) hi
  exact ⟨some os, .tuple ds, .tup h k1, fun os' e => by cases e; omega, .inl (.tup (SqT.of h) k2), fits_tup k3 (by omega)⟩
theorem iv_itm {S : Hp} {R : List Nat} (h : ∀ x ∈ R, x < 128) : ∀ v ∈ iv R, Itm S v := fun v hv => by
  obtain ⟨x, hx, rfl⟩ := List.mem_map.mp hv
  have := h x hx
  exact .int (by omega)
theorem cutV_mem {xs : List V} {p q : Option Int} {v : V} (h : v ∈ cutV xs p q) : v ∈ xs := by
  unfold cutV at h
  exact List.mem_of_mem_drop (List.mem_of_mem_take h)
theorem cutV_len (xs : List V) (p q : Option Int) : (cutV xs p q).length ≤ xs.length := by
  unfold cutV
  rw [List.length_take, List.length_drop]
  omega
/-- what stays while a list is bent -/
structure Bnd (a s : Addr) (H0 : Hp) (R : List Nat) (odd : V) (H : Hp) : Prop where
  k : Kept a H0 H
  p : PotAt H a
  s : H s = some (.lst (iv R))
  o : Itm (Off a H) odd
structure Lst (a : Addr) (H : Hp) (p : Addr) (xs : List V) (n : Nat) : Prop where
  h : H p = some (.lst xs)
  na : p ≠ a
  i : ∀ x ∈ xs, Itm (Off a H) x
  l : xs.length ≤ n
theorem Bnd.new {a s : Addr} {H0 H : Hp} {R : List Nat} {odd : V} {q : Addr} {ob : HO} (h : Bnd a s H0 R odd H) (nq : H q = none) : Bnd a s H0 R odd (upd H q ob) := ⟨h.k.new nq, h.p.new nq, same_new nq _ _ _ h.s, h.o.same (Off.mono (same_new nq _))⟩
theorem Lst.new {a : Addr} {H : Hp} {p : Addr} {xs : List V} {n : Nat} {q : Addr} {ob : HO} (h : Lst a H p xs n) (nq : H q = none) : Lst a (upd H q ob) p xs n := ⟨same_new nq _ _ _ h.h, h.na, fun x hx => (h.i x hx).same (Off.mono (same_new nq _)), h.l⟩
theorem Lst.mk' {a : Addr} {H : Hp} {q : Addr} {xs : List V} {n : Nat} (hp : PotAt H a) (nq : H q = none) (hi : ∀ x ∈ xs, Itm (Off a H) x) (hl : xs.length ≤ n) : Lst a (upd H q (.lst xs)) q xs n := ⟨upd_same, hp.ne nq, fun x hx => (hi x hx).same (Off.mono (same_new nq _)), hl⟩
theorem Bnd.cut {a s : Addr} {H0 H : Hp} {R : List Nat} {odd : V} {q : Addr} (h : Bnd a s H0 R odd H) (hR : ∀ x ∈ R, x < 128) (hl : R.length ≤ 20) (nq : H q = none) (lo hi : Option Int) : Lst a (upd H q (.lst (cutV (iv R) lo hi))) q (cutV (iv R) lo hi) 20 :=
  .mk' h.p nq (fun x hx => iv_itm hR x (cutV_mem hx)) (Nat.le_trans (cutV_len _ _ _) (by rw [List.length_map]; exact hl))
theorem Lst.cat {a : Addr} {H : Hp} {p q r : Addr} {xs ys : List V} {n m : Nat} (h : Lst a H p xs n) (k : Lst a H q ys m) (hp : PotAt H a) (nr : H r = none) : Lst a (upd H r (.lst (xs ++ ys))) r (xs ++ ys) (n + m) :=
  .mk' hp nr (fun x hx => (List.mem_append.mp hx).elim (h.i x) (k.i x)) (by rw [List.length_append]; have := h.l; have := k.l; omega)
theorem Lst.small {a : Addr} {H : Hp} {p q : Addr} {xs ys : List V} {n m : Nat} (h : Lst a H p xs n) (k : Lst a H q ys m) (hnm : n + m ≤ 100) : xs.length + ys.length ≤ sizeLine := by
  have := h.l
  have := k.l
  exact Nat.le_trans (by omega : xs.length + ys.length ≤ 100) (by decide)
theorem Lst.odd {K : PySem.W.Frag} {a : Addr} {H : Hp} {p : Addr} {xs : List V} {n : Nat} (h : Lst a H p xs n) (hn : n ≤ 100) : ∃ o d, Odd K (Off a H) (.ref p) o d := odd_lst (Off.get h.h h.na) h.i (Nat.le_trans h.l hn)
theorem eqv_two (a b : Nat) : PyData.eqv (two a b) (two a b) = true := SeqAt.eqv_refl _ (SeqAt.canLay_of_shaped (shaped_two a b))
theorem rd_same {H H' : Hp} (s : Same H H') {a : Addr} {o : HO} (h : Rd H a o) : Rd H' a o := by
  rcases h with h | ⟨ob, h⟩
  · exact .inl (s _ _ h)
  · exact .inr ⟨ob, s _ _ h⟩
theorem sql_same {K : PySem.W.Frag} {H H' : Hp} (s : Same H H') {a : Addr} {xs : List V} (h : SqL K H a xs) : SqL K H' a xs := h.imp (rd_same s) id
theorem sqt_same {K : PySem.W.Frag} {H H' : Hp} (s : Same H H') {a : Addr} {xs : List V} (h : SqT K H a xs) : SqT K H' a xs := h.imp (rd_same s) id
mutual
theorem dp_same {K : PySem.W.Frag} {H H' : Hp} (s : Same H H') : ∀ {v : V} {d : PyData}, Dp K H v d → Dp K H' v d
  | _, _, .non => .non
  | _, _, .bl b => .bl b
  | _, _, .int i => .int i
  | _, _, .str x => .str x
  | _, _, .lst h r => .lst (sql_same s h) (dps_same s r)
  | _, _, .tup h r => .tup (sqt_same s h) (dps_same s r)
theorem dps_same {K : PySem.W.Frag} {H H' : Hp} (s : Same H H') : ∀ {vs : List V} {ds : List PyData}, DpAll K H vs ds → DpAll K H' vs ds
  | _, _, .nil => .nil
  | _, _, .cons h r => .cons (dp_same s h) (dps_same s r)
end
theorem Odd.same {K : PySem.W.Frag} {H H' : Hp} {v : V} {o : Option (List (Option Int))} {d : PyData} (h : Odd K H v o d) (s : Same H H') : Odd K H' v o d :=
  ⟨h.val.same s, h.len, h.shows.imp (dp_same s) (fun ⟨e, a, ea, ha⟩ => ⟨e, a, ea, s _ _ ha⟩), h.fits⟩
theorem fits_non : Fits .none := ⟨rfl, fun z => (by cases z), Nat.zero_le _, by decide +kernel⟩
theorem fits_zero : Fits (.int 0) := ⟨by decide +kernel, fun z => (by cases z), Nat.zero_le _, by decide +kernel⟩
theorem fits_empty : Fits (.str (Str.ofString "")) := ⟨rfl, fun z => (by cases z), Nat.zero_le _, by decide +kernel⟩
theorem fits_dict : Fits (.dict []) := ⟨by decide +kernel, fun _ => rfl, by decide +kernel, by decide +kernel⟩
theorem fits_two (b c : Bool) : Fits (.list [.bool b, .bool c]) := fits_list (smAll fun d hd => by
  rcases List.mem_cons.mp hd with e | e
  · rw [e]; exact sm_bool b
  · rw [List.mem_singleton.mp e]; exact sm_bool c) (by show 2 ≤ 1000; omega)
end My
/-! xs[lo::k] of a list, k a whole number told in the program, not 0 -/
namespace My
open PySem PySem.Spec PyProof.Rows L2
def placesOf (n : Nat) (lo hi st : Option Int) : List Nat := sliceRange (sliceBounds lo hi st n).1 (sliceBounds lo hi st n).2.1 (sliceBounds lo hi st n).2.2
/-- the items that stand at a slice's places -/
def pickV (xs : List V) (lo hi st : Option Int) : List V := (placesOf xs.length lo hi st).filterMap (xs[·]?)
theorem pickV_mem {xs : List V} {lo hi st : Option Int} {v : V} (h : v ∈ pickV xs lo hi st) : v ∈ xs := by
  obtain ⟨i, _, e⟩ := List.mem_filterMap.mp h
  exact List.mem_of_getElem? e
theorem vals_pick {xs : List V} {us : List Value} (r : Vals xs us) : ∀ I : List Nat, Vals (I.filterMap (xs[·]?)) (I.filterMap (us[·]?))
  | [] => .nil
  | i :: I => by
    have ih := vals_pick r I
    rw [List.filterMap_cons, List.filterMap_cons]
    cases e : xs[i]? with
    | none =>
      have e2 : us[i]? = none := by
        rw [List.getElem?_eq_none_iff] at e ⊢
        rw [← r.length]
        exact e
      rw [e2]
      exact ih
    | some x =>
      obtain ⟨u, e2, ru⟩ := r.get e
      rw [e2]
      exact .cons ru ih
def tStepL (K : PySem.W.Frag) (k : Int) (te : TE) (tl : TO) : TE := fun σ H Q => te σ H fun x H1 => tl σ H1 fun lo H2 =>
  ∃ a xs, x = .ref a ∧ SqL K H2 a xs ∧ ∀ p, H2 p = none → (pickV xs lo none (some k)).length ≤ xs.length → Q (.ref p) (upd H2 p (.lst (pickV xs lo none (some k))))
theorem pe_stepL {X : Cx} {e est : Expr} {lo : Option Expr} {te : TE} {tl : TO} {k : Int} {p3 pos : Pos} (hk : k ≠ 0) (he : PE X e te) (hl : PO X lo tl) (hs : PO X (some est) (tPart (tC (.int k)))) : PE X (.Subscript e (.Slice lo none (some est) p3) pos) (tStepL X.K k te tl) := by
  refine ⟨fun pins s σ H Q I h => ?_⟩
  refine Subscript_ (thn (he.run pins s σ H _ I h) fun v s1 ⟨x, H1, I1, r1, q1⟩ => ?_)
  refine wpAny_Slice (thn (hl.run pins s1 σ H1 _ I1 q1) fun vl s2 ⟨l, H2, I2, pl, q2⟩ => ?_)
  obtain ⟨a, xs, ex, hx, q⟩ := q2
  subst ex
  cases r1
  refine thn (po_none.run pins s2 σ H2 (fun o H3 => o = none ∧ H3 = H2) I2 ⟨rfl, rfl⟩) fun vu s3 ⟨u, H3, I3, pu, eu, e3⟩ => ?_
  subst eu e3
  refine thn (hs.run pins s3 σ H3 (fun o H4 => o = some k ∧ H4 = H3) I3 ⟨k, rfl, rfl, rfl⟩) fun vs s4 ⟨o, H4, I4, ps, eo, e4⟩ => ?_
  subst eo e4
  have I5 : Inv X pins σ H4 { s4 with heap := s4.heap.push { cls := .type "slice", data := .fields #[vl, vu, vs] } } := I4.kept (t' := s4.toks) fun b ob g => Heap.get?_push_of_some _ g
  obtain ⟨its, r, ht, hz⟩ := I5.list hx
  have hlen := r.length
  have hple := slicePick_size_le its.toArray l none (some k)
  show wpAny (model X.prog X.w) X.A (subscriptTail e (.Slice lo none (some est) p3) (.ref a) (.ref s4.heap.objs.size)) (EP X pins σ Q) X.xe { s4 with heap := s4.heap.push { cls := .type "slice", data := .fields #[vl, vu, vs] } }
  refine tail_any (ops := [.ref a, .ref s4.heap.objs.size]) ht.isList.typeIs (PySem.slot_list_getitem.lookup) ?_ (by with_unfolding_all rfl)
  refine wpAny_getItem_list_slice ht.isList (Heap.IsSliceOf.new _ vl vu vs) pl pu ps (fun z => hk (Option.some.inj z)) ?_ (by rw [List.size_toArray]; omega)
  have rp : Vals (pickV xs l none (some k)) (slicePick its.toArray l none (some k)).toList := by
    have h0 := vals_pick r (placesOf xs.length l none (some k))
    have e1 : (slicePick its.toArray l none (some k)).toList = (placesOf xs.length l none (some k)).filterMap (its[·]?) := by
      unfold slicePick placesOf
      rw [List.size_toArray, ← hlen]
      have e2 : (fun i : Nat => its.toArray[i]?) = fun i : Nat => its[i]? := funext fun i => by rw [List.getElem?_toArray]
      rw [e2]
    rw [e1]
    exact h0
  have hl2 : (pickV xs l none (some k)).length ≤ xs.length := by
    have h3 : (slicePick its.toArray l none (some k)).toList.length = (slicePick its.toArray l none (some k)).size := Array.length_toList
    have h4 : its.toArray.size = its.length := List.size_toArray
    rw [rp.length]
    omega
  refine ⟨.ref _, _, I5.laid (t' := s4.toks) (o := .lst (pickV xs l none (some k))) (fun b ob g => Heap.get?_push_of_some _ g) (Nat.le_refl _) ?_, rfl, q _ (I5.hok.fresh (Nat.le_refl _)) hl2⟩
  exact ⟨Nat.le_trans hl2 hz, _, 0, rp, Heap.get?_push_size _ rfl⟩
end My
set_option maxHeartbeats 4000000
namespace My
open PySem L2 PyProof.Rows
section
variable {P : Program} {w : World} {K : PySem.W.Frag} {mg : Str → Option Value} {base : Heap} {C : Addr}
def sp_law_right (_ : PySem.W.Frag) (_ : Addr) : Sp := fun vs H Q _ => ∃ a, vs = [.ref a] ∧ PotAt H a ∧ ∀ H', Q (.bl true) H'
theorem ok_law_right (D : Def K mg "_law_right" s_law_right ["_law_pot_here"]) (B : Bs mg) (Glb : Glo mg) (WK : WebK K mg C)
    (h_law_ties : Good P w K mg base "_law_ties" s_law_ties ["_law_pot_here"] 3 (sp_law_ties K C))
    (hroad_around : Good P w K mg base "road_around" sroad_around ["web", "walk"] 9 (sproad_around K C))
    (h_law_walk : Good P w K mg base "_law_walk" s_law_walk ["_law_pot_here", "_law_ties_here", "_law_most"] 3 (sp_law_walk K C))
    (h_law_is_sure : Good P w K mg base "_law_is_sure" s_law_is_sure ["_law_places", "_law_ties_here", "_law_walk_here"] 3 (sp_law_is_sure K C))
    (h_law_out : Good P w K mg base "_law_out" s_law_out ["_law_ties_here", "_law_place", "_law_without"] 1 (sp_law_out K C))
    (hgoes_on : Good P w K mg base "goes_on" sgoes_on ["web", "walk"] 11 (spgoes_on K C))
    (hcomes_from : Good P w K mg base "comes_from" scomes_from ["web", "walk"] 11 (spcomes_from K C))
    (his_sure : Good P w K mg base "is_sure" sis_sure ["web", "walk"] 10 (spis_sure K C))
    (h_law_is_around : Good P w K mg base "_law_is_around" s_law_is_around ["_law_ties_here", "_law_walk_here", "_law_told"] 1 (sp_law_is_around K C))
    (his_road_around : Good P w K mg base "is_road_around" sis_road_around ["web", "walk", "value"] 10 (spis_road_around K C))
    (hWeb___init__ : GoodI P w K mg base C "__init__" "Web.__init__" sWeb___init__ ["self", "places", "ties"] 5 (spWeb___init__ K C))
    (hWeb_ties : GoodM P w K mg base C "ties" "Web.ties" sWeb_ties ["self"] 1 (spWeb_ties K C)) :
    GoodG P w K mg base "_law_right" s_law_right ["_law_pot_here"] 12 (sp_law_right K C) := by
  refine D.goodG fun f fd F => ?_
  obtain ⟨f_law_ties, d_law_ties, O_law_ties, m_law_ties, k_law_ties, b_law_ties, F_law_ties⟩ := h_law_ties
  obtain ⟨froad_around, droad_around, Oroad_around, mroad_around, kroad_around, broad_around, Froad_around⟩ := hroad_around
  obtain ⟨f_law_walk, d_law_walk, O_law_walk, m_law_walk, k_law_walk, b_law_walk, F_law_walk⟩ := h_law_walk
  obtain ⟨f_law_is_sure, d_law_is_sure, O_law_is_sure, m_law_is_sure, k_law_is_sure, b_law_is_sure, F_law_is_sure⟩ := h_law_is_sure
  obtain ⟨f_law_out, d_law_out, O_law_out, m_law_out, k_law_out, b_law_out, F_law_out⟩ := h_law_out
  obtain ⟨fgoes_on, dgoes_on, Ogoes_on, mgoes_on, kgoes_on, bgoes_on, Fgoes_on⟩ := hgoes_on
  obtain ⟨fcomes_from, dcomes_from, Ocomes_from, mcomes_from, kcomes_from, bcomes_from, Fcomes_from⟩ := hcomes_from
  obtain ⟨fis_sure, dis_sure, Ois_sure, mis_sure, kis_sure, bis_sure, Fis_sure⟩ := his_sure
  obtain ⟨f_law_is_around, d_law_is_around, O_law_is_around, m_law_is_around, k_law_is_around, b_law_is_around, F_law_is_around⟩ := h_law_is_around
  obtain ⟨fis_road_around, dis_road_around, Ois_road_around, mis_road_around, kis_road_around, bis_road_around, Fis_road_around⟩ := his_road_around
  obtain ⟨fWeb___init__, dWeb___init__, OWeb___init__, MK, bWeb___init__⟩ := hWeb___init__
  obtain ⟨fWeb_ties, dWeb_ties, OWeb_ties, tWeb_ties, bWeb_ties, FWeb_ties⟩ := hWeb_ties
  have kb_comes_from_walk_web : KBinds K dcomes_from ["web", "walk"] ["walk", "web"] g21 g21 := fun_kbinds Fcomes_from g21 g21 rel21 (fun _ _ _ _ _ _ us ws hl => by
    obtain ⟨rfl, a0, a1, rfl⟩ := g21_inv hl
    rfl)
  have kb_goes_on_walk_web : KBinds K dgoes_on ["web", "walk"] ["walk", "web"] g21 g21 := fun_kbinds Fgoes_on g21 g21 rel21 (fun _ _ _ _ _ _ us ws hl => by
    obtain ⟨rfl, a0, a1, rfl⟩ := g21_inv hl
    rfl)
  have kb_is_sure_walk_web : KBinds K dis_sure ["web", "walk"] ["walk", "web"] g21 g21 := fun_kbinds Fis_sure g21 g21 rel21 (fun _ _ _ _ _ _ us ws hl => by
    obtain ⟨rfl, a0, a1, rfl⟩ := g21_inv hl
    rfl)
  refine FnG.ofBody F sc_law_right (fun vs H Q E h => ?_) (fun cdv A outer s H vs Q E hr quiet h => ?_)
  · obtain ⟨a, rfl, hp, q⟩ := h
    first | rfl | (rcases h with ⟨_, _, rfl, _⟩ | ⟨_, rfl, _⟩ <;> rfl)
  obtain ⟨a, rfl, hp, q⟩ := h
  have hur := hu70 hr
  refine ⟨_, (pss_cons (ps_asg (pe_call O_law_ties (hr.mono (by decide)) rfl m_law_ties k_law_ties b_law_ties .nil pass0 (pa_cons (pv 0) pa_nil)) (pg_tup rfl (pgs_cons (pg_name (i := 1) sc_law_right.nd rfl (by first | exact Or.inl rfl | exact Or.inr rfl)) (pgs_cons (pg_name (i := 2) sc_law_right.nd rfl (by first | exact Or.inl rfl | exact Or.inr rfl)) pgs_nil))))
  (pss_cons (ps_asg (pe_tup (pa_cons (pe_make MK OWeb___init__ (hr.mono (by decide)) rfl WK.mgC bWeb___init__ .nil pass0 (pa_cons (pv 1) (pa_cons (pv 2) pa_nil))) (pa_cons (pe_call O_law_walk (hr.mono (by decide)) rfl m_law_walk k_law_walk b_law_walk .nil pass0 (pa_cons (pv 0) (pa_cons (pv 2) (pa_cons pe_int pa_nil)))) pa_nil))) (pg_tup rfl (pgs_cons (pg_name (i := 3) sc_law_right.nd rfl (by first | exact Or.inl rfl | exact Or.inr rfl)) (pgs_cons (pg_name (i := 4) sc_law_right.nd rfl (by first | exact Or.inl rfl | exact Or.inr rfl)) pgs_nil))))
  (pss_cons (ps_asg (pe_tup (pa_cons (pe_call O_law_is_sure (hr.mono (by decide)) rfl m_law_is_sure k_law_is_sure b_law_is_sure .nil pass0 (pa_cons (pv 1) (pa_cons (pv 2) (pa_cons (pv 4) pa_nil)))) (pa_cons (pe_callB (call_repr_any quiet hur) (by rfl) B.repr (by decide +kernel) (pa_cons (pv 4) pa_nil)) pa_nil))) (pg_tup rfl (pgs_cons (pg_name (i := 5) sc_law_right.nd rfl (by first | exact Or.inl rfl | exact Or.inr rfl)) (pgs_cons (pg_name (i := 6) sc_law_right.nd rfl (by first | exact Or.inl rfl | exact Or.inr rfl)) pgs_nil))))
  (pss_cons (ps_if (pt_cmpR op_ne (pe_callB (call_repr_any quiet hur) (by rfl) B.repr (by decide +kernel) (pa_cons (pe_lst (pa_cons (pe_call Ois_sure (hr.mono (by decide)) rfl mis_sure kis_sure bis_sure .nil pass0 (pa_cons (pv 3) (pa_cons (pv 4) pa_nil))) (pa_cons (pe_callKK Ois_sure (hr.mono (by decide)) (by rfl) mis_sure kis_sure kb_is_sure_walk_web pass0 (pk_cons (pe_callTy call_tuple_of (by rfl) B.tuple (by decide +kernel) (pa_cons (pv 4) pa_nil)) (pk_cons (pv 3) pk_nil))) pa_nil))) pa_nil)) (pe_callB (call_repr_any quiet hur) (by rfl) B.repr (by decide +kernel) (pa_cons (pe_lst (pa_cons (pv 5) (pa_cons (pv 5) pa_nil))) pa_nil)) (nomark _))
    (pss_one (ps_ret pe_bl)) pss_nil)
  (pss_cons (ps_set (i := 7) sc_law_right.nd rfl (by first | exact Or.inl rfl | exact Or.inr rfl) (pe_call Oroad_around (hr.mono (by decide)) rfl mroad_around kroad_around broad_around .nil pass0 (pa_cons (pv 3) (pa_cons (pv 4) pa_nil))))
  (pss_cons (ps_if (pt_cmpR op_ne (pe_cmpR op_isN (pv 7) pe_non (nomark _)) (pv 5) (nomark _))
    (pss_one (ps_ret pe_bl)) pss_nil)
  (pss_cons (ps_if (PW.pt (pw_and (pt_cmpR op_notN (pv 7) pe_non (nomark _)) (pw_and1 (PW.pt (pw_or (pt_not (pt_val (pe_call O_law_is_around (hr.mono (by decide)) rfl m_law_is_around k_law_is_around b_law_is_around .nil pass0 (pa_cons (pv 2) (pa_cons (pv 4) (pa_cons (pv 7) pa_nil)))))) (pw_or1 (pt_cmpR op_notBl (pe_call Ois_road_around (hr.mono (by decide)) rfl mis_road_around kis_road_around bis_road_around .nil pass0 (pa_cons (pv 3) (pa_cons (pv 4) (pa_cons (pv 7) pa_nil)))) pe_bl (nomark _))))))))
    (pss_one (ps_ret pe_bl)) pss_nil)
  (pss_cons (ps_setLc (i := 8) (own := [("_law_tie", 10)]) (g := gName 10) (by rfl) sc_law_right.nd rfl rfl (sw_true rfl rfl rfl (by decide +kernel)) (pi_list (pe_call O_law_out (hr.mono (by decide)) rfl m_law_out k_law_out b_law_out .nil pass0 (pa_cons (pv 2) (pa_cons (pe_ix ix_tup (pe_ix ix_list (pv 2) (pe_ix ix_list (pv 4) (pe_un un_neg pe_int) (fun _ _ => rfl)) (fun _ _ => rfl)) pe_int (fun _ _ => rfl)) (pa_cons (pe_lst pa_nil) pa_nil))))) (blkOk_by (own := [("_law_tie", 10)]) (N := ["_law_pot_here", "_law_places", "_law_ties_here", "_law_web", "_law_walk_here", "_law_due", "_law_shown", "_law_told", "_law_behind", "_law_ahead", "_law_tie", "_law_ends"]) (sc := defScope s_law_right) (by decide +kernel)) (fun _ _ _ _ _ => (pg_name (i := 10) sc_law_right.nd rfl (by first | exact Or.inl rfl | exact Or.inr rfl))) (fun _ _ _ _ _ => (pts_one (PW.pt (pw_and (pt_val (pv 5)) (pw_and1 (pt_val (pe_call O_law_is_sure (hr.mono (by decide)) rfl m_law_is_sure k_law_is_sure b_law_is_sure .nil pass0 (pa_cons (pv 1) (pa_cons (pv 2) (pa_cons (pe_op op_cat (pv 4) (pe_lst (pa_cons (pv 10) pa_nil))) pa_nil)))))))))) (fun _ _ _ _ _ => (pv 10)))
  (pss_cons (ps_setLc (i := 9) (own := [("_law_tie", 10), ("_law_ends", 11)]) (g := gTup K 2 (gCons (gName 10) (gCons (gName 11) gNil))) (by rfl) sc_law_right.nd rfl rfl (sw_true rfl rfl rfl (by decide +kernel)) (pi_enum (by rfl) B.enumerate (pa_cons (pv 2) pa_nil)) (blkOk_by (own := [("_law_tie", 10), ("_law_ends", 11)]) (N := ["_law_pot_here", "_law_places", "_law_ties_here", "_law_web", "_law_walk_here", "_law_due", "_law_shown", "_law_told", "_law_behind", "_law_ahead", "_law_tie", "_law_ends"]) (sc := defScope s_law_right) (by decide +kernel)) (fun _ _ _ _ _ => (pg_tup rfl (pgs_cons (pg_name (i := 10) sc_law_right.nd rfl (by first | exact Or.inl rfl | exact Or.inr rfl)) (pgs_cons (pg_name (i := 11) sc_law_right.nd rfl (by first | exact Or.inl rfl | exact Or.inr rfl)) pgs_nil)))) (fun _ _ _ _ _ => (pts_one (PW.pt (pw_and (pt_cmpR op_eq (pe_ix (ix_tupK (K := K) rfl) (pv 11) pe_int (by exact fun _ _ => rfl)) (pe_ix (ix_tupK (K := K) rfl) (pe_ix (ix_listK (K := K) rfl) (pv 2) (pe_ix (ix_listK (K := K) rfl) (pv 4) pe_int (by exact fun _ _ => rfl)) (by exact fun _ _ => rfl)) pe_int (by exact fun _ _ => rfl)) (nomark _)) (pw_and (pt_val (pv 5)) (pw_and1 (pt_val (pe_call O_law_is_sure (hr.mono (by decide)) rfl m_law_is_sure k_law_is_sure b_law_is_sure .nil pass0 (pa_cons (pv 1) (pa_cons (pv 2) (pa_cons (pe_op op_cat (pe_lst (pa_cons (pv 10) pa_nil)) (pv 4)) pa_nil))))))))))) (fun _ _ _ _ _ => (pv 10)))
  (pss_cons (ps_if (PW.pt (pw_or (pt_cmpR (op_neD hr.units) (pe_call Ogoes_on hr rfl mgoes_on kgoes_on bgoes_on .nil pass0 (pa_cons (pv 3) (pa_cons (pv 4) pa_nil))) (pv 8) (nomark _)) (pw_or1 (pt_cmpR (op_neD hr.units) (pe_call Ocomes_from hr rfl mcomes_from kcomes_from bcomes_from .nil pass0 (pa_cons (pv 3) (pa_cons (pv 4) pa_nil))) (pv 9) (nomark _)))))
    (pss_one (ps_ret pe_bl)) pss_nil)
  (pss_cons (ps_if (PW.pt (pw_or (pt_cmpR (op_neD hr.units) (pe_callKK Ogoes_on hr (by rfl) mgoes_on kgoes_on kb_goes_on_walk_web pass0 (pk_cons (pv 4) (pk_cons (pv 3) pk_nil))) (pv 8) (nomark _)) (pw_or1 (pt_cmpR (op_neD hr.units) (pe_callKK Ocomes_from hr (by rfl) mcomes_from kcomes_from kb_comes_from_walk_web pass0 (pk_cons (pv 4) (pk_cons (pv 3) pk_nil))) (pv 9) (nomark _)))))
    (pss_one (ps_ret pe_bl)) pss_nil)
  (pss_one (ps_ret (pe_and (pe_cmpR op_eq (pe_callB (call_repr_any quiet hur) (by rfl) B.repr (by decide +kernel) (pa_cons (pv 4) pa_nil)) (pv 6) (nomark _)) (pe_one (pe_cmpR (op_eqD hr.units) (pe_meth0 (pv 3) WK.cl tWeb_ties OWeb_ties (hr.mono (by decide)) bWeb_ties .nil pass0) (pv 2) (nomark _))))))))))))))))), ?_⟩
  refine ⟨_, rfl, a, rfl, hp, fun T l N ts H1 hk1 hp1 hT hTl ho hrg hm hN4 hla => ⟨T, _, rfl, SqT.of hT, rfl, _, _, rfl, _, _, rfl, rfl, ?_⟩⟩
  have hN := ho.n1
  refine ⟨_, rfl, _, rfl, fun x dx nx ndx ndxx => ?_⟩
  have hxa : x ≠ a := hp1.ne nx
  have hda : dx ≠ a := hp1.ne ndx
  have hS4 : Same H1 (upd (upd H1 dx (.own x)) x (.ins C dx [])) := fun b o e => by
    rw [upd_ne (ne_of_none e nx), upd_ne (ne_of_none e ndx)]
    exact e
  refine ⟨x, dx, N, l, ts, rfl, ho, hTl.s.same hS4, upd_same, fun H5 hk5 hw5 => ⟨rfl, ?_⟩⟩
  have hp4 := hp1.same hS4
  have hS25 : Same H1 H5 := fun b o e => hk5 _ _ (hS4 _ _ e) (ne_of_none e nx)
  have hp5 := hp1.same hS25
  have hSub : Same (Sub (upd (upd H1 dx (.own x)) x (.ins C dx [])) H5 x) (Off a H5) := fun b o e => by
    have h5 := Sub.same _ _ e
    refine Off.get h5 fun z => ?_
    subst z
    obtain ⟨u, v, e4, _⟩ := hp4
    obtain ⟨u5, v5, e5, _⟩ := hp5
    have h6 := hk5 _ _ e4 hxa.symm
    rw [Sub.none e4 hxa.symm h6] at e
    cases e
  have hwS : WebAt C x N ts (Off a H5) := hw5.same hSub
  have hT5 := hTl.same hS25
  have hTO : TiesAt (Off a H5) l ts := by
    obtain ⟨tas', h1, h2⟩ := hT5
    exact ⟨tas', Off.get h1 hla, paired_mono (fun p e hq => Off.get hq (hp5.ntup hq)) h2⟩
  clear hSub hw5 hk5 hS4
  refine ⟨_, rfl, _, rfl, a, l, N, ts, 6, rfl, hp5, hla, hT5, ho, hrg, by decide, by decide, fun f W H6 hW hWl hk6 hp6 nf hf6 => ?_⟩
  have hw6 : WebAt C x N ts H6 := (hwS.same (Off.kept hk6)).same Off.same
  have hT6 : TiesAt H6 l ts := (hTO.same (Off.kept hk6)).same Off.same
  clear hwS hTO hk6 hp6 hT5 hp5 hS25 hk1 hp1
  refine ⟨(by show 2 ≤ sizeLine; decide), fun tp ntp => ⟨tp, _, rfl, SqT.of upd_same, rfl, _, _, rfl, _, _, rfl, rfl, ?_⟩⟩
  have hn7 := same_new ntp (.tup [V.ref x, V.ref f])
  have hw7 := hw6.same hn7
  have hT7 := hT6.same hn7
  have hf7 := hn7 _ _ hf6
  generalize upd H6 tp (.tup [V.ref x, V.ref f]) = H7 at hw7 hT7 hf7
  clear hn7 ntp hw6 hT6 hf6 nf
  have hcl := ringed_closed ho.n0 hrg
  have hrc := closed_rch ho.n0 hcl
  have hW0 := hW.n0
  have hm0 : 0 < ts.length := by
    obtain ⟨y, hy⟩ : ∃ y, y ∈ W := ⟨W[0], List.getElem_mem _⟩
    have := hW.num y hy
    omega
  have hsure : ∀ V, Chain ts V → (¬ NotSure ts V N ↔ ¬ HasRoad ts V) := fun V hV => not_congr ⟨road_of_standings hm0 hV, standings_of_road ho hm0 hrc hV⟩
  refine ⟨_, rfl, _, rfl, _, rfl, l, f, N, ts, W, rfl, hT7, ho, hN4, hm, hf7, hW0, by omega, fun due H8 hS8 hdue => ?_⟩
  rw [hsure W hW] at hdue
  have hWb : ∀ y ∈ W, y < 128 := fun y hy => by have := hW.num y hy; omega
  obtain ⟨og, d, hod⟩ := odd_lst (K := K) (hS8 _ _ hf7) (iv_itm hWb) (by rw [List.length_map]; omega)
  refine ⟨_, rfl, .ref f, d, rfl, hod.shows, hod.fits.sh, hod.fits.nd, hod.fits.dep, hod.fits.len, (by show 2 ≤ sizeLine; decide), fun tp2 ntp2 => ⟨tp2, _, rfl, SqT.of upd_same, rfl, _, _, rfl, _, _, rfl, rfl, ?_⟩⟩
  have hn9 := same_new ntp2 (.tup [V.bl due, V.str d.shown])
  have hS9 := hS8.trans hn9
  have hod9 := hod.same hn9
  generalize upd H8 tp2 (.tup [V.bl due, V.str d.shown]) = H9 at hS9 hod9
  clear hn9 ntp2
  have hw9 := hw7.same hS9
  have hf9 := hS9 _ _ hf7
  have hT9 := hT7.same hS9
  clear hS8 hod
  refine ⟨_, rfl, _, rfl, x, N, ts, f, W, rfl, hw9, ho, hcl, .inl hf9, hW, by omega, fun b1 H10 hS10 hb1 => ?_⟩
  have e1 : b1 = due := by rw [Bool.eq_iff_iff, hb1, hdue]
  subst e1
  refine ⟨_, rfl, f, iv W, rfl, .inl ⟨SqL.of (hS10 _ _ hf9), fun t2 nt2 => ?_⟩⟩
  have hn11 := same_new nt2 (.tup (iv W))
  refine ⟨_, rfl, x, N, ts, t2, W, rfl, (hw9.same hS10).same hn11, ho, hcl, .inr upd_same, hW, by omega, fun b2 H11 hS11 hb2 => ⟨(by show 2 ≤ sizeLine; decide), fun lp nlp => ?_⟩⟩
  have e2 : b2 = b1 := by rw [Bool.eq_iff_iff, hb1, hb2]
  subst e2
  have hft := fits_two b2 b2
  have hS12 := ((hS10.trans hn11).trans hS11).trans (same_new nlp (.lst [V.bl b2, V.bl b2]))
  have hlp : upd H11 lp (.lst [V.bl b2, V.bl b2]) lp = some (.lst [V.bl b2, V.bl b2]) := upd_same
  generalize upd H11 lp (.lst [V.bl b2, V.bl b2]) = H12 at hS12 hlp
  clear hn11 hS11 hS10
  refine ⟨.ref lp, _, rfl, .inl (.lst (SqL.of hlp) (.cons (.bl _) (.cons (.bl _) .nil))), hft.sh, hft.nd, hft.dep, hft.len, ?_⟩
  refine ⟨_, rfl, _, rfl, (by show 2 ≤ sizeLine; decide), fun lq nlq => ?_⟩
  have hS13 := hS12.trans (same_new nlq (.lst [V.bl b2, V.bl b2]))
  refine ⟨.ref lq, _, rfl, .inl (.lst (SqL.of upd_same) (.cons (.bl _) (.cons (.bl _) .nil))), hft.sh, hft.nd, hft.dep, hft.len, rfl, _, rfl, iteNot' rfl ?_⟩
  generalize upd H12 lq (.lst [V.bl b2, V.bl b2]) = H13 at hS13
  clear hS12 hlp
  refine ⟨_, rfl, _, rfl, x, N, ts, f, W, rfl, hw9.same hS13, ho, hcl, .inl (hS13 _ _ hf9), hW, by omega, fun H14 hS14 hno => ?A, fun p i j r R H14 hS14 np hpp nr hr' hro hRl => ?B⟩
  case' A =>
    have hd : b2 = true := hdue.mpr hno
    refine ⟨_, rfl, rfl, _, rfl, rfl, _, rfl, iteNot' (by rw [hd]; rfl) ?_⟩
    refine ⟨_, rfl, rfl, _, rfl, iteF (iteF ?_)⟩
    have hSt := hS13.trans hS14
    clear hS13 hS14
  case' B =>
    have hd : b2 = false := by
      cases b2 with
      | false => rfl
      | true => exact absurd ⟨i, j, R, hro⟩ (hdue.mp rfl)
    have hSt := hS13.trans hS14
    refine ⟨_, rfl, rfl, _, rfl, rfl, _, rfl, iteNot' (by rw [hd]; rfl) ?_⟩
    refine ⟨_, rfl, rfl, _, rfl, iteT ?_⟩
    refine ⟨_, rfl, _, rfl, _, rfl, l, f, p, r, ts, W, i, j, R, rfl, hT9.same hSt, hSt _ _ hf9, hW, by omega, hpp, hr', hro, hRl, fun H15 hS15 => ⟨_, rfl, iteF ?_⟩⟩
    have hS90 := hSt.trans hS15
    refine ⟨_, rfl, _, rfl, _, rfl, x, N, ts, f, W, .ref p, some (some ((i : Nat) : Int), some ((j : Nat) : Int), some (nz R)), rfl, hw9.same hS90, ho, hcl, hS90 _ _ hf9, hW, by omega, Tri.tri (hS15 _ _ hpp) (.int _) (.int _) (SeqAt.val (.inl (hS15 _ _ hr'))), fun i' j' os e => by cases e; rw [len_nz]; omega, fun b3 H14 hb3 hS16 => ?_⟩
    have e3 : b3 = true := hb3.mpr ⟨i, j, R, rfl, hro⟩
    subst e3
    refine ⟨true, true, rfl, rfl, _, rfl, iteF ?_⟩
    replace hSt := hS90.trans hS16
    clear hS90 hS16 hS15 hS14 hpp hr' hro hRl np nr hb3
  all_goals
    have hw14 := hw9.same hSt
    have hf14 := hSt _ _ hf9
    have hT14 := hT9.same hSt
    obtain ⟨xl, el, hxl, hel⟩ := hW.last
    obtain ⟨xf, ef, hxf, hef⟩ := ends_get hW.num (i := 0) (by omega)
    obtain ⟨zs, p1, k1, k2, k3⟩ := hT14.at_ hel
    have hel2 := ho.ok _ (List.mem_of_getElem? hel)
    have hLn : (iv W).length = W.length := List.length_map ..
    have hfl : ∀ y ∈ frm ts el.2, ∃ g, ts[y]? = some g ∧ g.1 = el.2 := fun y hy => by
      obtain ⟨v, hv⟩ := frm_mem.mp hy
      exact ⟨_, hv, rfl⟩
    have hflen : (frm ts el.2).length ≤ 10 := Nat.le_trans (frmN_len ts el.2 _) hm
    refine ⟨_, rfl, _, rfl, _, rfl, _, rfl, _, _, _, .int (xl : Int), rfl, rfl, SqL.of hf14, iv_back hxl, _, _, _, .ref p1, rfl, rfl, SqL.of k1, k2, _, _, _, .int (el.2 : Int), rfl, rfl, SqT.of k3, rfl, Nat.zero_le _, fun e0 ne0 => ?_⟩
    refine ⟨l, el.2, e0, ts, [], rfl, hT14.same (same_new ne0 _), by omega, upd_same, fun o H15 hS15 no ho15 => ⟨o, rfl, ⟨_, SqL.of ho15⟩, fun D nD => ?_⟩⟩
    rw [show ((frm ts el.2).filter fun x => decide (x ∉ ([] : List Nat))) = frm ts el.2 from List.filter_eq_self.mpr fun x _ => by simp] at ho15
    replace hS15 := hSt.trans ((same_new ne0 (.lst [])).trans hS15)
    clear ne0 no k1 k2 k3
    refine lc_list (K := K) (a := o) (xs := iv (frm ts el.2)) (fun i H' => Same H15 H' ∧ H' D = some (.lst (iv (((frm ts el.2).take i).filter fun t => isB (¬ HasRoad ts W ∧ ¬ HasRoad ts (W ++ [t])))))) ⟨same_new nD _, upd_same⟩ (fun i H' _ ⟨hS', _⟩ => SqL.of (hS' _ _ ho15)) ?_ ?_
    · rintro i y H16 hy ⟨hS16, hD16⟩
      obtain ⟨t, hti, rfl⟩ : ∃ t, (frm ts el.2)[i]? = some t ∧ y = V.int (t : Int) := by
        rw [iv, List.getElem?_map] at hy
        cases h : (frm ts el.2)[i]? with
        | none => rw [h] at hy; cases hy
        | some o => rw [h] at hy; exact ⟨o, rfl, (Option.some.inj hy).symm⟩
      obtain ⟨g, hg1, hg2⟩ := hfl t (List.mem_of_getElem? hti)
      have hch := chain_snoc hW hxl hel hg1 hg2
      have hil := (List.getElem?_eq_some_iff.mp hti).1
      have hacc : (iv (((frm ts el.2).take i).filter fun t => isB (¬ HasRoad ts W ∧ ¬ HasRoad ts (W ++ [t])))).length < sizeLine := by
        rw [List.length_map]
        refine Nat.lt_of_le_of_lt (List.length_filter_le ..) ?_
        rw [List.length_take]
        exact sml1000 (by omega)
      cases hdu : b2 with
      | false =>
        have hro' : HasRoad ts W := Classical.byContradiction fun z => by rw [hdue.mpr z] at hdu; cases hdu
        refine ⟨rfl, _, rfl, _, rfl, iteF (iteF ⟨hS16, ?_⟩)⟩
        rw [take_filter hti, if_neg (fun z => (isB_iff.mp z).1 hro'), List.append_nil]
        exact hD16
      | true =>
        have hno' := hdue.mp hdu
        have hT16 := hT9.same (hS15.trans hS16)
        have hf16 := (hS15.trans hS16) _ _ hf9
        refine ⟨rfl, _, rfl, _, rfl, iteT ⟨_, rfl, _, rfl, _, rfl, _, rfl, (by show 1 ≤ sizeLine; decide), fun q1 nq1 => ⟨f, q1, _, _, rfl, rfl, same_new nq1 _ _ _ hf16, upd_same, ?_, fun lw nlw => ?_⟩⟩⟩
        · rw [hLn]
          exact Nat.le_of_lt (sml1000 (by show W.length + 1 ≤ 1000; omega))
        have hn17 := (same_new nq1 (.lst [V.int (t : Int)])).trans (same_new nlw (.lst (iv W ++ [V.int (t : Int)])))
        refine ⟨l, lw, N, ts, W ++ [t], rfl, hT16.same hn17, ho, hN4, hm, by rw [upd_same, iv_app], by rw [List.length_append]; omega, by rw [List.length_append]; show W.length + 1 ≤ 8; omega, fun b3 H17 hS17 hb3 => ⟨_, rfl, ?_⟩⟩
        rw [hsure _ hch] at hb3
        have hD17 := hS17 _ _ (hn17 _ _ hD16)
        replace hS17 := hS16.trans (hn17.trans hS17)
        cases b3 with
        | true =>
          refine iteT ⟨_, rfl, _, hD17, hacc, same_upd hS17 nD, ?_⟩
          rw [upd_same, take_filter hti, if_pos (isB_iff.mpr ⟨hno', hb3.mp rfl⟩), ← iv_app]
        | false =>
          refine iteF ⟨hS17, ?_⟩
          rw [take_filter hti, if_neg (fun z => by have := hb3.mpr (isB_iff.mp z).2; cases this), List.append_nil]
          exact hD17
    rintro H16 ⟨hS16, hb16⟩
    rw [show (iv (frm ts el.2)).length = (frm ts el.2).length from List.length_map .., List.take_length] at hb16
    replace hS16 := hS15.trans hS16
    clear hS15 ho15
    obtain ⟨tas, ht16, hP⟩ := id (hT9.same hS16)
    have htl16 := paired_len hP
    have hf16 := hS16 _ _ hf9
    refine ⟨_, rfl, l, _, rfl, SqL.of ht16, fun D2 nD2 => ?_⟩
    refine lc_it (walk_enum (K := K) (a := l) (xs := tas.map V.ref)) (fun i H' => Same H16 H' ∧ H' D2 = some (.lst (iv ((frmN (ts.map Prod.swap) ef.1 i).filter fun t => isB (¬ HasRoad ts W ∧ ¬ HasRoad ts (t :: W)))))) ⟨same_new nD2 _, upd_same⟩ (fun i H' _ ⟨hS', _⟩ => SqL.of (hS' _ _ ht16)) ?_ ?_
    · rintro i y H17 H18 hi ⟨hS17, hD17⟩ ⟨T0, x1, x2, rfl, nT0, rfl, e1, e2⟩
      cases e1
      rw [List.length_map] at hi
      replace e2 : (tas.map V.ref)[i]? = some x2 := e2
      rw [List.getElem?_map, List.getElem?_eq_getElem hi] at e2
      cases e2
      obtain ⟨⟨u, v⟩, he', hpe⟩ := paired_get hP (List.getElem?_eq_getElem hi)
      have hil := (List.getElem?_eq_some_iff.mp he').1
      have hsw : (ts.map Prod.swap)[i]? = some (v, u) := by rw [List.getElem?_map, he']; rfl
      have hS18 := hS17.trans (same_new nT0 (.tup [.int (i : Int), .ref tas[i]]))
      have hD18 := same_new nT0 (.tup [.int (i : Int), .ref tas[i]]) _ _ hD17
      have hT18 : upd H17 T0 (.tup [.int (i : Int), .ref tas[i]]) T0 = some (.tup [.int (i : Int), .ref tas[i]]) := upd_same
      generalize upd H17 T0 (.tup [.int (i : Int), .ref tas[i]]) = H18 at hS18 hT18 hD18
      have hp18 : H18 tas[i] = some (.tup [.int (u : Int), .int (v : Int)]) := hS18 _ _ hpe
      have hTi := hT9.same (hS16.trans hS18)
      have hfi := hS18 _ _ hf16
      obtain ⟨zs, p1, k1, k2, k3⟩ := hTi.at_ hef
      have hacc : (iv ((frmN (ts.map Prod.swap) ef.1 i).filter fun t => isB (¬ HasRoad ts W ∧ ¬ HasRoad ts (t :: W)))).length < sizeLine := by
        rw [List.length_map]
        refine Nat.lt_of_le_of_lt (List.length_filter_le ..) ?_
        have := frmN_len (ts.map Prod.swap) ef.1 i
        exact sml1000 (by omega)
      refine ⟨T0, _, rfl, SqT.of hT18, rfl, _, _, rfl, _, _, rfl, rfl, rfl, ?_⟩
      refine ⟨_, rfl, _, _, _, .int (v : Int), rfl, rfl, SqT.of hp18, rfl, _, rfl, _, rfl, _, _, _, .int (xf : Int), rfl, rfl, SqL.of hfi, iv_at (j := 0) hxf, _, _, _, .ref p1, rfl, rfl, SqL.of k1, k2, _, _, _, .int (ef.1 : Int), rfl, rfl, SqT.of k3, rfl, rfl, _, rfl, ?_⟩
      by_cases c : v = ef.1
      · have e3 : frmN (ts.map Prod.swap) ef.1 (i + 1) = frmN (ts.map Prod.swap) ef.1 i ++ [i] := if_pos (by rw [hsw, c]; rfl)
        have hch := chain_cons hW hxf hef he' c.symm
        refine iteYes (by rw [c]) ?_
        rw [e3, List.filter_append, List.filter_cons, List.filter_nil]
        cases hdu : b2 with
        | false =>
          have hro' : HasRoad ts W := Classical.byContradiction fun z => by rw [hdue.mpr z] at hdu; cases hdu
          refine ⟨_, rfl, _, rfl, iteF (iteF ⟨hS18, ?_⟩)⟩
          rw [if_neg (fun z => (isB_iff.mp z).1 hro'), List.append_nil]
          exact hD18
        | true =>
          have hno' := hdue.mp hdu
          refine ⟨_, rfl, _, rfl, iteT ⟨_, rfl, _, rfl, _, rfl, (by show 1 ≤ sizeLine; decide), fun q1 nq1 => ⟨_, rfl, q1, f, _, _, rfl, rfl, upd_same, same_new nq1 _ _ _ hfi, ?_, fun lw nlw => ?_⟩⟩⟩
          · rw [hLn]
            exact Nat.le_of_lt (sml1000 (by show 1 + W.length ≤ 1000; omega))
          have hn19 := (same_new nq1 (.lst [V.int (i : Int)])).trans (same_new nlw (.lst ([V.int (i : Int)] ++ iv W)))
          refine ⟨l, lw, N, ts, i :: W, rfl, hTi.same hn19, ho, hN4, hm, upd_same, by rw [List.length_cons]; omega, by rw [List.length_cons]; omega, fun b3 H19 hS19 hb3 => ⟨_, rfl, ?_⟩⟩
          rw [hsure _ hch] at hb3
          have hD19 := hS19 _ _ (hn19 _ _ hD18)
          replace hS19 := hS18.trans (hn19.trans hS19)
          cases b3 with
          | true =>
            refine iteT ⟨_, rfl, _, hD19, hacc, same_upd hS19 nD2, ?_⟩
            rw [upd_same, if_pos (isB_iff.mpr ⟨hno', hb3.mp rfl⟩), ← iv_app]
          | false =>
            refine iteF ⟨hS19, ?_⟩
            rw [if_neg (fun z => by have := hb3.mpr (isB_iff.mp z).2; cases this), List.append_nil]
            exact hD19
      · have e3 : frmN (ts.map Prod.swap) ef.1 (i + 1) = frmN (ts.map Prod.swap) ef.1 i := if_neg (by rw [hsw]; exact fun z => c (Option.some.inj z))
        refine iteNo (fun z => c (by have := int_eq.mp z; omega)) (iteF ⟨hS18, ?_⟩)
        rw [e3]
        exact hD18
    rintro H17 ⟨hS17, ha17⟩
    rw [List.length_map, htl16] at ha17
    have hb17 := hS17 _ _ hb16
    have hfr : frmN (ts.map Prod.swap) ef.1 ts.length = frm (ts.map Prod.swap) ef.1 := by unfold frm; rw [List.length_map]
    rw [hfr] at ha17
    replace hS17 := hS16.trans hS17
    clear hb16 hS16 ht16 hP hf16 hSt hw14 hf14 hT14
    refine ⟨_, rfl, _, rfl, x, N, ts, f, W, xl, el, rfl, hw9.same hS17, ho, hcl, hS17 _ _ hf9, hW, by omega, hxl, hel, fun p1 H18 hS18 np1 hp1 => ⟨_, rfl, _, _, dp_iv hp1, dp_iv (hS18 _ _ hb17), shaped_iz _, shaped_iz _, _, rfl, ?_⟩⟩
    rw [eqv_ivs]
    refine iteNot' rfl ?_
    have hS018 := hS17.trans hS18
    refine ⟨_, rfl, _, rfl, x, N, ts, f, W, xf, ef, rfl, hw9.same hS018, ho, hcl, hS018 _ _ hf9, hW, by omega, hxf, hef, fun p2 H19 hS19 np2 hp2 => ⟨_, rfl, _, _, dp_iv hp2, dp_iv (hS19 _ _ (hS18 _ _ ha17)), shaped_iz _, shaped_iz _, _, rfl, ?_⟩⟩
    rw [eqv_ivs]
    refine iteNot' rfl ?_
    have hS019 := hS018.trans hS19
    have hS1719 := hS18.trans hS19
    refine ⟨_, rfl, _, rfl, x, N, ts, f, W, xl, el, rfl, hw9.same hS019, ho, hcl, hS019 _ _ hf9, hW, by omega, hxl, hel, fun p3 H20 hS20 np3 hp3 => ⟨_, rfl, _, _, dp_iv hp3, dp_iv (hS20 _ _ (hS1719 _ _ hb17)), shaped_iz _, shaped_iz _, _, rfl, ?_⟩⟩
    rw [eqv_ivs]
    refine iteNot' rfl ?_
    have hS020 := hS019.trans hS20
    have hS1720 := hS1719.trans hS20
    refine ⟨_, rfl, _, rfl, x, N, ts, f, W, xf, ef, rfl, hw9.same hS020, ho, hcl, hS020 _ _ hf9, hW, by omega, hxf, hef, fun p4 H21 hS21 np4 hp4 => ⟨_, rfl, _, _, dp_iv hp4, dp_iv (hS21 _ _ (hS1720 _ _ ha17)), shaped_iz _, shaped_iz _, _, rfl, ?_⟩⟩
    rw [eqv_ivs]
    refine iteNot' rfl ?_
    have hS021 := hS020.trans hS21
    have hod21 := hod9.same hS021
    have hw21 := hw9.same hS021
    refine ⟨_, rfl, .ref f, d, rfl, hod21.shows, hod21.fits.sh, hod21.fits.nd, hod21.fits.dep, hod21.fits.len, _, rfl, rfl, _, rfl, iteYes rfl ?_⟩
    obtain ⟨dx2, tl2, fl2, ol2, g1, _⟩ := id hw21
    refine ⟨_, rfl, x, dx2, _, rfl, g1, (by rfl), x, N, ts, rfl, hw21, fun H22 l2 nl2 hS22 hTl2 => ⟨_, rfl, _, _, dp_tz hTl2, dp_tz (hT9.same (hS021.trans hS22)), shaped_tz _, shaped_tz _, ?_⟩⟩
    rw [SeqAt.eqv_refl _ (SeqAt.canLay_of_shaped (shaped_tz ts))]
    exact q H22
def splaw (K : PySem.W.Frag) (_ : Addr) : Sp := fun vs H Q _ => ∃ a, ∃ ns : List Int, vs = [.ref a] ∧ SqL K H a (ns.map V.int) ∧ ns.length ≤ 63 ∧ ∀ H', Q (.bl true) H'
theorem oklaw (D : Def K mg "law" slaw ["_law_script"]) (B : Bs mg) (Glb : Glo mg) (WK : WebK K mg C)
    (h_law_right : GoodG P w K mg base "_law_right" s_law_right ["_law_pot_here"] 12 (sp_law_right K C))
    (h_law_pot : Good P w K mg base "_law_pot" s_law_pot ["_law_script", "_law_k"] 1 (sp_law_pot K C)) :
    GoodG P w K mg base "law" slaw ["_law_script"] 13 (splaw K C) := by
  refine D.goodG fun f fd F => ?_
  obtain ⟨f_law_right, d_law_right, O_law_right, m_law_right, k_law_right, b_law_right, F_law_right⟩ := h_law_right
  obtain ⟨f_law_pot, d_law_pot, O_law_pot, m_law_pot, k_law_pot, b_law_pot, F_law_pot⟩ := h_law_pot
  refine FnG.ofBody F sclaw (fun vs H Q E h => ?_) (fun cdv A outer s H vs Q E hr quiet h => ?_)
  · obtain ⟨sa, ns, rfl, hs, h63, q⟩ := h
    first | rfl | (rcases h with ⟨_, _, rfl, _⟩ | ⟨_, rfl, _⟩ <;> rfl)
  obtain ⟨sa, ns, rfl, hs, h63, q⟩ := h
  have hur := hu70 hr
  refine ⟨_, (pss_one (ps_ret (pe_callG O_law_right hr quiet rfl m_law_right k_law_right b_law_right (pa_cons (pe_call O_law_pot (hr.mono (by decide)) rfl m_law_pot k_law_pot b_law_pot .nil pass0 (pa_cons (pv 0) (pa_cons pe_int pa_nil))) pa_nil)))), ?_⟩
  exact ⟨_, rfl, sa, ns, rfl, hs, fun a H1 hp1 hS1 na => ⟨a, rfl, hp1, q⟩⟩
end
end My
namespace My
open PySem L2 PyProof.Rows
/-! ### the end -/
theorem kit_no {K : PySem.W.Frag} {C : Addr} (h1 : PySem.W.isClsIn K C = true) (h2 : PySem.W.typeIn K (.ref C) = some (.type "type")) (h3 : PySem.W.subIn K (.type "dict") (.ref C) = some false) : PySem.W.kitOne K (.type "dict") (.ref C) = some false := by
  unfold PySem.W.kitOne
  rw [if_neg (by simp)]
  show (if ((PySem.W.clsIn K C).isSome && PySem.W.typeIn K (.ref C) == some (.type "type")) = true then PySem.W.subIn K (.type "dict") (.ref C) else none) = some false
  have h1' : (PySem.W.clsIn K C).isSome = true := h1
  rw [h1', h2, if_pos (by simp)]
  exact h3
theorem fd_is {K : PySem.W.Frag} {x : Str} {st : Stmt} {f : Addr} {fd fe : FuncData} {oc : Value} {od : Option Addr} {sl : Array (Option Value)} (F : Fun K x x st f fd) (l : K.lookup f = some ⟨oc, od, .func fe, sl⟩) : fd = fe := by
  obtain ⟨oc2, od2, kV, doc, pm, an, cdv, ct, osl, e, lk, c⟩ := F.ex
  rw [lk] at l
  have := Option.some.inj l
  injection this with _ _ h3 _
  injection h3
set_option maxHeartbeats 4000000 in
theorem all_mk {l : PySem.W.OpenLaw} {w : World} {K : PySem.W.Frag} {h : Heap} {mg : Str → Option Value} {fa C : Addr} (X : K.In h) (G : h.Ns mainGlobals mg) (hfa : mg "law" = some (.ref fa))
    {fM0 : Addr} {odM0 anM0 : Option Addr} {slM0 : Array (Option Value)} {ocM0 kVM0 dcM0 pmM0 cdM0 ctM0 : Value} {fM1 : Addr} {odM1 anM1 : Option Addr} {slM1 : Array (Option Value)} {ocM1 kVM1 dcM1 pmM1 cdM1 ctM1 : Value} {pM1 : Addr} {rsM1 : List Value} {fM2 : Addr} {odM2 anM2 : Option Addr} {slM2 : Array (Option Value)} {ocM2 kVM2 dcM2 pmM2 cdM2 ctM2 : Value} {pM2 : Addr} {rsM2 : List Value} {fM3 : Addr} {odM3 anM3 : Option Addr} {slM3 : Array (Option Value)} {ocM3 kVM3 dcM3 pmM3 cdM3 ctM3 : Value} {fM4 : Addr} {odM4 anM4 : Option Addr} {slM4 : Array (Option Value)} {ocM4 kVM4 dcM4 pmM4 cdM4 ctM4 : Value} {fM5 : Addr} {odM5 anM5 : Option Addr} {slM5 : Array (Option Value)} {ocM5 kVM5 dcM5 pmM5 cdM5 ctM5 : Value} {f0 : Addr} {od0 an0 : Option Addr} {sl0 : Array (Option Value)} {oc0 kV0 dc0 pm0 cd0 ct0 : Value} {f1 : Addr} {od1 an1 : Option Addr} {sl1 : Array (Option Value)} {oc1 kV1 dc1 pm1 cd1 ct1 : Value} {f2 : Addr} {od2 an2 : Option Addr} {sl2 : Array (Option Value)} {oc2 kV2 dc2 pm2 cd2 ct2 : Value} {f3 : Addr} {od3 an3 : Option Addr} {sl3 : Array (Option Value)} {oc3 kV3 dc3 pm3 cd3 ct3 : Value} {f4 : Addr} {od4 an4 : Option Addr} {sl4 : Array (Option Value)} {oc4 kV4 dc4 pm4 cd4 ct4 : Value} {f5 : Addr} {od5 an5 : Option Addr} {sl5 : Array (Option Value)} {oc5 kV5 dc5 pm5 cd5 ct5 : Value} {f6 : Addr} {od6 an6 : Option Addr} {sl6 : Array (Option Value)} {oc6 kV6 dc6 pm6 cd6 ct6 : Value} {f7 : Addr} {od7 an7 : Option Addr} {sl7 : Array (Option Value)} {oc7 kV7 dc7 pm7 cd7 ct7 : Value} {f8 : Addr} {od8 an8 : Option Addr} {sl8 : Array (Option Value)} {oc8 kV8 dc8 pm8 cd8 ct8 : Value} {f9 : Addr} {od9 an9 : Option Addr} {sl9 : Array (Option Value)} {oc9 kV9 dc9 pm9 cd9 ct9 : Value} {f10 : Addr} {od10 an10 : Option Addr} {sl10 : Array (Option Value)} {oc10 kV10 dc10 pm10 cd10 ct10 : Value} {f11 : Addr} {od11 an11 : Option Addr} {sl11 : Array (Option Value)} {oc11 kV11 dc11 pm11 cd11 ct11 : Value} {f12 : Addr} {od12 an12 : Option Addr} {sl12 : Array (Option Value)} {oc12 kV12 dc12 pm12 cd12 ct12 : Value} {f13 : Addr} {od13 an13 : Option Addr} {sl13 : Array (Option Value)} {oc13 kV13 dc13 pm13 cd13 ct13 : Value} {f14 : Addr} {od14 an14 : Option Addr} {sl14 : Array (Option Value)} {oc14 kV14 dc14 pm14 cd14 ct14 : Value} {f15 : Addr} {od15 an15 : Option Addr} {sl15 : Array (Option Value)} {oc15 kV15 dc15 pm15 cd15 ct15 : Value} {f16 : Addr} {od16 an16 : Option Addr} {sl16 : Array (Option Value)} {oc16 kV16 dc16 pm16 cd16 ct16 : Value} {f17 : Addr} {od17 an17 : Option Addr} {sl17 : Array (Option Value)} {oc17 kV17 dc17 pm17 cd17 ct17 : Value} {f18 : Addr} {od18 an18 : Option Addr} {sl18 : Array (Option Value)} {oc18 kV18 dc18 pm18 cd18 ct18 : Value} {f19 : Addr} {od19 an19 : Option Addr} {sl19 : Array (Option Value)} {oc19 kV19 dc19 pm19 cd19 ct19 : Value} {f20 : Addr} {od20 an20 : Option Addr} {sl20 : Array (Option Value)} {oc20 kV20 dc20 pm20 cd20 ct20 : Value} {f21 : Addr} {od21 an21 : Option Addr} {sl21 : Array (Option Value)} {oc21 kV21 dc21 pm21 cd21 ct21 : Value} {f22 : Addr} {od22 an22 : Option Addr} {sl22 : Array (Option Value)} {oc22 kV22 dc22 pm22 cd22 ct22 : Value} {f23 : Addr} {od23 an23 : Option Addr} {sl23 : Array (Option Value)} {oc23 kV23 dc23 pm23 cd23 ct23 : Value} {f24 : Addr} {od24 an24 : Option Addr} {sl24 : Array (Option Value)} {oc24 kV24 dc24 pm24 cd24 ct24 : Value} {f25 : Addr} {od25 an25 : Option Addr} {sl25 : Array (Option Value)} {oc25 kV25 dc25 pm25 cd25 ct25 : Value} {f26 : Addr} {od26 an26 : Option Addr} {sl26 : Array (Option Value)} {oc26 kV26 dc26 pm26 cd26 ct26 : Value} {f27 : Addr} {od27 an27 : Option Addr} {sl27 : Array (Option Value)} {oc27 kV27 dc27 pm27 cd27 ct27 : Value} {f28 : Addr} {od28 an28 : Option Addr} {sl28 : Array (Option Value)} {oc28 kV28 dc28 pm28 cd28 ct28 : Value} {f29 : Addr} {od29 an29 : Option Addr} {sl29 : Array (Option Value)} {oc29 kV29 dc29 pm29 cd29 ct29 : Value} {f30 : Addr} {od30 an30 : Option Addr} {sl30 : Array (Option Value)} {oc30 kV30 dc30 pm30 cd30 ct30 : Value} {f31 : Addr} {od31 an31 : Option Addr} {sl31 : Array (Option Value)} {oc31 kV31 dc31 pm31 cd31 ct31 : Value} {f32 : Addr} {od32 an32 : Option Addr} {sl32 : Array (Option Value)} {oc32 kV32 dc32 pm32 cd32 ct32 : Value} {f33 : Addr} {od33 an33 : Option Addr} {sl33 : Array (Option Value)} {oc33 kV33 dc33 pm33 cd33 ct33 : Value} {f34 : Addr} {od34 an34 : Option Addr} {sl34 : Array (Option Value)} {oc34 kV34 dc34 pm34 cd34 ct34 : Value} {f35 : Addr} {od35 an35 : Option Addr} {sl35 : Array (Option Value)} {oc35 kV35 dc35 pm35 cd35 ct35 : Value} {f36 : Addr} {od36 an36 : Option Addr} {sl36 : Array (Option Value)} {oc36 kV36 dc36 pm36 cd36 ct36 : Value} {f37 : Addr} {od37 an37 : Option Addr} {sl37 : Array (Option Value)} {oc37 kV37 dc37 pm37 cd37 ct37 : Value} {f38 : Addr} {od38 an38 : Option Addr} {sl38 : Array (Option Value)} {oc38 kV38 dc38 pm38 cd38 ct38 : Value} {f39 : Addr} {od39 an39 : Option Addr} {sl39 : Array (Option Value)} {oc39 kV39 dc39 pm39 cd39 ct39 : Value} {f40 : Addr} {od40 an40 : Option Addr} {sl40 : Array (Option Value)} {oc40 kV40 dc40 pm40 cd40 ct40 : Value} {f41 : Addr} {od41 an41 : Option Addr} {sl41 : Array (Option Value)} {oc41 kV41 dc41 pm41 cd41 ct41 : Value} {f42 : Addr} {od42 an42 : Option Addr} {sl42 : Array (Option Value)} {oc42 kV42 dc42 pm42 cd42 ct42 : Value} {t0 : Tok} {t1 : Tok} {t2 : Tok}
    (aC : PySem.W.nsIn K mainGlobals "Web" = some (some (.ref C)))
    (aM0 : PySem.W.findIn K (.ref C) "__init__" = some (some (.ref fM0))) (iM0 : PySem.W.isFn K (.ref fM0) = true) (lM0 : K.lookup fM0 = some ⟨ocM0, odM0, .func (PySem.W.fnOf "__init__" "Web.__init__" (defArgs sWeb___init__) (defBody sWeb___init__) (defScope sWeb___init__) .none kVM0 dcM0 pmM0 anM0 cdM0 ctM0), slM0⟩) (cM0 : PySem.W.codeIn K cdM0 "Web.__init__" = true) (kM0 : PySem.W.keepIn K (.ref fM0) = true)
    (aM1 : PySem.W.findIn K (.ref C) "places" = some (some (.ref pM1))) (gM1 : PySem.W.specialIn K (.ref pM1) "__get__" = some (some (.builtin "property.__get__"))) (tM1 : PySem.W.takesIn K (.ref pM1) = some true) (rM1 : PySem.W.recIn K pM1 "property" = some (.ref fM1 :: rsM1)) (lM1 : K.lookup fM1 = some ⟨ocM1, odM1, .func (PySem.W.fnOf "places" "Web.places" (defArgs sWeb_places) (defBody sWeb_places) (defScope sWeb_places) .none kVM1 dcM1 pmM1 anM1 cdM1 ctM1), slM1⟩) (cM1 : PySem.W.codeIn K cdM1 "Web.places" = true) (kM1 : PySem.W.keepIn K (.ref fM1) = true)
    (aM2 : PySem.W.findIn K (.ref C) "many" = some (some (.ref pM2))) (gM2 : PySem.W.specialIn K (.ref pM2) "__get__" = some (some (.builtin "property.__get__"))) (tM2 : PySem.W.takesIn K (.ref pM2) = some true) (rM2 : PySem.W.recIn K pM2 "property" = some (.ref fM2 :: rsM2)) (lM2 : K.lookup fM2 = some ⟨ocM2, odM2, .func (PySem.W.fnOf "many" "Web.many" (defArgs sWeb_many) (defBody sWeb_many) (defScope sWeb_many) .none kVM2 dcM2 pmM2 anM2 cdM2 ctM2), slM2⟩) (cM2 : PySem.W.codeIn K cdM2 "Web.many" = true) (kM2 : PySem.W.keepIn K (.ref fM2) = true)
    (aM3 : PySem.W.findIn K (.ref C) "ties" = some (some (.ref fM3))) (iM3 : PySem.W.isFn K (.ref fM3) = true) (lM3 : K.lookup fM3 = some ⟨ocM3, odM3, .func (PySem.W.fnOf "ties" "Web.ties" (defArgs sWeb_ties) (defBody sWeb_ties) (defScope sWeb_ties) .none kVM3 dcM3 pmM3 anM3 cdM3 ctM3), slM3⟩) (cM3 : PySem.W.codeIn K cdM3 "Web.ties" = true) (kM3 : PySem.W.keepIn K (.ref fM3) = true)
    (aM4 : PySem.W.findIn K (.ref C) "ties_from" = some (some (.ref fM4))) (iM4 : PySem.W.isFn K (.ref fM4) = true) (lM4 : K.lookup fM4 = some ⟨ocM4, odM4, .func (PySem.W.fnOf "ties_from" "Web.ties_from" (defArgs sWeb_ties_from) (defBody sWeb_ties_from) (defScope sWeb_ties_from) .none kVM4 dcM4 pmM4 anM4 cdM4 ctM4), slM4⟩) (cM4 : PySem.W.codeIn K cdM4 "Web.ties_from" = true) (kM4 : PySem.W.keepIn K (.ref fM4) = true)
    (aM5 : PySem.W.findIn K (.ref C) "ties_to" = some (some (.ref fM5))) (iM5 : PySem.W.isFn K (.ref fM5) = true) (lM5 : K.lookup fM5 = some ⟨ocM5, odM5, .func (PySem.W.fnOf "ties_to" "Web.ties_to" (defArgs sWeb_ties_to) (defBody sWeb_ties_to) (defScope sWeb_ties_to) .none kVM5 dcM5 pmM5 anM5 cdM5 ctM5), slM5⟩) (cM5 : PySem.W.codeIn K cdM5 "Web.ties_to" = true) (kM5 : PySem.W.keepIn K (.ref fM5) = true)
    (a0 : PySem.W.nsIn K mainGlobals "is_integer" = some (some (.ref f0))) (l0 : K.lookup f0 = some ⟨oc0, od0, .func (PySem.W.fnOf "is_integer" "is_integer" (defArgs sis_integer) (defBody sis_integer) (defScope sis_integer) .none kV0 dc0 pm0 an0 cd0 ct0), sl0⟩) (c0 : PySem.W.codeIn K cd0 "is_integer" = true) (k0 : PySem.W.keepIn K (.ref f0) = true)
    (a1 : PySem.W.nsIn K mainGlobals "is_count" = some (some (.ref f1))) (l1 : K.lookup f1 = some ⟨oc1, od1, .func (PySem.W.fnOf "is_count" "is_count" (defArgs sis_count) (defBody sis_count) (defScope sis_count) .none kV1 dc1 pm1 an1 cd1 ct1), sl1⟩) (c1 : PySem.W.codeIn K cd1 "is_count" = true) (k1 : PySem.W.keepIn K (.ref f1) = true)
    (a2 : PySem.W.nsIn K mainGlobals "is_between" = some (some (.ref f2))) (l2 : K.lookup f2 = some ⟨oc2, od2, .func (PySem.W.fnOf "is_between" "is_between" (defArgs sis_between) (defBody sis_between) (defScope sis_between) .none kV2 dc2 pm2 an2 cd2 ct2), sl2⟩) (c2 : PySem.W.codeIn K cd2 "is_between" = true) (k2 : PySem.W.keepIn K (.ref f2) = true)
    (a3 : PySem.W.nsIn K mainGlobals "is_below" = some (some (.ref f3))) (l3 : K.lookup f3 = some ⟨oc3, od3, .func (PySem.W.fnOf "is_below" "is_below" (defArgs sis_below) (defBody sis_below) (defScope sis_below) .none kV3 dc3 pm3 an3 cd3 ct3), sl3⟩) (c3 : PySem.W.codeIn K cd3 "is_below" = true) (k3 : PySem.W.keepIn K (.ref f3) = true)
    (a4 : PySem.W.nsIn K mainGlobals "is_listed" = some (some (.ref f4))) (l4 : K.lookup f4 = some ⟨oc4, od4, .func (PySem.W.fnOf "is_listed" "is_listed" (defArgs sis_listed) (defBody sis_listed) (defScope sis_listed) .none kV4 dc4 pm4 an4 cd4 ct4), sl4⟩) (c4 : PySem.W.codeIn K cd4 "is_listed" = true) (k4 : PySem.W.keepIn K (.ref f4) = true)
    (a5 : PySem.W.nsIn K mainGlobals "parts_in_turn" = some (some (.ref f5))) (l5 : K.lookup f5 = some ⟨oc5, od5, .func (PySem.W.fnOf "parts_in_turn" "parts_in_turn" (defArgs sparts_in_turn) (defBody sparts_in_turn) (defScope sparts_in_turn) .none kV5 dc5 pm5 an5 cd5 ct5), sl5⟩) (c5 : PySem.W.codeIn K cd5 "parts_in_turn" = true) (k5 : PySem.W.keepIn K (.ref f5) = true)
    (a6 : PySem.W.nsIn K mainGlobals "_left_from" = some (some (.ref f6))) (l6 : K.lookup f6 = some ⟨oc6, od6, .func (PySem.W.fnOf "_left_from" "_left_from" (defArgs s_left_from) (defBody s_left_from) (defScope s_left_from) .none kV6 dc6 pm6 an6 cd6 ct6), sl6⟩) (c6 : PySem.W.codeIn K cd6 "_left_from" = true) (k6 : PySem.W.keepIn K (.ref f6) = true)
    (a7 : PySem.W.nsIn K mainGlobals "are_ties" = some (some (.ref f7))) (l7 : K.lookup f7 = some ⟨oc7, od7, .func (PySem.W.fnOf "are_ties" "are_ties" (defArgs sare_ties) (defBody sare_ties) (defScope sare_ties) .none kV7 dc7 pm7 an7 cd7 ct7), sl7⟩) (c7 : PySem.W.codeIn K cd7 "are_ties" = true) (k7 : PySem.W.keepIn K (.ref f7) = true)
    (a8 : PySem.W.nsIn K mainGlobals "need_web" = some (some (.ref f8))) (l8 : K.lookup f8 = some ⟨oc8, od8, .func (PySem.W.fnOf "need_web" "need_web" (defArgs sneed_web) (defBody sneed_web) (defScope sneed_web) .none kV8 dc8 pm8 an8 cd8 ct8), sl8⟩) (c8 : PySem.W.codeIn K cd8 "need_web" = true) (k8 : PySem.W.keepIn K (.ref f8) = true)
    (a9 : PySem.W.nsIn K mainGlobals "need_place" = some (some (.ref f9))) (l9 : K.lookup f9 = some ⟨oc9, od9, .func (PySem.W.fnOf "need_place" "need_place" (defArgs sneed_place) (defBody sneed_place) (defScope sneed_place) .none kV9 dc9 pm9 an9 cd9 ct9), sl9⟩) (c9 : PySem.W.codeIn K cd9 "need_place" = true) (k9 : PySem.W.keepIn K (.ref f9) = true)
    (a10 : PySem.W.nsIn K mainGlobals "are_numbers" = some (some (.ref f10))) (l10 : K.lookup f10 = some ⟨oc10, od10, .func (PySem.W.fnOf "are_numbers" "are_numbers" (defArgs sare_numbers) (defBody sare_numbers) (defScope sare_numbers) .none kV10 dc10 pm10 an10 cd10 ct10), sl10⟩) (c10 : PySem.W.codeIn K cd10 "are_numbers" = true) (k10 : PySem.W.keepIn K (.ref f10) = true)
    (a11 : PySem.W.nsIn K mainGlobals "_go_on" = some (some (.ref f11))) (l11 : K.lookup f11 = some ⟨oc11, od11, .func (PySem.W.fnOf "_go_on" "_go_on" (defArgs s_go_on) (defBody s_go_on) (defScope s_go_on) .none kV11 dc11 pm11 an11 cd11 ct11), sl11⟩) (c11 : PySem.W.codeIn K cd11 "_go_on" = true) (k11 : PySem.W.keepIn K (.ref f11) = true)
    (a12 : PySem.W.nsIn K mainGlobals "is_walk" = some (some (.ref f12))) (l12 : K.lookup f12 = some ⟨oc12, od12, .func (PySem.W.fnOf "is_walk" "is_walk" (defArgs sis_walk) (defBody sis_walk) (defScope sis_walk) .none kV12 dc12 pm12 an12 cd12 ct12), sl12⟩) (c12 : PySem.W.codeIn K cd12 "is_walk" = true) (k12 : PySem.W.keepIn K (.ref f12) = true)
    (a13 : PySem.W.nsIn K mainGlobals "need_walk" = some (some (.ref f13))) (l13 : K.lookup f13 = some ⟨oc13, od13, .func (PySem.W.fnOf "need_walk" "need_walk" (defArgs sneed_walk) (defBody sneed_walk) (defScope sneed_walk) .none kV13 dc13 pm13 an13 cd13 ct13), sl13⟩) (c13 : PySem.W.codeIn K cd13 "need_walk" = true) (k13 : PySem.W.keepIn K (.ref f13) = true)
    (a14 : PySem.W.nsIn K mainGlobals "leads" = some (some (.ref f14))) (l14 : K.lookup f14 = some ⟨oc14, od14, .func (PySem.W.fnOf "leads" "leads" (defArgs sleads) (defBody sleads) (defScope sleads) .none kV14 dc14 pm14 an14 cd14 ct14), sl14⟩) (c14 : PySem.W.codeIn K cd14 "leads" = true) (k14 : PySem.W.keepIn K (.ref f14) = true)
    (a15 : PySem.W.nsIn K mainGlobals "web_steps" = some (some (.ref f15))) (l15 : K.lookup f15 = some ⟨oc15, od15, .func (PySem.W.fnOf "web_steps" "web_steps" (defArgs sweb_steps) (defBody sweb_steps) (defScope sweb_steps) .none kV15 dc15 pm15 an15 cd15 ct15), sl15⟩) (c15 : PySem.W.codeIn K cd15 "web_steps" = true) (k15 : PySem.W.keepIn K (.ref f15) = true)
    (a16 : PySem.W.nsIn K mainGlobals "_need_without" = some (some (.ref f16))) (l16 : K.lookup f16 = some ⟨oc16, od16, .func (PySem.W.fnOf "_need_without" "_need_without" (defArgs s_need_without) (defBody s_need_without) (defScope s_need_without) .none kV16 dc16 pm16 an16 cd16 ct16), sl16⟩) (c16 : PySem.W.codeIn K cd16 "_need_without" = true) (k16 : PySem.W.keepIn K (.ref f16) = true)
    (a17 : PySem.W.nsIn K mainGlobals "way" = some (some (.ref f17))) (l17 : K.lookup f17 = some ⟨oc17, od17, .func (PySem.W.fnOf "way" "way" (defArgs sway) (defBody sway) (defScope sway) .none kV17 dc17 pm17 an17 cd17 ct17), sl17⟩) (c17 : PySem.W.codeIn K cd17 "way" = true) (k17 : PySem.W.keepIn K (.ref f17) = true)
    (a18 : PySem.W.nsIn K mainGlobals "_walk_back" = some (some (.ref f18))) (l18 : K.lookup f18 = some ⟨oc18, od18, .func (PySem.W.fnOf "_walk_back" "_walk_back" (defArgs s_walk_back) (defBody s_walk_back) (defScope s_walk_back) .none kV18 dc18 pm18 an18 cd18 ct18), sl18⟩) (c18 : PySem.W.codeIn K cd18 "_walk_back" = true) (k18 : PySem.W.keepIn K (.ref f18) = true)
    (a19 : PySem.W.nsIn K mainGlobals "parts_of" = some (some (.ref f19))) (l19 : K.lookup f19 = some ⟨oc19, od19, .func (PySem.W.fnOf "parts_of" "parts_of" (defArgs sparts_of) (defBody sparts_of) (defScope sparts_of) .none kV19 dc19 pm19 an19 cd19 ct19), sl19⟩) (c19 : PySem.W.codeIn K cd19 "parts_of" = true) (k19 : PySem.W.keepIn K (.ref f19) = true)
    (a20 : PySem.W.nsIn K mainGlobals "is_close" = some (some (.ref f20))) (l20 : K.lookup f20 = some ⟨oc20, od20, .func (PySem.W.fnOf "is_close" "is_close" (defArgs sis_close) (defBody sis_close) (defScope sis_close) .none kV20 dc20 pm20 an20 cd20 ct20), sl20⟩) (c20 : PySem.W.codeIn K cd20 "is_close" = true) (k20 : PySem.W.keepIn K (.ref f20) = true)
    (a21 : PySem.W.nsIn K mainGlobals "need_close" = some (some (.ref f21))) (l21 : K.lookup f21 = some ⟨oc21, od21, .func (PySem.W.fnOf "need_close" "need_close" (defArgs sneed_close) (defBody sneed_close) (defScope sneed_close) .none kV21 dc21 pm21 an21 cd21 ct21), sl21⟩) (c21 : PySem.W.codeIn K cd21 "need_close" = true) (k21 : PySem.W.keepIn K (.ref f21) = true)
    (a22 : PySem.W.nsIn K mainGlobals "need_walk_of_close" = some (some (.ref f22))) (l22 : K.lookup f22 = some ⟨oc22, od22, .func (PySem.W.fnOf "need_walk_of_close" "need_walk_of_close" (defArgs sneed_walk_of_close) (defBody sneed_walk_of_close) (defScope sneed_walk_of_close) .none kV22 dc22 pm22 an22 cd22 ct22), sl22⟩) (c22 : PySem.W.codeIn K cd22 "need_walk_of_close" = true) (k22 : PySem.W.keepIn K (.ref f22) = true)
    (a23 : PySem.W.nsIn K mainGlobals "road_between" = some (some (.ref f23))) (l23 : K.lookup f23 = some ⟨oc23, od23, .func (PySem.W.fnOf "road_between" "road_between" (defArgs sroad_between) (defBody sroad_between) (defScope sroad_between) .none kV23 dc23 pm23 an23 cd23 ct23), sl23⟩) (c23 : PySem.W.codeIn K cd23 "road_between" = true) (k23 : PySem.W.keepIn K (.ref f23) = true)
    (a24 : PySem.W.nsIn K mainGlobals "road_around" = some (some (.ref f24))) (l24 : K.lookup f24 = some ⟨oc24, od24, .func (PySem.W.fnOf "road_around" "road_around" (defArgs sroad_around) (defBody sroad_around) (defScope sroad_around) .none kV24 dc24 pm24 an24 cd24 ct24), sl24⟩) (c24 : PySem.W.codeIn K cd24 "road_around" = true) (k24 : PySem.W.keepIn K (.ref f24) = true)
    (a25 : PySem.W.nsIn K mainGlobals "leads_around" = some (some (.ref f25))) (l25 : K.lookup f25 = some ⟨oc25, od25, .func (PySem.W.fnOf "leads_around" "leads_around" (defArgs sleads_around) (defBody sleads_around) (defScope sleads_around) .none kV25 dc25 pm25 an25 cd25 ct25), sl25⟩) (c25 : PySem.W.codeIn K cd25 "leads_around" = true) (k25 : PySem.W.keepIn K (.ref f25) = true)
    (a26 : PySem.W.nsIn K mainGlobals "is_road_around" = some (some (.ref f26))) (l26 : K.lookup f26 = some ⟨oc26, od26, .func (PySem.W.fnOf "is_road_around" "is_road_around" (defArgs sis_road_around) (defBody sis_road_around) (defScope sis_road_around) .none kV26 dc26 pm26 an26 cd26 ct26), sl26⟩) (c26 : PySem.W.codeIn K cd26 "is_road_around" = true) (k26 : PySem.W.keepIn K (.ref f26) = true)
    (a27 : PySem.W.nsIn K mainGlobals "is_sure" = some (some (.ref f27))) (l27 : K.lookup f27 = some ⟨oc27, od27, .func (PySem.W.fnOf "is_sure" "is_sure" (defArgs sis_sure) (defBody sis_sure) (defScope sis_sure) .none kV27 dc27 pm27 an27 cd27 ct27), sl27⟩) (c27 : PySem.W.codeIn K cd27 "is_sure" = true) (k27 : PySem.W.keepIn K (.ref f27) = true)
    (a28 : PySem.W.nsIn K mainGlobals "goes_on" = some (some (.ref f28))) (l28 : K.lookup f28 = some ⟨oc28, od28, .func (PySem.W.fnOf "goes_on" "goes_on" (defArgs sgoes_on) (defBody sgoes_on) (defScope sgoes_on) .none kV28 dc28 pm28 an28 cd28 ct28), sl28⟩) (c28 : PySem.W.codeIn K cd28 "goes_on" = true) (k28 : PySem.W.keepIn K (.ref f28) = true)
    (a29 : PySem.W.nsIn K mainGlobals "comes_from" = some (some (.ref f29))) (l29 : K.lookup f29 = some ⟨oc29, od29, .func (PySem.W.fnOf "comes_from" "comes_from" (defArgs scomes_from) (defBody scomes_from) (defScope scomes_from) .none kV29 dc29 pm29 an29 cd29 ct29), sl29⟩) (c29 : PySem.W.codeIn K cd29 "comes_from" = true) (k29 : PySem.W.keepIn K (.ref f29) = true)
    (a30 : PySem.W.nsIn K mainGlobals "_law_pot" = some (some (.ref f30))) (l30 : K.lookup f30 = some ⟨oc30, od30, .func (PySem.W.fnOf "_law_pot" "_law_pot" (defArgs s_law_pot) (defBody s_law_pot) (defScope s_law_pot) .none kV30 dc30 pm30 an30 cd30 ct30), sl30⟩) (c30 : PySem.W.codeIn K cd30 "_law_pot" = true) (k30 : PySem.W.keepIn K (.ref f30) = true)
    (a31 : PySem.W.nsIn K mainGlobals "_law_draw" = some (some (.ref f31))) (l31 : K.lookup f31 = some ⟨oc31, od31, .func (PySem.W.fnOf "_law_draw" "_law_draw" (defArgs s_law_draw) (defBody s_law_draw) (defScope s_law_draw) .none kV31 dc31 pm31 an31 cd31 ct31), sl31⟩) (c31 : PySem.W.codeIn K cd31 "_law_draw" = true) (k31 : PySem.W.keepIn K (.ref f31) = true)
    (a32 : PySem.W.nsIn K mainGlobals "_law_pick" = some (some (.ref f32))) (l32 : K.lookup f32 = some ⟨oc32, od32, .func (PySem.W.fnOf "_law_pick" "_law_pick" (defArgs s_law_pick) (defBody s_law_pick) (defScope s_law_pick) .none kV32 dc32 pm32 an32 cd32 ct32), sl32⟩) (c32 : PySem.W.codeIn K cd32 "_law_pick" = true) (k32 : PySem.W.keepIn K (.ref f32) = true)
    (a33 : PySem.W.nsIn K mainGlobals "_law_ties" = some (some (.ref f33))) (l33 : K.lookup f33 = some ⟨oc33, od33, .func (PySem.W.fnOf "_law_ties" "_law_ties" (defArgs s_law_ties) (defBody s_law_ties) (defScope s_law_ties) .none kV33 dc33 pm33 an33 cd33 ct33), sl33⟩) (c33 : PySem.W.codeIn K cd33 "_law_ties" = true) (k33 : PySem.W.keepIn K (.ref f33) = true)
    (a34 : PySem.W.nsIn K mainGlobals "_law_out" = some (some (.ref f34))) (l34 : K.lookup f34 = some ⟨oc34, od34, .func (PySem.W.fnOf "_law_out" "_law_out" (defArgs s_law_out) (defBody s_law_out) (defScope s_law_out) .none kV34 dc34 pm34 an34 cd34 ct34), sl34⟩) (c34 : PySem.W.codeIn K cd34 "_law_out" = true) (k34 : PySem.W.keepIn K (.ref f34) = true)
    (a35 : PySem.W.nsIn K mainGlobals "_law_walk" = some (some (.ref f35))) (l35 : K.lookup f35 = some ⟨oc35, od35, .func (PySem.W.fnOf "_law_walk" "_law_walk" (defArgs s_law_walk) (defBody s_law_walk) (defScope s_law_walk) .none kV35 dc35 pm35 an35 cd35 ct35), sl35⟩) (c35 : PySem.W.codeIn K cd35 "_law_walk" = true) (k35 : PySem.W.keepIn K (.ref f35) = true)
    (a36 : PySem.W.nsIn K mainGlobals "_law_next" = some (some (.ref f36))) (l36 : K.lookup f36 = some ⟨oc36, od36, .func (PySem.W.fnOf "_law_next" "_law_next" (defArgs s_law_next) (defBody s_law_next) (defScope s_law_next) .none kV36 dc36 pm36 an36 cd36 ct36), sl36⟩) (c36 : PySem.W.codeIn K cd36 "_law_next" = true) (k36 : PySem.W.keepIn K (.ref f36) = true)
    (a37 : PySem.W.nsIn K mainGlobals "_law_steps" = some (some (.ref f37))) (l37 : K.lookup f37 = some ⟨oc37, od37, .func (PySem.W.fnOf "_law_steps" "_law_steps" (defArgs s_law_steps) (defBody s_law_steps) (defScope s_law_steps) .none kV37 dc37 pm37 an37 cd37 ct37), sl37⟩) (c37 : PySem.W.codeIn K cd37 "_law_steps" = true) (k37 : PySem.W.keepIn K (.ref f37) = true)
    (a38 : PySem.W.nsIn K mainGlobals "_law_come" = some (some (.ref f38))) (l38 : K.lookup f38 = some ⟨oc38, od38, .func (PySem.W.fnOf "_law_come" "_law_come" (defArgs s_law_come) (defBody s_law_come) (defScope s_law_come) .none kV38 dc38 pm38 an38 cd38 ct38), sl38⟩) (c38 : PySem.W.codeIn K cd38 "_law_come" = true) (k38 : PySem.W.keepIn K (.ref f38) = true)
    (a39 : PySem.W.nsIn K mainGlobals "_law_is_sure" = some (some (.ref f39))) (l39 : K.lookup f39 = some ⟨oc39, od39, .func (PySem.W.fnOf "_law_is_sure" "_law_is_sure" (defArgs s_law_is_sure) (defBody s_law_is_sure) (defScope s_law_is_sure) .none kV39 dc39 pm39 an39 cd39 ct39), sl39⟩) (c39 : PySem.W.codeIn K cd39 "_law_is_sure" = true) (k39 : PySem.W.keepIn K (.ref f39) = true)
    (a40 : PySem.W.nsIn K mainGlobals "_law_is_around" = some (some (.ref f40))) (l40 : K.lookup f40 = some ⟨oc40, od40, .func (PySem.W.fnOf "_law_is_around" "_law_is_around" (defArgs s_law_is_around) (defBody s_law_is_around) (defScope s_law_is_around) .none kV40 dc40 pm40 an40 cd40 ct40), sl40⟩) (c40 : PySem.W.codeIn K cd40 "_law_is_around" = true) (k40 : PySem.W.keepIn K (.ref f40) = true)
    (a41 : PySem.W.nsIn K mainGlobals "_law_right" = some (some (.ref f41))) (l41 : K.lookup f41 = some ⟨oc41, od41, .func (PySem.W.fnOf "_law_right" "_law_right" (defArgs s_law_right) (defBody s_law_right) (defScope s_law_right) .none kV41 dc41 pm41 an41 cd41 ct41), sl41⟩) (c41 : PySem.W.codeIn K cd41 "_law_right" = true) (k41 : PySem.W.keepIn K (.ref f41) = true)
    (a42 : PySem.W.nsIn K mainGlobals "law" = some (some (.ref f42))) (l42 : K.lookup f42 = some ⟨oc42, od42, .func (PySem.W.fnOf "law" "law" (defArgs slaw) (defBody slaw) (defScope slaw) .none kV42 dc42 pm42 an42 cd42 ct42), sl42⟩) (c42 : PySem.W.codeIn K cd42 "law" = true) (k42 : PySem.W.keepIn K (.ref f42) = true)
    (pg : PySem.W.plainGet K C Str.empty = true) (hd : PySem.W.hasDictIn K C = true) (po : PySem.W.plainOver K C = true) (sa : PySem.W.findIn K (.ref C) "__setattr__" = some (some (.builtin "object.__setattr__"))) (mk : PySem.W.makesIn K C = true) (kc : PySem.W.keepIn K (.ref C) = true)
    (n0 : PySem.W.findIn K (.ref C) "_places" = some none)
    (n1 : PySem.W.findIn K (.ref C) "_ties" = some none)
    (n2 : PySem.W.findIn K (.ref C) "_ties_from" = some none)
    (n3 : PySem.W.findIn K (.ref C) "_ties_to" = some none)
    (q1 : PySem.W.findIn K (.ref C) "__class__" = some (some (.builtin "object.__class__"))) (q2 : PySem.W.specialIn K (.builtin "object.__class__") "__get__" = some (some (.builtin "getset_descriptor.__get__"))) (q3 : PySem.W.takesIn K (.builtin "object.__class__") = some true) (q4 : PySem.W.mroIn K C (.type "object") = some true)
    (w1 : PySem.W.findIn K (.ref C) "__ne__" = some (some (.builtin "object.__ne__")))
    (z0 : PySem.W.nsIn K mainGlobals "isinstance" = some none)
    (z1 : PySem.W.nsIn K mainGlobals "int" = some none)
    (z2 : PySem.W.nsIn K mainGlobals "bool" = some none)
    (z3 : PySem.W.nsIn K mainGlobals "list" = some none)
    (z4 : PySem.W.nsIn K mainGlobals "tuple" = some none)
    (z5 : PySem.W.nsIn K mainGlobals "len" = some none)
    (z6 : PySem.W.nsIn K mainGlobals "range" = some none)
    (z7 : PySem.W.nsIn K mainGlobals "abs" = some none)
    (z8 : PySem.W.nsIn K mainGlobals "max" = some none)
    (z9 : PySem.W.nsIn K mainGlobals "divmod" = some none)
    (z10 : PySem.W.nsIn K mainGlobals "enumerate" = some none)
    (z11 : PySem.W.nsIn K mainGlobals "sorted" = some none)
    (z12 : PySem.W.nsIn K mainGlobals "zip" = some none)
    (z13 : PySem.W.nsIn K mainGlobals "all" = some none)
    (z14 : PySem.W.nsIn K mainGlobals "repr" = some none)
    (z15 : PySem.W.nsIn K mainGlobals "set" = some none)
    (y0 : PySem.W.nsIn K mainGlobals "MOST_PLACES" = some (some (.int 60 t0)))
    (y1 : PySem.W.nsIn K mainGlobals "MOST_TIES" = some (some (.int 80 t1)))
    (y2 : PySem.W.nsIn K mainGlobals "LONGEST_WALK" = some (some (.int 400 t2)))
    : ∃ fd : FuncData, (∀ (s : Shared) (v : Value), BindsTo s fd ⟨[v], []⟩ [("_law_script", v)]) ∧ ∀ base : Heap, K.In base → base.Ns mainGlobals mg → FnG l.prog w K mg base 13 fa fd ["_law_script"] (splaw K 0) := by
  have e := hfa.symm.trans (PySem.W.mg_of X G a42)
  cases e
  have B : Bs mg := ⟨PySem.W.mg_none_of X G z0, PySem.W.mg_none_of X G z1, PySem.W.mg_none_of X G z2, PySem.W.mg_none_of X G z3, PySem.W.mg_none_of X G z4, PySem.W.mg_none_of X G z5, PySem.W.mg_none_of X G z6, PySem.W.mg_none_of X G z7, PySem.W.mg_none_of X G z8, PySem.W.mg_none_of X G z9, PySem.W.mg_none_of X G z10, PySem.W.mg_none_of X G z11, PySem.W.mg_none_of X G z12, PySem.W.mg_none_of X G z13, PySem.W.mg_none_of X G z14, PySem.W.mg_none_of X G z15⟩
  have Glb : Glo mg := ⟨⟨t0, PySem.W.mg_of X G y0⟩, ⟨t1, PySem.W.mg_of X G y1⟩, ⟨t2, PySem.W.mg_of X G y2⟩⟩
  have WK : WebK K mg C := ⟨⟨pg, hd, po, sa⟩, n0, n1, n2, n3, PySem.W.mg_of X G aC, q1, q2, q3, q4, (by unfold PySem.W.kitOne; exact if_pos (beq_self_eq_true _)), w1⟩
  have DWeb___init__ : DefI K C "__init__" "Web.__init__" sWeb___init__ ["self", "places", "ties"] := ⟨fM0, _, fun_mk (st := sWeb___init__) lM0 cM0 kM0, ⟨mk, aM0, iM0, kc⟩, (fun_mk (st := sWeb___init__) lM0 cM0 kM0).binds (ps := ["self", "places", "ties"]) fun _ _ _ _ _ _ us hl => match us, hl with | [_, _, _], _ => rfl⟩
  have DWeb_places : DefP K C "places" "Web.places" sWeb_places ["self"] := ⟨pM1, fM1, _, fun_mk (st := sWeb_places) lM1 cM1 kM1, ⟨aM1, gM1, tM1, _, rM1⟩, (fun_mk (st := sWeb_places) lM1 cM1 kM1).binds (ps := ["self"]) fun _ _ _ _ _ _ us hl => match us, hl with | [_], _ => rfl⟩
  have DWeb_many : DefP K C "many" "Web.many" sWeb_many ["self"] := ⟨pM2, fM2, _, fun_mk (st := sWeb_many) lM2 cM2 kM2, ⟨aM2, gM2, tM2, _, rM2⟩, (fun_mk (st := sWeb_many) lM2 cM2 kM2).binds (ps := ["self"]) fun _ _ _ _ _ _ us hl => match us, hl with | [_], _ => rfl⟩
  have DWeb_ties : DefM K C "ties" "Web.ties" sWeb_ties ["self"] := ⟨fM3, _, fun_mk (st := sWeb_ties) lM3 cM3 kM3, ⟨aM3, iM3, kM3⟩, (fun_mk (st := sWeb_ties) lM3 cM3 kM3).binds (ps := ["self"]) fun _ _ _ _ _ _ us hl => match us, hl with | [_], _ => rfl⟩
  have DWeb_ties_from : DefM K C "ties_from" "Web.ties_from" sWeb_ties_from ["self", "place"] := ⟨fM4, _, fun_mk (st := sWeb_ties_from) lM4 cM4 kM4, ⟨aM4, iM4, kM4⟩, (fun_mk (st := sWeb_ties_from) lM4 cM4 kM4).binds (ps := ["self", "place"]) fun _ _ _ _ _ _ us hl => match us, hl with | [_, _], _ => rfl⟩
  have DWeb_ties_to : DefM K C "ties_to" "Web.ties_to" sWeb_ties_to ["self", "place"] := ⟨fM5, _, fun_mk (st := sWeb_ties_to) lM5 cM5 kM5, ⟨aM5, iM5, kM5⟩, (fun_mk (st := sWeb_ties_to) lM5 cM5 kM5).binds (ps := ["self", "place"]) fun _ _ _ _ _ _ us hl => match us, hl with | [_, _], _ => rfl⟩
  have Dis_integer : Def K mg "is_integer" sis_integer ["value"] := def_mk X G a0 l0 c0 k0 fun _ _ _ _ _ _ us hl => match us, hl with | [_], _ => rfl
  have Dis_count : Def K mg "is_count" sis_count ["value"] := def_mk X G a1 l1 c1 k1 fun _ _ _ _ _ _ us hl => match us, hl with | [_], _ => rfl
  have Dis_between : Def K mg "is_between" sis_between ["value", "least", "most"] := def_mk X G a2 l2 c2 k2 fun _ _ _ _ _ _ us hl => match us, hl with | [_, _, _], _ => rfl
  have Dis_below : Def K mg "is_below" sis_below ["value", "limit"] := def_mk X G a3 l3 c3 k3 fun _ _ _ _ _ _ us hl => match us, hl with | [_, _], _ => rfl
  have Dis_listed : Def K mg "is_listed" sis_listed ["value"] := def_mk X G a4 l4 c4 k4 fun _ _ _ _ _ _ us hl => match us, hl with | [_], _ => rfl
  have Dparts_in_turn : Def K mg "parts_in_turn" sparts_in_turn ["points", "steps"] := def_mk X G a5 l5 c5 k5 fun _ _ _ _ _ _ us hl => match us, hl with | [_, _], _ => rfl
  have D_left_from : Def K mg "_left_from" s_left_from ["ends", "point", "seen"] := def_mk X G a6 l6 c6 k6 fun _ _ _ _ _ _ us hl => match us, hl with | [_, _, _], _ => rfl
  have Dare_ties : Def K mg "are_ties" sare_ties ["places", "value"] := def_mk X G a7 l7 c7 k7 fun _ _ _ _ _ _ us hl => match us, hl with | [_, _], _ => rfl
  have Dneed_web : Def K mg "need_web" sneed_web ["web"] := def_mk X G a8 l8 c8 k8 fun _ _ _ _ _ _ us hl => match us, hl with | [_], _ => rfl
  have Dneed_place : Def K mg "need_place" sneed_place ["web", "place"] := def_mk X G a9 l9 c9 k9 fun _ _ _ _ _ _ us hl => match us, hl with | [_, _], _ => rfl
  have Dare_numbers : Def K mg "are_numbers" sare_numbers ["web", "value"] := def_mk X G a10 l10 c10 k10 fun _ _ _ _ _ _ us hl => match us, hl with | [_, _], _ => rfl
  have D_go_on : Def K mg "_go_on" s_go_on ["web", "value", "longest"] := def_mk X G a11 l11 c11 k11 fun _ _ _ _ _ _ us hl => match us, hl with | [_, _, _], _ => rfl
  have Dis_walk : Def K mg "is_walk" sis_walk ["web", "value"] := def_mk X G a12 l12 c12 k12 fun _ _ _ _ _ _ us hl => match us, hl with | [_, _], _ => rfl
  have Dneed_walk : Def K mg "need_walk" sneed_walk ["web", "walk"] := def_mk X G a13 l13 c13 k13 fun _ _ _ _ _ _ us hl => match us, hl with | [_, _], _ => rfl
  have Dleads : Def K mg "leads" sleads ["web", "walk"] := def_mk X G a14 l14 c14 k14 fun _ _ _ _ _ _ us hl => match us, hl with | [_, _], _ => rfl
  have Dweb_steps : Def K mg "web_steps" sweb_steps ["web"] := def_mk X G a15 l15 c15 k15 fun _ _ _ _ _ _ us hl => match us, hl with | [_], _ => rfl
  have D_need_without : Def K mg "_need_without" s_need_without ["web", "without"] := def_mk X G a16 l16 c16 k16 fun _ _ _ _ _ _ us hl => match us, hl with | [_, _], _ => rfl
  have Dway : Def K mg "way" sway ["web", "near", "far", "without"] := def_mk X G a17 l17 c17 k17 fun _ _ _ _ _ _ us hl => match us, hl with | [_, _, _, _], _ => rfl
  have D_walk_back : Def K mg "_walk_back" s_walk_back ["ties", "came_by", "near", "far"] := def_mk X G a18 l18 c18 k18 fun _ _ _ _ _ _ us hl => match us, hl with | [_, _, _, _], _ => rfl
  have Dparts_of : Def K mg "parts_of" sparts_of ["web"] := def_mk X G a19 l19 c19 k19 fun _ _ _ _ _ _ us hl => match us, hl with | [_], _ => rfl
  have Dis_close : Def K mg "is_close" sis_close ["web"] := def_mk X G a20 l20 c20 k20 fun _ _ _ _ _ _ us hl => match us, hl with | [_], _ => rfl
  have Dneed_close : Def K mg "need_close" sneed_close ["web"] := def_mk X G a21 l21 c21 k21 fun _ _ _ _ _ _ us hl => match us, hl with | [_], _ => rfl
  have Dneed_walk_of_close : Def K mg "need_walk_of_close" sneed_walk_of_close ["web", "walk"] := def_mk X G a22 l22 c22 k22 fun _ _ _ _ _ _ us hl => match us, hl with | [_, _], _ => rfl
  have Droad_between : Def K mg "road_between" sroad_between ["web", "first", "last"] := def_mk X G a23 l23 c23 k23 fun _ _ _ _ _ _ us hl => match us, hl with | [_, _, _], _ => rfl
  have Droad_around : Def K mg "road_around" sroad_around ["web", "walk"] := def_mk X G a24 l24 c24 k24 fun _ _ _ _ _ _ us hl => match us, hl with | [_, _], _ => rfl
  have Dleads_around : Def K mg "leads_around" sleads_around ["web", "walk", "value"] := def_mk X G a25 l25 c25 k25 fun _ _ _ _ _ _ us hl => match us, hl with | [_, _, _], _ => rfl
  have Dis_road_around : Def K mg "is_road_around" sis_road_around ["web", "walk", "value"] := def_mk X G a26 l26 c26 k26 fun _ _ _ _ _ _ us hl => match us, hl with | [_, _, _], _ => rfl
  have Dis_sure : Def K mg "is_sure" sis_sure ["web", "walk"] := def_mk X G a27 l27 c27 k27 fun _ _ _ _ _ _ us hl => match us, hl with | [_, _], _ => rfl
  have Dgoes_on : Def K mg "goes_on" sgoes_on ["web", "walk"] := def_mk X G a28 l28 c28 k28 fun _ _ _ _ _ _ us hl => match us, hl with | [_, _], _ => rfl
  have Dcomes_from : Def K mg "comes_from" scomes_from ["web", "walk"] := def_mk X G a29 l29 c29 k29 fun _ _ _ _ _ _ us hl => match us, hl with | [_, _], _ => rfl
  have D_law_pot : Def K mg "_law_pot" s_law_pot ["_law_script", "_law_k"] := def_mk X G a30 l30 c30 k30 fun _ _ _ _ _ _ us hl => match us, hl with | [_, _], _ => rfl
  have D_law_draw : Def K mg "_law_draw" s_law_draw ["_law_pot_here", "_law_size"] := def_mk X G a31 l31 c31 k31 fun _ _ _ _ _ _ us hl => match us, hl with | [_, _], _ => rfl
  have D_law_pick : Def K mg "_law_pick" s_law_pick ["_law_pot_here", "_law_some"] := def_mk X G a32 l32 c32 k32 fun _ _ _ _ _ _ us hl => match us, hl with | [_, _], _ => rfl
  have D_law_ties : Def K mg "_law_ties" s_law_ties ["_law_pot_here"] := def_mk X G a33 l33 c33 k33 fun _ _ _ _ _ _ us hl => match us, hl with | [_], _ => rfl
  have D_law_out : Def K mg "_law_out" s_law_out ["_law_ties_here", "_law_place", "_law_without"] := def_mk X G a34 l34 c34 k34 fun _ _ _ _ _ _ us hl => match us, hl with | [_, _, _], _ => rfl
  have D_law_walk : Def K mg "_law_walk" s_law_walk ["_law_pot_here", "_law_ties_here", "_law_most"] := def_mk X G a35 l35 c35 k35 fun _ _ _ _ _ _ us hl => match us, hl with | [_, _, _], _ => rfl
  have D_law_next : Def K mg "_law_next" s_law_next ["_law_walk_here", "_law_state", "_law_tie"] := def_mk X G a36 l36 c36 k36 fun _ _ _ _ _ _ us hl => match us, hl with | [_, _, _], _ => rfl
  have D_law_steps : Def K mg "_law_steps" s_law_steps ["_law_places", "_law_ties_here", "_law_walk_here"] := def_mk X G a37 l37 c37 k37 fun _ _ _ _ _ _ us hl => match us, hl with | [_, _, _], _ => rfl
  have D_law_come : Def K mg "_law_come" s_law_come ["_law_steps_here", "_law_first"] := def_mk X G a38 l38 c38 k38 fun _ _ _ _ _ _ us hl => match us, hl with | [_, _], _ => rfl
  have D_law_is_sure : Def K mg "_law_is_sure" s_law_is_sure ["_law_places", "_law_ties_here", "_law_walk_here"] := def_mk X G a39 l39 c39 k39 fun _ _ _ _ _ _ us hl => match us, hl with | [_, _, _], _ => rfl
  have D_law_is_around : Def K mg "_law_is_around" s_law_is_around ["_law_ties_here", "_law_walk_here", "_law_told"] := def_mk X G a40 l40 c40 k40 fun _ _ _ _ _ _ us hl => match us, hl with | [_, _, _], _ => rfl
  have D_law_right : Def K mg "_law_right" s_law_right ["_law_pot_here"] := def_mk X G a41 l41 c41 k41 fun _ _ _ _ _ _ us hl => match us, hl with | [_], _ => rfl
  have Dlaw : Def K mg "law" slaw ["_law_script"] := def_mk X G a42 l42 c42 k42 fun _ _ _ _ _ _ us hl => match us, hl with | [_], _ => rfl
  refine ⟨PySem.W.fnOf "law" "law" (defArgs slaw) (defBody slaw) (defScope slaw) .none kV42 dc42 pm42 an42 cd42 ct42, fun s v => .of_eq rfl, fun base _ _ => ?_⟩
  have H_law_draw := ok_law_draw (P := l.prog) (w := w) (base := base) D_law_draw B Glb WK
  have H_law_pick := ok_law_pick (P := l.prog) (w := w) (base := base) D_law_pick B Glb WK H_law_draw
  have H_law_ties := ok_law_ties (P := l.prog) (w := w) (base := base) D_law_ties B Glb WK H_law_pick H_law_draw
  have Hneed_web := okneed_web (P := l.prog) (w := w) (base := base) Dneed_web B Glb WK
  have His_listed := okis_listed (P := l.prog) (w := w) (base := base) Dis_listed B Glb WK
  have His_integer := okis_integer (P := l.prog) (w := w) (base := base) Dis_integer B Glb WK
  have His_between := okis_between (P := l.prog) (w := w) (base := base) Dis_between B Glb WK His_integer
  have His_count := okis_count (P := l.prog) (w := w) (base := base) Dis_count B Glb WK His_integer
  have His_below := okis_below (P := l.prog) (w := w) (base := base) Dis_below B Glb WK His_count
  have HWeb_many := okWeb_many (P := l.prog) (w := w) (base := base) DWeb_many B Glb WK
  have Hare_numbers := okare_numbers (P := l.prog) (w := w) (base := base) Dare_numbers B Glb WK His_listed His_below HWeb_many
  have HWeb_ties := okWeb_ties (P := l.prog) (w := w) (base := base) DWeb_ties B Glb WK
  have H_go_on := ok_go_on (P := l.prog) (w := w) (base := base) D_go_on B Glb WK His_listed His_between Hare_numbers HWeb_ties
  have His_walk := okis_walk (P := l.prog) (w := w) (base := base) Dis_walk B Glb WK Hneed_web H_go_on
  have Hneed_walk := okneed_walk (P := l.prog) (w := w) (base := base) Dneed_walk B Glb WK His_walk
  have H_left_from := ok_left_from (P := l.prog) (w := w) (base := base) D_left_from B Glb WK
  have Hparts_in_turn := okparts_in_turn (P := l.prog) (w := w) (base := base) Dparts_in_turn B Glb WK H_left_from
  have Hweb_steps := okweb_steps (P := l.prog) (w := w) (base := base) Dweb_steps B Glb WK HWeb_ties
  have HWeb_places := okWeb_places (P := l.prog) (w := w) (base := base) DWeb_places B Glb WK
  have Hparts_of := okparts_of (P := l.prog) (w := w) (base := base) Dparts_of B Glb WK Hneed_web Hparts_in_turn Hweb_steps HWeb_places
  have His_close := okis_close (P := l.prog) (w := w) (base := base) Dis_close B Glb WK Hneed_web Hparts_of HWeb_many
  have Hneed_close := okneed_close (P := l.prog) (w := w) (base := base) Dneed_close B Glb WK His_close
  have Hneed_walk_of_close := okneed_walk_of_close (P := l.prog) (w := w) (base := base) Dneed_walk_of_close B Glb WK Hneed_web Hneed_walk Hneed_close
  have Hneed_place := okneed_place (P := l.prog) (w := w) (base := base) Dneed_place B Glb WK His_below HWeb_places
  have H_need_without := ok_need_without (P := l.prog) (w := w) (base := base) D_need_without B Glb WK Hare_numbers
  have H_walk_back := ok_walk_back (P := l.prog) (w := w) (base := base) D_walk_back B Glb WK
  have HWeb_ties_from := okWeb_ties_from (P := l.prog) (w := w) (base := base) DWeb_ties_from B Glb WK Hneed_place
  have Hway := okway (P := l.prog) (w := w) (base := base) Dway B Glb WK Hneed_web Hneed_place H_need_without H_walk_back HWeb_ties HWeb_ties_from
  have Hroad_between := okroad_between (P := l.prog) (w := w) (base := base) Droad_between B Glb WK Hway HWeb_ties
  have Hroad_around := okroad_around (P := l.prog) (w := w) (base := base) Droad_around B Glb WK Hneed_walk_of_close Hroad_between
  have H_law_out := ok_law_out (P := l.prog) (w := w) (base := base) D_law_out B Glb WK
  have H_law_walk := ok_law_walk (P := l.prog) (w := w) (base := base) D_law_walk B Glb WK H_law_draw H_law_out H_law_pick
  have H_law_next := ok_law_next (P := l.prog) (w := w) (base := base) D_law_next B Glb WK
  have H_law_steps := ok_law_steps (P := l.prog) (w := w) (base := base) D_law_steps B Glb WK H_law_out H_law_next
  have H_law_come := ok_law_come (P := l.prog) (w := w) (base := base) D_law_come B Glb WK
  have H_law_is_sure := ok_law_is_sure (P := l.prog) (w := w) (base := base) D_law_is_sure B Glb WK H_law_steps H_law_come
  have His_sure := okis_sure (P := l.prog) (w := w) (base := base) Dis_sure B Glb WK Hroad_around
  have Hleads := okleads (P := l.prog) (w := w) (base := base) Dleads B Glb WK Hneed_web Hneed_walk HWeb_ties
  have Hgoes_on := okgoes_on (P := l.prog) (w := w) (base := base) Dgoes_on B Glb WK His_sure Hleads Hroad_between HWeb_ties_from
  have HWeb_ties_to := okWeb_ties_to (P := l.prog) (w := w) (base := base) DWeb_ties_to B Glb WK Hneed_place
  have Hcomes_from := okcomes_from (P := l.prog) (w := w) (base := base) Dcomes_from B Glb WK His_sure Hleads Hroad_between HWeb_ties_to
  have H_law_is_around := ok_law_is_around (P := l.prog) (w := w) (base := base) D_law_is_around B Glb WK
  have Hleads_around := okleads_around (P := l.prog) (w := w) (base := base) Dleads_around B Glb WK His_walk His_between Hleads HWeb_ties
  have His_road_around := okis_road_around (P := l.prog) (w := w) (base := base) Dis_road_around B Glb WK Hneed_walk_of_close Hleads_around
  have Hare_ties := okare_ties (P := l.prog) (w := w) (base := base) Dare_ties B Glb WK His_listed His_below
  have HWeb___init__ := okWeb___init__ (P := l.prog) (w := w) (base := base) DWeb___init__ B Glb WK His_between Hare_ties
  have H_law_right := ok_law_right (P := l.prog) (w := w) (base := base) D_law_right B Glb WK H_law_ties Hroad_around H_law_walk H_law_is_sure H_law_out Hgoes_on Hcomes_from His_sure H_law_is_around His_road_around HWeb___init__ HWeb_ties
  have H_law_pot := ok_law_pot (P := l.prog) (w := w) (base := base) D_law_pot B Glb WK
  have Hlaw := oklaw (P := l.prog) (w := w) (base := base) Dlaw B Glb WK H_law_right H_law_pot
  obtain ⟨f, fd, O, m, k, b, F⟩ := Hlaw
  have e2 := m.symm.trans hfa
  cases e2
  rw [fd_is F l42] at O
  exact O
theorem walk {l : PySem.W.OpenLaw} {q : Program} {loose : List Str} {XP : (Str → Option Value) → Heap → Prop} {YP : World → Heap → Prop} {d : DefRec} {K : Params → PySem.W.Frag} (hn : l.most = some 63) (hdf : d.params.defaults = [])
    (hY : ∀ (w : World) (h : Heap), YP w h → (K w.params).In h)
    (F : ∀ (w : World) (mg : Str → Option Value) (fa : Addr) (h : Heap), (K w.params).In h → h.Ns mainGlobals mg → mg d.name = some (.ref fa) →
      ∃ fd : FuncData, (∀ (s : Shared) (u : Value), BindsTo s fd ⟨[u], []⟩ [("_law_script", u)]) ∧ ∀ base : Heap, (K w.params).In base → base.Ns mainGlobals mg → FnG l.prog w (K w.params) mg base 13 fa fd ["_law_script"] (splaw (K w.params) 0)) :
    PySem.W.WalkO q loose XP YP l.row.toRowW d [] (fun f vs => PySem.call f vs) :=
  walk_ofG (n := 63) (k := 13) (x := "_law_script") (sp := fun w => splaw (K w.params) 0) hn (by decide) hdf ⟨rfl, by decide, by decide⟩ hY F (fun _ _ a ns hl _ hS => ⟨a, ns, rfl, hS, hl, fun _ => rfl⟩)
end My
open PySem PySem.W PyProof.Rows
set_option maxRecDepth 100000 in
set_option maxHeartbeats 0 in
theorem PySem.Challenge.cw_suretexts_k36_whole_sure_walks_by_standi_holds : PySem.Challenge.rw_suretexts_k36_whole_sure_walks_by_standi.Holds := by
  w_on; o_law; k_head; (case hw => w_witness2)
  k_fill
  refine My.walk (l := PySem.Challenge.rw_suretexts_k36_whole_sure_walks_by_standi) rfl rfl (fun w h Y => PySem.W.kIn_of Y) ?F
  case F =>
    intro w mg fa h KX G hmg
    refine' My.all_mk KX G hmg ?aC ?aM0 ?iM0 ?lM0 ?cM0 ?kM0 ?aM1 ?gM1 ?tM1 ?rM1 ?lM1 ?cM1 ?kM1 ?aM2 ?gM2 ?tM2 ?rM2 ?lM2 ?cM2 ?kM2 ?aM3 ?iM3 ?lM3 ?cM3 ?kM3 ?aM4 ?iM4 ?lM4 ?cM4 ?kM4 ?aM5 ?iM5 ?lM5 ?cM5 ?kM5 ?a0 ?l0 ?c0 ?k0 ?a1 ?l1 ?c1 ?k1 ?a2 ?l2 ?c2 ?k2 ?a3 ?l3 ?c3 ?k3 ?a4 ?l4 ?c4 ?k4 ?a5 ?l5 ?c5 ?k5 ?a6 ?l6 ?c6 ?k6 ?a7 ?l7 ?c7 ?k7 ?a8 ?l8 ?c8 ?k8 ?a9 ?l9 ?c9 ?k9 ?a10 ?l10 ?c10 ?k10 ?a11 ?l11 ?c11 ?k11 ?a12 ?l12 ?c12 ?k12 ?a13 ?l13 ?c13 ?k13 ?a14 ?l14 ?c14 ?k14 ?a15 ?l15 ?c15 ?k15 ?a16 ?l16 ?c16 ?k16 ?a17 ?l17 ?c17 ?k17 ?a18 ?l18 ?c18 ?k18 ?a19 ?l19 ?c19 ?k19 ?a20 ?l20 ?c20 ?k20 ?a21 ?l21 ?c21 ?k21 ?a22 ?l22 ?c22 ?k22 ?a23 ?l23 ?c23 ?k23 ?a24 ?l24 ?c24 ?k24 ?a25 ?l25 ?c25 ?k25 ?a26 ?l26 ?c26 ?k26 ?a27 ?l27 ?c27 ?k27 ?a28 ?l28 ?c28 ?k28 ?a29 ?l29 ?c29 ?k29 ?a30 ?l30 ?c30 ?k30 ?a31 ?l31 ?c31 ?k31 ?a32 ?l32 ?c32 ?k32 ?a33 ?l33 ?c33 ?k33 ?a34 ?l34 ?c34 ?k34 ?a35 ?l35 ?c35 ?k35 ?a36 ?l36 ?c36 ?k36 ?a37 ?l37 ?c37 ?k37 ?a38 ?l38 ?c38 ?k38 ?a39 ?l39 ?c39 ?k39 ?a40 ?l40 ?c40 ?k40 ?a41 ?l41 ?c41 ?k41 ?a42 ?l42 ?c42 ?k42 ?pg ?hd ?po ?sa ?mk ?kc ?n0 ?n1 ?n2 ?n3 ?q1 ?q2 ?q3 ?q4 ?w1 ?z0 ?z1 ?z2 ?z3 ?z4 ?z5 ?z6 ?z7 ?z8 ?z9 ?z10 ?z11 ?z12 ?z13 ?z14 ?z15 ?y0 ?y1 ?y2
    (case aC => k_is)
    (case aM0 => k_is)
    (case iM0 => k_is)
    (case lM0 => k_is)
    (case cM0 => k_is)
    (case kM0 => k_is)
    (case aM1 => k_is)
    (case gM1 => k_is)
    (case tM1 => k_is)
    (case rM1 => k_is)
    (case lM1 => k_is)
    (case cM1 => k_is)
    (case kM1 => k_is)
    (case aM2 => k_is)
    (case gM2 => k_is)
    (case tM2 => k_is)
    (case rM2 => k_is)
    (case lM2 => k_is)
    (case cM2 => k_is)
    (case kM2 => k_is)
    (case aM3 => k_is)
    (case iM3 => k_is)
    (case lM3 => k_is)
    (case cM3 => k_is)
    (case kM3 => k_is)
    (case aM4 => k_is)
    (case iM4 => k_is)
    (case lM4 => k_is)
    (case cM4 => k_is)
    (case kM4 => k_is)
    (case aM5 => k_is)
    (case iM5 => k_is)
    (case lM5 => k_is)
    (case cM5 => k_is)
    (case kM5 => k_is)
    (case a0 => k_is)
    (case l0 => k_is)
    (case c0 => k_is)
    (case k0 => k_is)
    (case a1 => k_is)
    (case l1 => k_is)
    (case c1 => k_is)
    (case k1 => k_is)
    (case a2 => k_is)
    (case l2 => k_is)
    (case c2 => k_is)
    (case k2 => k_is)
    (case a3 => k_is)
    (case l3 => k_is)
    (case c3 => k_is)
    (case k3 => k_is)
    (case a4 => k_is)
    (case l4 => k_is)
    (case c4 => k_is)
    (case k4 => k_is)
    (case a5 => k_is)
    (case l5 => k_is)
    (case c5 => k_is)
    (case k5 => k_is)
    (case a6 => k_is)
    (case l6 => k_is)
    (case c6 => k_is)
    (case k6 => k_is)
    (case a7 => k_is)
    (case l7 => k_is)
    (case c7 => k_is)
    (case k7 => k_is)
    (case a8 => k_is)
    (case l8 => k_is)
    (case c8 => k_is)
    (case k8 => k_is)
    (case a9 => k_is)
    (case l9 => k_is)
    (case c9 => k_is)
    (case k9 => k_is)
    (case a10 => k_is)
    (case l10 => k_is)
    (case c10 => k_is)
    (case k10 => k_is)
    (case a11 => k_is)
    (case l11 => k_is)
    (case c11 => k_is)
    (case k11 => k_is)
    (case a12 => k_is)
    (case l12 => k_is)
    (case c12 => k_is)
    (case k12 => k_is)
    (case a13 => k_is)
    (case l13 => k_is)
    (case c13 => k_is)
    (case k13 => k_is)
    (case a14 => k_is)
    (case l14 => k_is)
    (case c14 => k_is)
    (case k14 => k_is)
    (case a15 => k_is)
    (case l15 => k_is)
    (case c15 => k_is)
    (case k15 => k_is)
    (case a16 => k_is)
    (case l16 => k_is)
    (case c16 => k_is)
    (case k16 => k_is)
    (case a17 => k_is)
    (case l17 => k_is)
    (case c17 => k_is)
    (case k17 => k_is)
    (case a18 => k_is)
    (case l18 => k_is)
    (case c18 => k_is)
    (case k18 => k_is)
    (case a19 => k_is)
    (case l19 => k_is)
    (case c19 => k_is)
    (case k19 => k_is)
    (case a20 => k_is)
    (case l20 => k_is)
    (case c20 => k_is)
    (case k20 => k_is)
    (case a21 => k_is)
    (case l21 => k_is)
    (case c21 => k_is)
    (case k21 => k_is)
    (case a22 => k_is)
    (case l22 => k_is)
    (case c22 => k_is)
    (case k22 => k_is)
    (case a23 => k_is)
    (case l23 => k_is)
    (case c23 => k_is)
    (case k23 => k_is)
    (case a24 => k_is)
    (case l24 => k_is)
    (case c24 => k_is)
    (case k24 => k_is)
    (case a25 => k_is)
    (case l25 => k_is)
    (case c25 => k_is)
    (case k25 => k_is)
    (case a26 => k_is)
    (case l26 => k_is)
    (case c26 => k_is)
    (case k26 => k_is)
    (case a27 => k_is)
    (case l27 => k_is)
    (case c27 => k_is)
    (case k27 => k_is)
    (case a28 => k_is)
    (case l28 => k_is)
    (case c28 => k_is)
    (case k28 => k_is)
    (case a29 => k_is)
    (case l29 => k_is)
    (case c29 => k_is)
    (case k29 => k_is)
    (case a30 => k_is)
    (case l30 => k_is)
    (case c30 => k_is)
    (case k30 => k_is)
    (case a31 => k_is)
    (case l31 => k_is)
    (case c31 => k_is)
    (case k31 => k_is)
    (case a32 => k_is)
    (case l32 => k_is)
    (case c32 => k_is)
    (case k32 => k_is)
    (case a33 => k_is)
    (case l33 => k_is)
    (case c33 => k_is)
    (case k33 => k_is)
    (case a34 => k_is)
    (case l34 => k_is)
    (case c34 => k_is)
    (case k34 => k_is)
    (case a35 => k_is)
    (case l35 => k_is)
    (case c35 => k_is)
    (case k35 => k_is)
    (case a36 => k_is)
    (case l36 => k_is)
    (case c36 => k_is)
    (case k36 => k_is)
    (case a37 => k_is)
    (case l37 => k_is)
    (case c37 => k_is)
    (case k37 => k_is)
    (case a38 => k_is)
    (case l38 => k_is)
    (case c38 => k_is)
    (case k38 => k_is)
    (case a39 => k_is)
    (case l39 => k_is)
    (case c39 => k_is)
    (case k39 => k_is)
    (case a40 => k_is)
    (case l40 => k_is)
    (case c40 => k_is)
    (case k40 => k_is)
    (case a41 => k_is)
    (case l41 => k_is)
    (case c41 => k_is)
    (case k41 => k_is)
    (case a42 => k_is)
    (case l42 => k_is)
    (case c42 => k_is)
    (case k42 => k_is)
    (case pg => k_is)
    (case hd => k_is)
    (case po => k_is)
    (case sa => k_is)
    (case mk => k_is)
    (case kc => k_is)
    (case n0 => k_is)
    (case n1 => k_is)
    (case n2 => k_is)
    (case n3 => k_is)
    (case q1 => k_is)
    (case q2 => k_is)
    (case q3 => k_is)
    (case q4 => k_is)
    (case w1 => k_is)
    (case z0 => k_is)
    (case z1 => k_is)
    (case z2 => k_is)
    (case z3 => k_is)
    (case z4 => k_is)
    (case z5 => k_is)
    (case z6 => k_is)
    (case z7 => k_is)
    (case z8 => k_is)
    (case z9 => k_is)
    (case z10 => k_is)
    (case z11 => k_is)
    (case z12 => k_is)
    (case z13 => k_is)
    (case z14 => k_is)
    (case z15 => k_is)
    (case y0 => k_is)
    (case y1 => k_is)
    (case y2 => k_is)
