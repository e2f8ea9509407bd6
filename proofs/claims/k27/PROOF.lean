import PyProof.Rows.All
import Wide.All
import OpenK.AllK
import Wide.FinOn
import HandS.ForMost
import HandS.IsInst
import HandS.SortInts
import HandS.Walk
import HandS.Property
import HandS.Style
import HandS.DictTup
import KE.SortData
import KE.KDictWalk
import HandS.OwnEq
import PyProof.InstNe
import PyProof.ListRange
import HandS.Conv
import KE.DataMinMax
import PyProof.Rows.StrStep
import HandS.Deep
import KE.KRevSl
import KE.DatumOrd
import KE.GoesMore
import KE.GoesEnum
import HandS.Iter
import HandS.Set
import HandS.Strs
import PyProof.TupleOfSeq
import HandS.SetFor
import HandS.More
import HandS.DictComp
import HandS.TupSets
import PySem.Challenge.RW_suretexts_k27_whole_rings_are_rounds
set_option Elab.async false
set_option maxRecDepth 100000
set_option linter.all false
namespace My
/-! ### reading round and round -/
def rd (l : List Nat) (p n : Nat) : List Nat := (List.range n).map fun k => l.getD ((p + k) % l.length) 0
theorem rd_len (l : List Nat) (p n : Nat) : (rd l p n).length = n := by simp [rd]
theorem rd_zero (l : List Nat) (p : Nat) : rd l p 0 = [] := rfl
theorem rd_succ (l : List Nat) (p n : Nat) : rd l p (n + 1) = rd l p n ++ [l.getD ((p + n) % l.length) 0] := by
  simp [rd, List.range_succ]
theorem rd_get (l : List Nat) (p n k : Nat) (h : k < n) : (rd l p n)[k]? = some (l.getD ((p + k) % l.length) 0) := by
  simp [rd, h]
theorem rd_drop (l : List Nat) (p n k : Nat) : (rd l p n).drop k = rd l (p + k) (n - k) := by
  apply List.ext_getElem?
  intro i
  rw [List.getElem?_drop]
  by_cases h : k + i < n
  · rw [rd_get _ _ _ _ h, rd_get _ _ _ _ (by omega), Nat.add_assoc]
  · rw [List.getElem?_eq_none (by rw [rd_len]; omega), List.getElem?_eq_none (by rw [rd_len]; omega)]
theorem rd_mod (l : List Nat) (p n : Nat) : rd l (p % l.length) n = rd l p n := by
  unfold rd
  apply List.map_congr_left
  intro k _
  rw [Nat.mod_add_mod]
theorem rd_self (l : List Nat) : rd l 0 l.length = l := by
  apply List.ext_getElem?
  intro i
  by_cases h : i < l.length
  · rw [rd_get _ _ _ _ h, Nat.zero_add, Nat.mod_eq_of_lt h, List.getElem?_eq_getElem h, List.getD_eq_getElem?_getD, List.getElem?_eq_getElem h]
    rfl
  · rw [List.getElem?_eq_none (by rw [rd_len]; omega), List.getElem?_eq_none (by omega)]
/-- turned -/
theorem rd_turn (l : List Nat) (p : Nat) (h : p < l.length) : rd l p l.length = l.drop p ++ l.take p := by
  apply List.ext_getElem?
  intro i
  by_cases hi : i < l.length
  · rw [rd_get _ _ _ _ hi]
    by_cases h2 : i < l.length - p
    · rw [List.getElem?_append_left (by rw [List.length_drop]; exact h2), List.getElem?_drop, Nat.mod_eq_of_lt (by omega), List.getElem?_eq_getElem (by omega), List.getD_eq_getElem?_getD, List.getElem?_eq_getElem (by omega)]
      rfl
    · rw [List.getElem?_append_right (by rw [List.length_drop]; omega), List.length_drop, List.getElem?_take_of_lt (by omega)]
      have e : (p + i) % l.length = i - (l.length - p) := by
        rw [Nat.mod_eq_sub_mod (by omega), Nat.mod_eq_of_lt (by omega)]
        omega
      rw [e, List.getElem?_eq_getElem (by omega), List.getD_eq_getElem?_getD, List.getElem?_eq_getElem (by omega)]
      rfl
  · rw [List.getElem?_eq_none (by rw [rd_len]; omega), List.getElem?_eq_none (by rw [List.length_append, List.length_drop, List.length_take]; omega)]
/-- reading from a turned ring -/
theorem rd_turned (l : List Nat) (b p n : Nat) (hl : 0 < l.length) : rd (rd l b l.length) p n = rd l (b + p) n := by
  unfold rd
  apply List.map_congr_left
  intro k _
  have e : ((List.range l.length).map fun k => l.getD ((b + k) % l.length) 0).length = l.length := by simp
  rw [e]
  have h2 : (p + k) % l.length < l.length := Nat.mod_lt _ hl
  rw [List.getD_eq_getElem?_getD, List.getElem?_map, List.getElem?_range h2]
  show l.getD ((b + (p + k) % l.length) % l.length) 0 = _
  rw [Nat.add_mod_mod, Nat.add_assoc]

/-! ### beginnings that are endings -/
def Pre (w t : List Nat) (k : Nat) : Prop := k ≤ w.length ∧ w.take k <:+ t
def Longest (w t : List Nat) (k : Nat) : Prop := Pre w t k ∧ ∀ k', Pre w t k' → k' ≤ k
def IsLB (p : List Nat) (b : Nat) : Prop := b < p.length ∧ p.take b <:+ p ∧ ∀ b', b' < p.length → p.take b' <:+ p → b' ≤ b
def At (w t : List Nat) (c k : Nat) : Prop := Pre w t k ∧ ∀ k', Pre w t k' → w[k']? = some c → k' ≤ k
theorem suff_one {a t : List Nat} {x c : Nat} : a ++ [x] <:+ t ++ [c] ↔ a <:+ t ∧ x = c := by
  constructor
  · rintro ⟨u, hu⟩
    rw [← List.append_assoc] at hu
    have h := List.append_inj' hu rfl
    exact ⟨⟨u, h.1⟩, by simpa using h.2⟩
  · rintro ⟨⟨u, hu⟩, rfl⟩
    exact ⟨u, by rw [← hu, List.append_assoc]⟩
theorem pre_succ {w t : List Nat} {c k : Nat} : Pre w (t ++ [c]) (k + 1) ↔ Pre w t k ∧ w[k]? = some c := by
  unfold Pre
  constructor
  · rintro ⟨h1, h2⟩
    have hk : k < w.length := by omega
    rw [List.take_succ_eq_append_getElem hk, suff_one] at h2
    exact ⟨⟨by omega, h2.1⟩, by rw [List.getElem?_eq_getElem hk, h2.2]⟩
  · rintro ⟨⟨h1, h2⟩, h3⟩
    have hk : k < w.length := by
      rw [List.getElem?_eq_some_iff] at h3
      exact h3.1
    rw [List.take_succ_eq_append_getElem hk, suff_one]
    rw [List.getElem?_eq_getElem hk] at h3
    exact ⟨by omega, h2, Option.some.inj h3⟩
theorem pre_zero (w t : List Nat) : Pre w t 0 := ⟨Nat.zero_le _, by simp⟩
theorem at_start {w t : List Nat} {c k : Nat} (h : Longest w t k) : At w t c k := ⟨h.1, fun k' h' _ => h.2 k' h'⟩
theorem at_fall {w t : List Nat} {c k b : Nat} (h : At w t c k) (hne : w[k]? ≠ some c) (hb : IsLB (w.take k) b) : At w t c b := by
  obtain ⟨h1, h2⟩ := h
  obtain ⟨b1, b2, b3⟩ := hb
  have lk : (w.take k).length = k := by rw [List.length_take]; have := h1.1; omega
  rw [lk] at b1 b3
  have tk : ∀ j, j ≤ k → (w.take k).take j = w.take j := fun j hj => by rw [List.take_take, Nat.min_eq_left hj]
  refine ⟨⟨by have := h1.1; omega, ?_⟩, fun k' p' e' => ?_⟩
  · rw [← tk b (by omega)]
    exact b2.trans h1.2
  · have l1 := h2 k' p' e'
    have l2 : k' ≠ k := by rintro rfl; exact hne e'
    have l3 : k' < k := by omega
    refine b3 k' l3 ?_
    rw [tk k' (by omega)]
    refine List.suffix_of_suffix_length_le p'.2 h1.2 ?_
    rw [List.length_take, List.length_take]
    have := h1.1
    omega
theorem at_hit {w t : List Nat} {c k : Nat} (h : At w t c k) (he : w[k]? = some c) : Longest w (t ++ [c]) (k + 1) := by
  refine ⟨pre_succ.mpr ⟨h.1, he⟩, fun k' p' => ?_⟩
  cases k' with
  | zero => omega
  | succ j =>
    have q := pre_succ.mp p'
    have := h.2 j q.1 q.2
    omega
theorem at_miss {w t : List Nat} {c : Nat} (h : At w t c 0) (he : w[0]? ≠ some c) : Longest w (t ++ [c]) 0 := by
  refine ⟨pre_zero _ _, fun k' p' => ?_⟩
  cases k' with
  | zero => omega
  | succ j =>
    have q := pre_succ.mp p'
    have l := h.2 j q.1 q.2
    have e : j = 0 := by omega
    subst e
    exact absurd q.2 he
theorem longest_nil (w : List Nat) : Longest w [] 0 := by
  refine ⟨pre_zero _ _, fun k' p' => ?_⟩
  have h := List.suffix_nil.mp p'.2
  have h2 : (w.take k').length = 0 := by rw [h]; rfl
  rw [List.length_take] at h2
  have := p'.1
  omega
theorem longest_le {w t : List Nat} {k : Nat} (h : Longest w t k) : k ≤ t.length := by
  have h1 := h.1.2.length_le
  rw [List.length_take] at h1
  have := h.1.1
  omega
/-- the longest beginning that ends the letters behind the first one is the longest border -/
theorem lb_of_longest {w : List Nat} {i k : Nat} (hi : i < w.length) (h : Longest w ((w.drop 1).take i) k) : IsLB (w.take (i + 1)) k := by
  have hk := longest_le h
  have ht : ((w.drop 1).take i).length = i := by rw [List.length_take, List.length_drop]; omega
  rw [ht] at hk
  have hl : (w.take (i + 1)).length = i + 1 := by rw [List.length_take]; omega
  have tk : ∀ j, j ≤ i + 1 → (w.take (i + 1)).take j = w.take j := fun j hj => by rw [List.take_take, Nat.min_eq_left hj]
  obtain ⟨a, r, rfl⟩ : ∃ a r, w = a :: r := by
    cases w with
    | nil => simp at hi
    | cons a r => exact ⟨a, r, rfl⟩
  have e : (a :: r).take (i + 1) = a :: ((a :: r).drop 1).take i := by simp
  refine ⟨by omega, ?_, fun b' hb' hs => ?_⟩
  · rw [tk k (by omega), e]
    exact h.1.2.trans (List.suffix_cons _ _)
  · rw [hl] at hb'
    refine h.2 b' ⟨by omega, ?_⟩
    rw [tk b' (by omega), e, List.suffix_cons_iff] at hs
    rcases hs with hs | hs
    · have hq := congrArg List.length hs
      rw [List.length_take, ← e, hl] at hq
      omega
    · exact hs
theorem lb_one {w : List Nat} (h : 0 < w.length) : IsLB (w.take 1) 0 := lb_of_longest h (by simpa using longest_nil w)
theorem lb_unique {p : List Nat} {a b : Nat} (h1 : IsLB p a) (h2 : IsLB p b) : a = b := by
  have := h1.2.2 b h2.1 h2.2.1
  have := h2.2.2 a h1.1 h1.2.1
  omega
/-- the list of the longest borders -/
def Bords (w : List Nat) (L : List Nat) : Prop := L.length = w.length ∧ ∀ j, j < w.length → ∃ b, L[j]? = some b ∧ IsLB (w.take (j + 1)) b
theorem bords_unique {w A B : List Nat} (h1 : Bords w A) (h2 : Bords w B) : A = B := by
  apply List.ext_getElem?
  intro i
  by_cases h : i < w.length
  · obtain ⟨a, ea, la⟩ := h1.2 i h
    obtain ⟨b, eb, lb⟩ := h2.2 i h
    rw [ea, eb, lb_unique la lb]
  · rw [List.getElem?_eq_none (by rw [h1.1]; omega), List.getElem?_eq_none (by rw [h2.1]; omega)]
/-- some first ones of them -/
def BordsTo (w : List Nat) (n : Nat) (L : List Nat) : Prop := L.length = n ∧ ∀ j, j < n → ∃ b, L[j]? = some b ∧ IsLB (w.take (j + 1)) b
theorem bordsTo_one {w : List Nat} (h : 0 < w.length) : BordsTo w 1 [0] := by
  refine ⟨rfl, fun j hj => ?_⟩
  have e : j = 0 := by omega
  subst e
  exact ⟨0, rfl, lb_one h⟩
theorem bordsTo_succ {w L : List Nat} {i k : Nat} (hi : i < w.length) (hB : BordsTo w i L) (h : Longest w ((w.drop 1).take i) k) : BordsTo w (i + 1) (L ++ [k]) := by
  refine ⟨by rw [List.length_append, hB.1]; rfl, fun j hj => ?_⟩
  by_cases hji : j < i
  · obtain ⟨b, e, l⟩ := hB.2 j hji
    exact ⟨b, by rw [List.getElem?_append_left (by rw [hB.1]; exact hji)]; exact e, l⟩
  · have e : j = i := by omega
    subst e
    refine ⟨k, ?_, lb_of_longest hi h⟩
    rw [List.getElem?_append_right (by rw [hB.1]; omega), hB.1, Nat.sub_self]
    rfl
theorem bordsTo_at {w L : List Nat} {n k : Nat} (hB : BordsTo w n L) (h0 : 0 < k) (hk : k ≤ n) : ∃ b, L[k - 1]? = some b ∧ IsLB (w.take k) b ∧ b < k := by
  obtain ⟨b, e, l⟩ := hB.2 (k - 1) (by omega)
  rw [show k - 1 + 1 = k by omega] at l
  refine ⟨b, e, l, ?_⟩
  have := l.1
  rw [List.length_take] at this
  omega
theorem bords_of {w L : List Nat} : BordsTo w w.length L ↔ Bords w L := Iff.rfl

/-! ### a word begins at a place -/
def due (l w : List Nat) : List Nat := (List.range l.length).filter fun p => rd l p w.length == w
theorem mem_due {l w : List Nat} {p : Nat} : p ∈ due l w ↔ p < l.length ∧ rd l p w.length = w := by
  simp [due]
/-- of the first n letters read -/
def dueTo (l w : List Nat) (n : Nat) : List Nat := (List.range n).filter fun p => rd l p w.length == w
theorem dueTo_all (l w : List Nat) : dueTo l w l.length = due l w := rfl
theorem dueTo_succ_yes {l w : List Nat} {n : Nat} (h : rd l n w.length = w) : dueTo l w (n + 1) = dueTo l w n ++ [n] := by
  simp [dueTo, List.range_succ, List.filter_append, h]
theorem dueTo_succ_no {l w : List Nat} {n : Nat} (h : ¬ rd l n w.length = w) : dueTo l w (n + 1) = dueTo l w n := by
  simp [dueTo, List.range_succ, List.filter_append, h]
/-- the whole word was just read -/
theorem longest_full {l w : List Nat} {n k : Nat} (h : Longest w (rd l 0 n) k) : k = w.length ↔ w.length ≤ n ∧ rd l (n - w.length) w.length = w := by
  have key : w <:+ rd l 0 n ↔ w.length ≤ n ∧ rd l (n - w.length) w.length = w := by
    constructor
    · intro hs
      have hl := hs.length_le
      rw [rd_len] at hl
      refine ⟨hl, ?_⟩
      have e := List.suffix_iff_eq_drop.mp hs
      rw [rd_len, rd_drop, Nat.zero_add, show n - (n - w.length) = w.length by omega] at e
      exact e.symm
    · rintro ⟨hl, e⟩
      rw [List.suffix_iff_eq_drop, rd_len, rd_drop, Nat.zero_add, show n - (n - w.length) = w.length by omega]
      exact e.symm
  rw [← key]
  constructor
  · rintro rfl
    have := h.1.2
    rw [List.take_length] at this
    exact this
  · intro hs
    have h1 := h.1.1
    have h2 := h.2 w.length ⟨Nat.le_refl _, by rw [List.take_length]; exact hs⟩
    omega

/-! ### the period -/
theorem getD_lt {l : List Nat} {i : Nat} (h : i < l.length) : l[i]? = some (l.getD i 0) := by
  rw [List.getD_eq_getElem?_getD, List.getElem?_eq_getElem h]
  rfl
theorem line_period {l : List Nat} {b : Nat} (h : IsLB l b) (i : Nat) (hi : i + (l.length - b) < l.length) : l.getD (i + (l.length - b)) 0 = l.getD i 0 := by
  have hb := h.1
  have e := List.suffix_iff_eq_drop.mp h.2.1
  have hl : (l.take b).length = b := by rw [List.length_take]; omega
  rw [hl] at e
  have e2 := congrArg (fun z : List Nat => z[i]?) e
  simp only [List.getElem?_take, List.getElem?_drop] at e2
  rw [if_pos (by omega)] at e2
  rw [List.getD_eq_getElem?_getD, List.getD_eq_getElem?_getD, e2, Nat.add_comm]
theorem line_mult {l : List Nat} {s : Nat} (h : ∀ i, i + s < l.length → l.getD (i + s) 0 = l.getD i 0) : ∀ (m i : Nat), i + m * s < l.length → l.getD (i + m * s) 0 = l.getD i 0
  | 0, i, _ => by simp
  | m + 1, i, hi => by
    have e : i + (m + 1) * s = (i + m * s) + s := by rw [Nat.succ_mul]; omega
    rw [e] at hi ⊢
    rw [h _ hi]
    exact line_mult h m i (by omega)
theorem round_period {l : List Nat} {s : Nat} (_hs : 0 < s) (hsl : s ≤ l.length) (hd : l.length % s = 0) (h : ∀ i, i + s < l.length → l.getD (i + s) 0 = l.getD i 0) (i : Nat) (hi : i < l.length) : l.getD ((i + s) % l.length) 0 = l.getD i 0 := by
  by_cases hlt : i + s < l.length
  · rw [Nat.mod_eq_of_lt hlt]
    exact h i hlt
  · have e1 : (i + s) % l.length = i + s - l.length := by
      rw [Nat.mod_eq_sub_mod (by omega), Nat.mod_eq_of_lt (by omega)]
    rw [e1]
    obtain ⟨q, hq⟩ : ∃ q, l.length = s * q := ⟨l.length / s, by rw [Nat.mul_div_cancel' (Nat.dvd_of_mod_eq_zero hd)]⟩
    have hq0 : 0 < q := by
      rcases Nat.eq_zero_or_pos q with z | z
      · subst z; omega
      · exact z
    obtain ⟨r, rfl⟩ : ∃ r, q = r + 1 := ⟨q - 1, by omega⟩
    have e2 : l.length = r * s + s := by rw [hq, Nat.mul_succ, Nat.mul_comm]
    have e3 : i = (i + s - l.length) + r * s := by omega
    have := line_mult h r (i + s - l.length) (by omega)
    rw [← e3] at this
    exact this.symm
/-- the told period -/
def per (l : List Nat) (b : Nat) : Nat := if l.length % (l.length - b) = 0 then l.length - b else l.length
theorem per_turns {l : List Nat} {b : Nat} (h : IsLB l b) (i : Nat) (hi : i < l.length) : l.getD ((i + per l b) % l.length) 0 = l.getD i 0 := by
  have hb := h.1
  unfold per
  split
  · exact round_period (by omega) (by omega) (by assumption) (fun j hj => line_period h j hj) i hi
  · rw [Nat.add_mod_right, Nat.mod_eq_of_lt hi]
theorem rd_per {l : List Nat} {b : Nat} (h : IsLB l b) (p n : Nat) : rd l (p + per l b) n = rd l p n := by
  have hb := h.1
  unfold rd
  apply List.map_congr_left
  intro k _
  rw [show p + per l b + k = (p + k) + per l b by omega, ← Nat.mod_add_mod]
  rw [per_turns h ((p + k) % l.length) (Nat.mod_lt _ (by omega))]
theorem per_pos {l : List Nat} {b : Nat} (h : IsLB l b) : 0 < per l b ∧ per l b ≤ l.length := by
  have hb := h.1
  unfold per
  split <;> omega

/-! ### rising lists of the same numbers are one list -/
theorem rising_ext : ∀ {a b : List Int}, a.Pairwise (· < ·) → b.Pairwise (· < ·) → (∀ x, x ∈ a ↔ x ∈ b) → a = b
  | [], [], _, _, _ => rfl
  | [], y :: ys, _, _, h => by have := (h y).mpr (by simp); simp at this
  | x :: xs, [], _, _, h => by have := (h x).mp (by simp); simp at this
  | x :: xs, y :: ys, ha, hb, h => by
    rw [List.pairwise_cons] at ha hb
    have e : x = y := by
      have h1 := (h x).mp (by simp)
      have h2 := (h y).mpr (by simp)
      rw [List.mem_cons] at h1 h2
      rcases h1 with h1 | h1
      · exact h1
      · rcases h2 with h2 | h2
        · exact h2.symm
        · have := ha.1 y h2
          have := hb.1 x h1
          omega
    subst e
    congr 1
    refine rising_ext ha.2 hb.2 fun z => ?_
    constructor
    · intro hz
      have := (h z).mp (List.mem_cons_of_mem _ hz)
      rw [List.mem_cons] at this
      rcases this with rfl | this
      · have := ha.1 _ hz; omega
      · exact this
    · intro hz
      have := (h z).mpr (List.mem_cons_of_mem _ hz)
      rw [List.mem_cons] at this
      rcases this with rfl | this
      · have := hb.1 _ hz; omega
      · exact this
theorem rising_of {s : List Int} (h : s.Pairwise (· ≤ ·)) (n : s.Nodup) : s.Pairwise (· < ·) := by
  have := h.and n
  exact this.imp fun ⟨h1, h2⟩ => by omega
/-- sorted, and the same numbers, none twice: that is it -/
theorem sorted_is {s m d : List Int} (hp : List.Perm s m) (hs : s.Pairwise (· ≤ ·)) (hn : m.Nodup) (hd : d.Pairwise (· < ·)) (h : ∀ x, x ∈ m ↔ x ∈ d) : s = d := by
  refine rising_ext (rising_of hs (hp.nodup_iff.mpr hn)) hd fun x => ?_
  rw [hp.mem_iff]
  exact h x
theorem due_rising (l w : List Nat) : ((due l w).map fun n : Nat => (n : Int)).Pairwise (· < ·) := by
  rw [List.pairwise_map]
  refine List.Pairwise.imp (fun {a b} (h : a < b) => by omega) ?_
  exact List.Pairwise.filter _ List.pairwise_lt_range
end My
namespace My
/-! ### turnings in their order -/
def rot (l : List Nat) (p : Nat) : List Nat := rd l p l.length
theorem rot_len (l : List Nat) (p : Nat) : (rot l p).length = l.length := rd_len _ _ _
def gt (l : List Nat) (i : Nat) : Nat := l.getD (i % l.length) 0
theorem rd_gt (l : List Nat) (p n : Nat) : rd l p n = (List.range n).map fun k => gt l (p + k) := rfl
theorem rd_split (l : List Nat) (p a b : Nat) : rd l p (a + b) = rd l p a ++ rd l (p + a) b := by
  induction b with
  | zero => simp [rd_zero]
  | succ b ih => rw [← Nat.add_assoc, rd_succ, ih, rd_succ, List.append_assoc, Nat.add_assoc]
theorem rd_cons (l : List Nat) (p n : Nat) : rd l p (n + 1) = gt l p :: rd l (p + 1) n := by
  rw [Nat.add_comm n 1, rd_split]
  rfl
theorem rd_congr {l : List Nat} {p q n : Nat} (h : ∀ j, j < n → gt l (p + j) = gt l (q + j)) : rd l p n = rd l q n := by
  rw [rd_gt, rd_gt]
  apply List.map_congr_left
  intro k hk
  exact h k (List.mem_range.mp hk)
theorem gt_congr {l : List Nat} {p q n : Nat} (h : rd l p n = rd l q n) (j : Nat) (hj : j < n) : gt l (p + j) = gt l (q + j) := by
  have e := congrArg (fun z : List Nat => z[j]?) h
  simp only [rd_get _ _ _ _ hj] at e
  exact Option.some.inj e
theorem lt_append {a x y : List Nat} (h : x < y) : a ++ x < a ++ y := by
  induction a with
  | nil => exact h
  | cons c r ih =>
    rw [List.cons_append, List.cons_append, List.cons_lt_cons_iff]
    exact .inr ⟨rfl, ih⟩
/-- alike for k letters, then less: less -/
theorem rot_lt {l : List Nat} {p q k : Nat} (hk : k < l.length) (h : ∀ j, j < k → gt l (p + j) = gt l (q + j)) (hl : gt l (p + k) < gt l (q + k)) : rot l p < rot l q := by
  unfold rot
  rw [show l.length = k + ((l.length - k - 1) + 1) by omega, rd_split l p, rd_split l q, rd_congr h]
  apply lt_append
  rw [rd_cons, rd_cons, List.cons_lt_cons_iff]
  exact .inl hl
def Bad (l : List Nat) (p : Nat) : Prop := ∃ q, rot l q < rot l p
def Opt (l : List Nat) (p : Nat) : Prop := ∀ q, ¬ rot l q < rot l p
theorem opt_bad {l : List Nat} {p : Nat} (h : Opt l p) (b : Bad l p) : False := by
  obtain ⟨q, hq⟩ := b
  exact h q hq
theorem rot_mod (l : List Nat) (p : Nat) : rot l (p % l.length) = rot l p := rd_mod _ _ _
/-- there is a least one -/
theorem opt_ex {l : List Nat} (h0 : 0 < l.length) : ∃ p, p < l.length ∧ Opt l p := by
  have key : ∀ n, 0 < n → ∃ p, p < n ∧ ∀ q, q < n → ¬ rot l q < rot l p := by
    intro n
    induction n with
    | zero => intro h; omega
    | succ n ih =>
      intro _
      rcases Nat.eq_zero_or_pos n with z | z
      · subst z
        refine ⟨0, by omega, fun q hq => ?_⟩
        have e : q = 0 := by omega
        subst e
        exact List.lt_irrefl _
      · obtain ⟨p, hp, hm⟩ := ih z
        by_cases c : rot l n < rot l p
        · refine ⟨n, by omega, fun q hq hlt => ?_⟩
          by_cases e : q = n
          · subst e; exact List.lt_irrefl _ hlt
          · exact hm q (by omega) (List.lt_trans hlt c)
        · refine ⟨p, by omega, fun q hq => ?_⟩
          by_cases e : q = n
          · subst e; exact c
          · exact hm q (by omega)
  obtain ⟨p, hp, hm⟩ := key l.length h0
  refine ⟨p, hp, fun q => ?_⟩
  rw [← rot_mod l q]
  exact hm _ (Nat.mod_lt _ h0)
structure Two (l : List Nat) (one two alike : Nat) : Prop where
  ne : one ≠ two
  in_ : one < l.length ∨ two < l.length
  same : ∀ j, j < alike → gt l (one + j) = gt l (two + j)
  bad : ∀ p, p < max one two → p ≠ one → p ≠ two → Bad l p
  b1 : one ≤ 2 * l.length
  b2 : two ≤ 2 * l.length + 1
  b3 : alike ≤ l.length
theorem two_start {l : List Nat} (h : 0 < l.length) : Two l 0 1 0 := by
  refine ⟨by omega, .inl h, fun j hj => by omega, fun p hp h0 h1 => ?_, by omega, by omega, by omega⟩
  have : max 0 1 = 1 := rfl
  omega
theorem two_alike {l : List Nat} {one two alike : Nat} (h : Two l one two alike) (ha : alike < l.length) (e : gt l (one + alike) = gt l (two + alike)) : Two l one two (alike + 1) := by
  refine ⟨h.ne, h.in_, fun j hj => ?_, h.bad, h.b1, h.b2, by omega⟩
  by_cases c : j = alike
  · subst c; exact e
  · exact h.same j (by omega)
theorem bad_run {l : List Nat} {a b alike : Nat} (ha : alike < l.length) (hs : ∀ j, j < alike → gt l (a + j) = gt l (b + j)) (hg : gt l (b + alike) < gt l (a + alike)) {p : Nat} (h1 : a ≤ p) (h2 : p ≤ a + alike) : Bad l p := by
  refine ⟨b + (p - a), rot_lt (k := alike - (p - a)) (by omega) (fun j hj => ?_) ?_⟩
  · have := hs (p - a + j) (by omega)
    rw [show b + (p - a) + j = b + (p - a + j) by omega, show p + j = a + (p - a + j) by omega]
    exact this.symm
  · rw [show b + (p - a) + (alike - (p - a)) = b + alike by omega, show p + (alike - (p - a)) = a + alike by omega]
    exact hg
theorem two_one {l : List Nat} {one two alike : Nat} (h : Two l one two alike) (h1 : one < l.length) (h2 : two < l.length) (ha : alike < l.length) (hg : gt l (two + alike) < gt l (one + alike)) :
    Two l (one + alike + 1) (if one + alike + 1 = two then two + 1 else two) 0 := by
  have run := fun p => bad_run (p := p) ha h.same hg
  have old := h.bad
  by_cases c : one + alike + 1 = two
  · rw [if_pos c]
    refine ⟨by omega, .inl (by omega), fun j hj => by omega, fun p hp n1 n2 => ?_, by omega, by omega, by omega⟩
    by_cases p1 : p < one
    · exact old p (by omega) (by omega) (by omega)
    · exact run p (by omega) (by omega)
  · rw [if_neg c]
    refine ⟨by omega, .inr h2, fun j hj => by omega, fun p hp n1 n2 => ?_, by omega, by omega, by omega⟩
    by_cases p1 : p < one
    · exact old p (by omega) (by omega) (by omega)
    · by_cases p2 : p ≤ one + alike
      · exact run p (by omega) p2
      · exact old p (by omega) (by omega) n2
theorem two_two {l : List Nat} {one two alike : Nat} (h : Two l one two alike) (h1 : one < l.length) (h2 : two < l.length) (ha : alike < l.length) (hg : gt l (one + alike) < gt l (two + alike)) :
    Two l one (if one = two + alike + 1 then two + alike + 1 + 1 else two + alike + 1) 0 := by
  have run := fun p => bad_run (p := p) ha (fun j hj => (h.same j hj).symm) hg
  have old := h.bad
  by_cases c : one = two + alike + 1
  · rw [if_pos c]
    refine ⟨by omega, .inl h1, fun j hj => by omega, fun p hp n1 n2 => ?_, by omega, by omega, by omega⟩
    by_cases p1 : p < two
    · exact old p (by omega) (by omega) (by omega)
    · exact run p (by omega) (by omega)
  · rw [if_neg c]
    refine ⟨by omega, .inl h1, fun j hj => by omega, fun p hp n1 n2 => ?_, by omega, by omega, by omega⟩
    by_cases p1 : p < two
    · exact old p (by omega) (by omega) (by omega)
    · by_cases p2 : p ≤ two + alike
      · exact run p (by omega) p2
      · exact old p (by omega) n1 (by omega)
theorem rot_shift {l : List Nat} {a b : Nat} (h0 : 0 < l.length) (h : rot l a = rot l b) (i : Nat) : rot l (a + i) = rot l (b + i) := by
  unfold rot at *
  refine rd_congr fun j _ => ?_
  have := gt_congr h ((i + j) % l.length) (Nat.mod_lt _ h0)
  unfold gt at *
  rw [Nat.add_mod_mod, Nat.add_mod_mod] at this
  rw [Nat.add_assoc, Nat.add_assoc]
  exact this
theorem two_end {l : List Nat} {one two alike : Nat} (h0 : 0 < l.length) (h : Two l one two alike) (e : ¬ (one < l.length ∧ two < l.length ∧ alike < l.length)) : min one two < l.length ∧ Opt l (min one two) := by
  obtain ⟨p, hp, ho⟩ := opt_ex h0
  have hne := h.ne
  by_cases c1 : one < l.length
  · by_cases c2 : two < l.length
    · have e3 : rot l one = rot l two := rd_congr fun j hj => h.same j (by omega)
      refine ⟨by omega, ?_⟩
      have both : rot l (min one two) = rot l (max one two) := by
        rcases Nat.lt_or_ge one two with z | z
        · rw [Nat.min_eq_left (by omega), Nat.max_eq_right (by omega)]; exact e3
        · rw [Nat.min_eq_right (by omega), Nat.max_eq_left (by omega)]; exact e3.symm
      have lo_opt : ∀ p, Opt l p → Opt l (min one two) := by
        intro p
        induction p using Nat.strongRecOn with
        | _ p ih =>
          intro ho
          by_cases q1 : p = min one two
          · rw [← q1]; exact ho
          by_cases q2 : p = max one two
          · unfold Opt
            rw [both, ← q2]
            exact ho
          by_cases q3 : p < max one two
          · exact (opt_bad ho (h.bad p q3 (by omega) (by omega))).elim
          · have hs := rot_shift h0 both (p - max one two)
            rw [show max one two + (p - max one two) = p by omega] at hs
            refine ih (min one two + (p - max one two)) (by omega) ?_
            unfold Opt
            rw [hs]
            exact ho
      exact lo_opt p ho
    · have ep : p = one := by
        by_cases q : p = one
        · exact q
        · exact (opt_bad ho (h.bad p (by omega) q (by omega))).elim
      rw [Nat.min_eq_left (by omega), ← ep]
      exact ⟨hp, ho⟩
  · have c2 : two < l.length := by rcases h.in_ with z | z <;> omega
    have ep : p = two := by
      by_cases q : p = two
      · exact q
      · exact (opt_bad ho (h.bad p (by omega) (by omega) q)).elim
    rw [Nat.min_eq_right (by omega), ← ep]
    exact ⟨hp, ho⟩
/-! ### the normal -/
def IsLeast (l m : List Nat) : Prop := ∃ p, p < l.length ∧ m = rot l p ∧ Opt l p
theorem least_unique {l a b : List Nat} (h1 : IsLeast l a) (h2 : IsLeast l b) : a = b := by
  obtain ⟨p, _, rfl, ho⟩ := h1
  obtain ⟨q, _, rfl, hq⟩ := h2
  exact List.le_antisymm (List.not_lt.mp (ho q)) (List.not_lt.mp (hq p))
theorem rot_rot (l : List Nat) (b p : Nat) (h0 : 0 < l.length) : rot (rot l b) p = rot l (b + p) := by
  unfold rot
  rw [rd_len]
  exact rd_turned l b p l.length h0
theorem least_rot {l m : List Nat} {b : Nat} (h0 : 0 < l.length) (h : IsLeast (rot l b) m) : IsLeast l m := by
  obtain ⟨p, hp, rfl, ho⟩ := h
  rw [rot_rot _ _ _ h0]
  refine ⟨(b + p) % l.length, Nat.mod_lt _ h0, (rot_mod _ _).symm, fun q hq => ?_⟩
  rw [rot_mod] at hq
  refine ho (q + (l.length - b % l.length)) ?_
  rw [rot_rot _ _ _ h0, rot_rot _ _ _ h0]
  have e : rot l (b + (q + (l.length - b % l.length))) = rot l q := by
    rw [← rot_mod]
    have h1 := Nat.div_add_mod b l.length
    have h2 : b % l.length < l.length := Nat.mod_lt _ h0
    have e : b + (q + (l.length - b % l.length)) = q + l.length * (b / l.length + 1) := by
      rw [Nat.mul_succ]
      omega
    rw [e, Nat.add_mul_mod_self_left, rot_mod]
  rw [e]
  exact hq
/-- one ring is the other one turned exactly if they have one normal -/
theorem alike_iff {l o a b : List Nat} (h0 : 0 < l.length) (h1 : 0 < o.length) (ha : IsLeast l a) (hb : IsLeast o b) : a = b ↔ ∃ p, p < l.length ∧ o = rot l p := by
  constructor
  · rintro rfl
    obtain ⟨p, _, e1, _⟩ := ha
    obtain ⟨q, hq, e2, _⟩ := hb
    have en : o.length = l.length := by
      have e3 := congrArg List.length e1
      have e4 := congrArg List.length e2
      rw [rot_len] at e3 e4
      omega
    have e5 : rot a (o.length - q) = o := by
      rw [e2, rot_rot _ _ _ h1, show q + (o.length - q) = o.length by omega, ← rot_mod, Nat.mod_self]
      exact rd_self o
    rw [e1, rot_rot _ _ _ h0] at e5
    exact ⟨(p + (o.length - q)) % l.length, Nat.mod_lt _ h0, by rw [rot_mod]; exact e5.symm⟩
  · rintro ⟨p, _, rfl⟩
    exact least_unique ha (least_rot h0 hb)
/-! ### the period is the least -/
theorem rot_zero (l : List Nat) : rot l 0 = l := rd_self l
theorem per_cyc {l : List Nat} {d : Nat} (h0 : 0 < l.length) (h : rot l d = l) (q : Nat) : gt l (q + d) = gt l q := by
  have h2 : rot l d = rot l 0 := by rw [h, rot_zero]
  have h3 := rot_shift h0 h2 q
  have := gt_congr h3 0 (by omega)
  rw [Nat.zero_add, Nat.add_comm d q] at this
  exact this
theorem per_mult {l : List Nat} {d : Nat} (h0 : 0 < l.length) (h : rot l d = l) : ∀ (k q : Nat), gt l (q + k * d) = gt l q
  | 0, q => by simp
  | k + 1, q => by
    rw [Nat.succ_mul, ← Nat.add_assoc, per_cyc h0 h]
    exact per_mult h0 h k q
theorem cyc_rot {l : List Nat} {d : Nat} (h : ∀ q, q < l.length → gt l (q + d) = gt l q) : rot l d = l := by
  have e : rd l d l.length = rd l 0 l.length := rd_congr fun j hj => by rw [Nat.zero_add, Nat.add_comm]; exact h j hj
  unfold rot
  rw [e, rd_self]
theorem least_per {l : List Nat} (h0 : 0 < l.length) : ∃ d, 0 < d ∧ d ≤ l.length ∧ rot l d = l ∧ ∀ p, 0 < p → p < d → rot l p ≠ l := by
  have key : ∀ n, 0 < n → rot l n = l → ∃ d, 0 < d ∧ d ≤ n ∧ rot l d = l ∧ ∀ p, 0 < p → p < d → rot l p ≠ l := by
    intro n
    induction n using Nat.strongRecOn with
    | _ n ih =>
      intro hn hr
      by_cases c : ∃ p, 0 < p ∧ p < n ∧ rot l p = l
      · obtain ⟨p, p0, pn, pr⟩ := c
        obtain ⟨d, d0, dn, dr, dm⟩ := ih p pn p0 pr
        exact ⟨d, d0, by omega, dr, dm⟩
      · exact ⟨n, hn, Nat.le_refl _, hr, fun p p0 pn pr => c ⟨p, p0, pn, pr⟩⟩
  exact key l.length h0 (by rw [← rot_mod, Nat.mod_self, rot_zero])
theorem per_divides {l : List Nat} {d : Nat} (h0 : 0 < l.length) (d0 : 0 < d) (hr : rot l d = l) (hm : ∀ p, 0 < p → p < d → rot l p ≠ l) : l.length % d = 0 := by
  by_cases c : l.length % d = 0
  · exact c
  · exfalso
    have hlt : l.length % d < d := Nat.mod_lt _ d0
    refine hm (l.length % d) (by omega) hlt (cyc_rot fun q _ => ?_)
    have e := Nat.div_add_mod l.length d
    have h1 := per_mult h0 hr (l.length / d) (q + l.length % d)
    rw [← h1, show q + l.length % d + l.length / d * d = q + l.length by rw [Nat.mul_comm (l.length / d) d]; omega]
    unfold gt
    rw [Nat.add_mod_right]
theorem gt_lt {l : List Nat} {i : Nat} (h : i < l.length) : gt l i = l.getD i 0 := by
  unfold gt
  rw [Nat.mod_eq_of_lt h]
theorem per_is {l : List Nat} {b d : Nat} (h : IsLB l b) (d0 : 0 < d) (dn : d ≤ l.length) (hr : rot l d = l) (hm : ∀ p, 0 < p → p < d → rot l p ≠ l) : per l b = d := by
  have hb := h.1
  have h0 : 0 < l.length := by omega
  have sd : l.length - b ≤ d := by
    by_cases c : d = l.length
    · omega
    · have e : rd l d l.length = l := hr
      rw [rd_turn l d (by omega)] at e
      have e2 : l.take (l.length - d) = l.drop d := by
        have := congrArg (List.take (l.length - d)) e
        rw [List.take_append_of_le_length (by rw [List.length_drop]; omega), List.take_of_length_le (by rw [List.length_drop]; omega)] at this
        exact this.symm
      have hs : l.take (l.length - d) <:+ l := by
        rw [e2]
        exact List.drop_suffix _ _
      have := h.2.2 (l.length - d) (by omega) hs
      omega
  have back : (∀ q, q < l.length → gt l (q + (l.length - b)) = gt l q) → d ≤ l.length - b := fun hc => by
    by_cases c : d ≤ l.length - b
    · exact c
    · exact absurd (cyc_rot hc) (hm _ (by omega) (by omega))
  have hline := line_period h
  unfold per
  split
  · rename_i c
    have := back fun q hq => by
      unfold gt
      rw [Nat.mod_eq_of_lt hq]
      exact round_period (by omega) (by omega) c hline q hq
    omega
  · rename_i c
    by_cases cd : d = l.length
    · exact cd.symm
    · exfalso
      have dd := per_divides h0 d0 hr hm
      have d2 : d + d ≤ l.length := by
        have e := Nat.div_add_mod l.length d
        rw [dd, Nat.add_zero] at e
        have q2 : 2 ≤ l.length / d := by
          rcases Nat.lt_or_ge (l.length / d) 2 with z | z
          · exfalso
            have : l.length / d = 0 ∨ l.length / d = 1 := by
              generalize l.length / d = x at z ⊢
              omega
            rcases this with z | z <;> rw [z] at e <;> omega
          · exact z
        have := Nat.mul_le_mul_left d q2
        omega
      have hcyc : ∀ q, q < l.length → gt l (q + (l.length - b)) = gt l q := fun q hq => by
        by_cases c1 : q + (l.length - b) < l.length
        · rw [gt_lt c1, gt_lt hq]
          exact hline q c1
        · have e1 : gt l q = gt l (q - d) := by
            have := per_cyc h0 hr (q - d)
            rw [show q - d + d = q by omega] at this
            exact this
          have e2 : gt l (q - d + (l.length - b)) = gt l (q - d) := by
            rw [gt_lt (by omega), gt_lt (by omega)]
            exact hline (q - d) (by omega)
          have e3 := per_cyc h0 hr (q - d + (l.length - b))
          rw [show q - d + (l.length - b) + d = q + (l.length - b) by omega] at e3
          rw [e3, e2, e1]
      have := back hcyc
      have e : d = l.length - b := by omega
      rw [← e] at c
      exact c dd
theorem per_facts {l : List Nat} {b : Nat} (h : IsLB l b) : 0 < per l b ∧ per l b ≤ l.length ∧ rot l (per l b) = l ∧ (∀ p, 0 < p → p < per l b → rot l p ≠ l) ∧ l.length % per l b = 0 := by
  have h0 : 0 < l.length := by have := h.1; omega
  obtain ⟨d, d0, dn, dr, dm⟩ := least_per h0
  rw [per_is h d0 dn dr dm]
  exact ⟨d0, dn, dr, dm, per_divides h0 d0 dr dm⟩
/-- as many unlike turnings as the period -/
theorem rot_per {l : List Nat} {d : Nat} (h0 : 0 < l.length) (_d0 : 0 < d) (h : rot l d = l) (p : Nat) : rot l p = rot l (p % d) := by
  unfold rot
  refine rd_congr fun j _ => ?_
  have e := Nat.div_add_mod p d
  have := per_mult h0 h (p / d) (p % d + j)
  rw [← this, show p % d + j + p / d * d = p + j by rw [Nat.mul_comm (p / d) d]; omega]
theorem rot_unlike {l : List Nat} {d : Nat} (h0 : 0 < l.length) (dn : d ≤ l.length) (hm : ∀ p, 0 < p → p < d → rot l p ≠ l) {p q : Nat} (hp : p < q) (hq : q < d) : rot l p ≠ rot l q := by
  intro e
  have h1 := rot_shift h0 e (l.length - p)
  rw [show p + (l.length - p) = l.length by omega, ← rot_mod, Nat.mod_self, rot_zero, ← rot_mod, show q + (l.length - p) = (q - p) + l.length by omega, Nat.add_mod_right, rot_mod] at h1
  exact hm (q - p) (by omega) (by omega) h1.symm
/-- the root again and again -/
theorem root_again {l : List Nat} {d : Nat} (h0 : 0 < l.length) (h : rot l d = l) : ∀ k, k * d ≤ l.length → (List.replicate k (l.take d)).flatten = l.take (k * d)
  | 0, _ => by simp
  | k + 1, hk => by
    rw [Nat.succ_mul] at hk
    rw [List.replicate_succ', List.flatten_append, root_again h0 h k (by omega), List.flatten_singleton, Nat.succ_mul, List.take_add]
    congr 1
    apply List.ext_getElem?
    intro i
    by_cases hi : i < d
    · rw [List.getElem?_take_of_lt hi, List.getElem?_take_of_lt hi, List.getElem?_drop, getD_lt (by omega), getD_lt (by omega)]
      have := per_mult h0 h k i
      rw [gt_lt (by omega), gt_lt (by omega)] at this
      rw [Nat.add_comm (k * d) i, this]
    · rw [List.getElem?_eq_none (by rw [List.length_take]; omega), List.getElem?_eq_none (by rw [List.length_take, List.length_drop]; omega)]
end My
namespace My
open PySem L2 PyProof.Rows
/-- a text by its letters -/
abbrev T (l : List Nat) : V := .str ⟨l.toArray⟩
section
variable {X : Cx}
theorem mul_flat (l : List Nat) (n : Nat) : ((List.replicate n l.toArray).foldl (· ++ ·) (#[] : Array Nat)) = (List.replicate n l).flatten.toArray := by
  have h : ∀ (m : Nat) (acc : List Nat), (List.replicate m l.toArray).foldl (· ++ ·) acc.toArray = (acc ++ (List.replicate m l).flatten).toArray := by
    intro m
    induction m with
    | zero => intro acc; simp
    | succ m ih =>
      intro acc
      rw [List.replicate_succ, List.foldl_cons]
      have e : acc.toArray ++ l.toArray = (acc ++ l).toArray := by simp
      rw [e, ih, List.replicate_succ, List.flatten_cons, List.append_assoc]
  have := h n []
  simpa using this
theorem op_mul_str : OpR X (binaryOp .Mult) (fun x y H Q => ∃ l n, x = T l ∧ y = .int (n : Nat) ∧ 1 ≤ n ∧ n ≤ 1000 ∧ l.length ≤ 1000 ∧ Q (T (List.replicate n l).flatten) H) := by
  intro pins s σ H x y v u Q I rx ry h
  obtain ⟨l, n, rfl, rfl, h1, h2, h3, q⟩ := h
  obtain ⟨t, rfl⟩ := rx
  obtain ⟨t', rfl⟩ := ry
  have hlen : (⟨l.toArray⟩ : Str).length = l.length := by simp [Str.length]
  have ok : MulOk ⟨l.toArray⟩ (n : Int) := by
    refine ⟨?_, fun _ _ => ?_, fun _ _ => ?_⟩
    · have a1 : decide ((n : Int) < -(2 ^ 63 : Int)) = false := decide_eq_false (by omega)
      have a2 : decide ((n : Int) ≥ 2 ^ 63) = false := decide_eq_false (by omega)
      rw [a1, a2]
      rfl
    · rw [hlen]
      have : (1000000 : Int) ≤ (2 ^ 63 - 1) / (n : Int) := by
        rw [Int.le_ediv_iff_mul_le (by omega)]
        omega
      omega
    · rw [hlen]
      have e : (n : Int).toNat = n := by omega
      rw [e]
      have : l.length * n ≤ 1000 * 1000 := Nat.mul_le_mul h3 h2
      have z : (1000000 : Nat) ≤ sizeLine := by decide
      simp [Builtin.Str.tooLong]
      omega
  refine SB.mul ok fun t'' k => ?_
  have em : Txt.mul ⟨l.toArray⟩ (n : Int) = ⟨(List.replicate n l).flatten.toArray⟩ := by
    unfold Txt.mul
    rw [if_neg (by omega)]
    split
    · rename_i c
      rw [hlen] at c
      simp at c
      rcases c with c | c
      · have : n = 1 := by omega
        subst this
        simp
      · subst c
        simp
    · have e : (n : Int).toNat = n := by omega
      rw [e]
      exact congrArg Str.mk (mul_flat l n)
  rw [em]
  exact ⟨.str _, H, I.tok _, ⟨_, rfl⟩, q⟩
theorem call_repr_bl : CallR X (.builtin "repr") (fun xs H Q => ∃ b, xs = [.bl b] ∧ Q (.str (if b then "True" else "False")) H) := by
  intro pins s σ H xs us Q I r h
  obtain ⟨b, rfl, q⟩ := h
  obtain ⟨u, rfl, e⟩ := vals1 r
  cases e
  exact PySem.P.repr_of_bool ⟨.str _, H, I.tok _, ⟨_, rfl⟩, q⟩
/-- a module's constant that is an int -/
theorem pe_globI {x : Str} {n : Int} {pos : Pos} (h : ∃ t, X.mg x = some (.int n t)) (hg : Gl X x := by rfl) (hd : (x == ("__debug__" : Str)) = false := by decide) : PE X (.Name x pos) (tC (.int n)) := by
  obtain ⟨t, e⟩ := h
  exact pe_glob (v := .int n) hg e ⟨t, rfl⟩ hd
variable {CX : CXT} {k : Nat} {f : Addr} {fd : FuncData} {ps ks : List Str} {sp : Sp} {E : XK} {x : Str} {p pos : Pos} {kws : List Keyword} {tk : TA} {g : List Value → List Value → List Value} {gV : List V → List V → List V}
/-- f(a=.., b=..) -/
theorem pe_callKK (F : FnOk X.prog X.w X.K X.mg X.base CX k f fd ps sp) (hr : Room k X.A) (hg : Gl X x) (hm : X.mg x = some (.ref f)) (hk : PySem.W.keepIn X.K (.ref f) = true) (hb : KBinds X.K fd ps ks g gV) (hx : Passes CX X E)
    (hkw : PK X kws tk) (hall : (backToKw pos (keywordEach kws X.env)).all (·.1.isSome) = true := by rfl) (hks : (backToKw pos (keywordEach kws X.env)).filterMap (·.1) = ks := by rfl)
    (hdb : (x == ("__debug__" : Str)) = false := by decide)
    (hpl : ((backTo pos (starEach [] X.env)).any (·.1) || (backToKw pos (keywordEach kws X.env)).any (·.1.isNone)) = false := by rfl) :
    PE X (.Call (.Name x p) [] kws pos) (tCallK sp gV E tNil tk) := by
  refine ⟨fun pins s σ H Q I h => ?_⟩
  refine wpAny_Call_Name_kw (ld_glob I hg hm ?_ hdb)
  refine PySem.W.callWith_KW0 (h₀ := X.base) I.ok.mod.kin hk hall (thn (hkw.run pos pins s σ H _ I h) fun ws s2 ⟨zs, H2, I2, rz, q2⟩ => ⟨I2.kIn, ?_⟩) hpl
  rw [hks]
  exact run_fnk F hr hb hx I2 .nil rz q2
end
/-! ### a def that stands, and one that keeps a promise -/
def Def (K : PySem.W.Frag) (mg : Str → Option Value) (x : Str) (st : Stmt) (ps : List Str) : Prop := ∃ (f : Addr) (fd : FuncData), Fun K x x st f fd ∧ mg x = some (.ref f) ∧ Binds K fd ps []
section
variable {P : Program} {w : World} {K : PySem.W.Frag} {mg : Str → Option Value} {base : Heap}
def Good (P : Program) (w : World) (K : PySem.W.Frag) (mg : Str → Option Value) (base : Heap) (x : Str) (st : Stmt) (ps : List Str) (k : Nat) (sp : Sp) : Prop := ∃ (f : Addr) (fd : FuncData), FnOk P w K mg base CX0 k f fd ps sp ∧ mg x = some (.ref f) ∧ PySem.W.keepIn K (.ref f) = true ∧ Binds K fd ps [] ∧ Fun K x x st f fd
theorem Def.good {x : Str} {st : Stmt} {ps : List Str} {k : Nat} {sp : Sp} (D : Def K mg x st ps) (h : ∀ f fd, Fun K x x st f fd → FnOk P w K mg base CX0 k f fd ps sp) : Good P w K mg base x st ps k sp := by
  obtain ⟨f, fd, F, m, b⟩ := D
  exact ⟨f, fd, h f fd F, m, F.kp, b, F⟩
theorem def_mk {h : Heap} (X : K.In h) (G : h.Ns mainGlobals mg) {x : Str} {st : Stmt} {ps : List Str} {f : Addr} {oc : Value} {od an : Option Addr} {osl : Array (Option Value)} {kV doc pm cdv ct : Value} (a : PySem.W.nsIn K mainGlobals x = some (some (.ref f)))
    (l : K.lookup f = some ⟨oc, od, .func (PySem.W.fnOf x x (defArgs st) (defBody st) (defScope st) .none kV doc pm an cdv ct), osl⟩) (c : PySem.W.codeIn K cdv x = true) (k : PySem.W.keepIn K (.ref f) = true)
    (hb : ∀ (kV doc pm : Value) (an : Option Addr) (cdv ct : Value) (us : List Value), us.length = ps.length → bindArgs (PySem.W.fnOf x x (defArgs st) (defBody st) (defScope st) .none kV doc pm an cdv ct) ⟨us, []⟩ = pure (ps.zip us)) : Def K mg x st ps :=
  ⟨f, _, fun_mk l c k, PySem.W.mg_of X G a, (fun_mk l c k).binds hb⟩
theorem fun_kbinds {x qual : Str} {st : Stmt} {f : Addr} {fd : FuncData} {ps ks : List Str} (F : Fun K x qual st f fd) (g : List Value → List Value → List Value) (gV : List V → List V → List V)
    (hrel : ∀ {vs : List V} {us : List Value} {zs : List V} {ws : List Value}, Vals vs us → Vals zs ws → Vals (gV vs zs) (g us ws))
    (h : ∀ (kV doc pm : Value) (an : Option Addr) (cdv ct : Value) (us ws : List Value), (g us ws).length = ps.length → bindArgs (PySem.W.fnOf x qual (defArgs st) (defBody st) (defScope st) .none kV doc pm an cdv ct) ⟨us, ks.zip ws⟩ = pure (ps.zip (g us ws))) : KBinds K fd ps ks g gV := by
  obtain ⟨oc, od, kV, doc, pm, an, cdv, ct, osl, rfl, lk, hcd⟩ := F.ex
  exact ⟨fun s us ws X hl => .of_eq (h kV doc pm an cdv ct us ws hl), hrel⟩
/-- two keywords, in the parameters' order, or turned; one -/
def g12 {α : Type} : List α → List α → List α | [], [a, b] => [a, b] | _, _ => []
def g21 {α : Type} : List α → List α → List α | [], [a, b] => [b, a] | _, _ => []
def g1 {α : Type} : List α → List α → List α | [], [a] => [a] | _, _ => []
theorem g12_inv {α : Type} {us ws : List α} (h : (g12 us ws).length = 2) : us = [] ∧ ∃ a b, ws = [a, b] := by
  match us, ws, h with
  | [], [a, b], _ => exact ⟨rfl, a, b, rfl⟩
  | [], [], h => exact absurd h (by simp [g12, g21, g1])
  | [], [_], h => exact absurd h (by simp [g12])
  | [], _ :: _ :: _ :: _, h => exact absurd h (by simp [g12])
  | _ :: _, _, h => exact absurd h (by simp [g12])
theorem g21_inv {α : Type} {us ws : List α} (h : (g21 us ws).length = 2) : us = [] ∧ ∃ a b, ws = [a, b] := by
  match us, ws, h with
  | [], [a, b], _ => exact ⟨rfl, a, b, rfl⟩
  | [], [], h => exact absurd h (by simp [g12, g21, g1])
  | [], [_], h => exact absurd h (by simp [g21])
  | [], _ :: _ :: _ :: _, h => exact absurd h (by simp [g21])
  | _ :: _, _, h => exact absurd h (by simp [g21])
theorem g1_inv {α : Type} {us ws : List α} (h : (g1 us ws).length = 1) : us = [] ∧ ∃ a, ws = [a] := by
  match us, ws, h with
  | [], [a], _ => exact ⟨rfl, a, rfl⟩
  | [], [], h => exact absurd h (by simp [g12, g21, g1])
  | [], _ :: _ :: _, h => exact absurd h (by simp [g1])
  | _ :: _, _, h => exact absurd h (by simp [g1])
theorem rel12 {vs : List V} {us : List Value} {zs : List V} {ws : List Value} (a : Vals vs us) (b : Vals zs ws) : Vals (g12 vs zs) (g12 us ws) := by
  cases a with
  | nil =>
    cases b with
    | nil => exact .nil
    | cons r b =>
      cases b with
      | nil => exact .nil
      | cons r2 b =>
        cases b with
        | nil => exact .cons r (.cons r2 .nil)
        | cons r3 b => exact .nil
  | cons r a => exact .nil
theorem rel21 {vs : List V} {us : List Value} {zs : List V} {ws : List Value} (a : Vals vs us) (b : Vals zs ws) : Vals (g21 vs zs) (g21 us ws) := by
  cases a with
  | nil =>
    cases b with
    | nil => exact .nil
    | cons r b =>
      cases b with
      | nil => exact .nil
      | cons r2 b =>
        cases b with
        | nil => exact .cons r2 (.cons r .nil)
        | cons r3 b => exact .nil
  | cons r a => exact .nil
theorem rel1 {vs : List V} {us : List Value} {zs : List V} {ws : List Value} (a : Vals vs us) (b : Vals zs ws) : Vals (g1 vs zs) (g1 us ws) := by
  cases a with
  | nil =>
    cases b with
    | nil => exact .nil
    | cons r b =>
      cases b with
      | nil => exact .cons r .nil
      | cons r3 b => exact .nil
  | cons r a => exact .nil
end
end My
namespace My
open PySem L2 PyProof.Rows
/-! ### methods, properties, __init__ of a class at C -/
section
variable {P : Program} {w : World} {K : PySem.W.Frag} {mg : Str → Option Value} {base : Heap} {C : Addr}
def DefM (K : PySem.W.Frag) (C : Addr) (x qual : Str) (st : Stmt) (ps : List Str) : Prop := ∃ (f : Addr) (fd : FuncData), Fun K x qual st f fd ∧ Meth K C x f ∧ Binds K fd ps []
def DefP (K : PySem.W.Frag) (C : Addr) (x qual : Str) (st : Stmt) (ps : List Str) : Prop := ∃ (p f : Addr) (fd : FuncData), Fun K x qual st f fd ∧ PropOf K C x p f ∧ Binds K fd ps []
def DefI (K : PySem.W.Frag) (C : Addr) (x qual : Str) (st : Stmt) (ps : List Str) : Prop := ∃ (f : Addr) (fd : FuncData), Fun K x qual st f fd ∧ Mk K C f ∧ Binds K fd ps []
def GoodM (P : Program) (w : World) (K : PySem.W.Frag) (mg : Str → Option Value) (base : Heap) (C : Addr) (x qual : Str) (st : Stmt) (ps : List Str) (k : Nat) (sp : Sp) : Prop := ∃ (f : Addr) (fd : FuncData), FnOk P w K mg base CX0 k f fd ps sp ∧ Meth K C x f ∧ Binds K fd ps [] ∧ Fun K x qual st f fd
def GoodP (P : Program) (w : World) (K : PySem.W.Frag) (mg : Str → Option Value) (base : Heap) (C : Addr) (x _qual : Str) (_st : Stmt) (ps : List Str) (k : Nat) (sp : Sp) : Prop := ∃ (p f : Addr) (fd : FuncData), FnOk P w K mg base CX0 k f fd ps sp ∧ PropOf K C x p f ∧ Binds K fd ps []
def GoodI (P : Program) (w : World) (K : PySem.W.Frag) (mg : Str → Option Value) (base : Heap) (C : Addr) (x _qual : Str) (_st : Stmt) (ps : List Str) (k : Nat) (sp : Sp) : Prop := ∃ (f : Addr) (fd : FuncData), FnOk P w K mg base CX0 k f fd ps sp ∧ Mk K C f ∧ Binds K fd ps []
theorem DefM.good {x qual : Str} {st : Stmt} {ps : List Str} {k : Nat} {sp : Sp} (D : DefM K C x qual st ps) (h : ∀ f fd, Fun K x qual st f fd → FnOk P w K mg base CX0 k f fd ps sp) : GoodM P w K mg base C x qual st ps k sp := by
  obtain ⟨f, fd, F, m, b⟩ := D
  exact ⟨f, fd, h f fd F, m, b, F⟩
theorem DefP.good {x qual : Str} {st : Stmt} {ps : List Str} {k : Nat} {sp : Sp} (D : DefP K C x qual st ps) (h : ∀ f fd, Fun K x qual st f fd → FnOk P w K mg base CX0 k f fd ps sp) : GoodP P w K mg base C x qual st ps k sp := by
  obtain ⟨p, f, fd, F, m, b⟩ := D
  exact ⟨p, f, fd, h f fd F, m, b⟩
theorem DefI.good {x qual : Str} {st : Stmt} {ps : List Str} {k : Nat} {sp : Sp} (D : DefI K C x qual st ps) (h : ∀ f fd, Fun K x qual st f fd → FnOk P w K mg base CX0 k f fd ps sp) : GoodI P w K mg base C x qual st ps k sp := by
  obtain ⟨f, fd, F, m, b⟩ := D
  exact ⟨f, fd, h f fd F, m, b⟩
end
def g123 {α : Type} : List α → List α → List α | [], [a, b, c] => [a, b, c] | _, _ => []
theorem g123_inv {α : Type} {us ws : List α} (h : (g123 us ws).length = 3) : us = [] ∧ ∃ a b c, ws = [a, b, c] := by
  unfold g123 at h
  split at h
  · exact ⟨rfl, _, _, _, rfl⟩
  · simp at h
theorem rel123 {vs : List V} {us : List Value} {zs : List V} {ws : List Value} (a : Vals vs us) (b : Vals zs ws) : Vals (g123 vs zs) (g123 us ws) := by
  cases a with
  | cons h t => exact .nil
  | nil => cases b with
    | nil => exact .nil
    | cons h1 t => cases t with
      | nil => exact .nil
      | cons h2 t => cases t with
        | nil => exact .nil
        | cons h3 t => cases t with
          | nil => exact .cons h1 (.cons h2 (.cons h3 .nil))
          | cons h4 t => exact .nil
/-- self, then one keyword -/
def gm1 {α : Type} : List α → List α → List α | [a], [b] => [a, b] | _, _ => []
theorem gm1_inv {α : Type} {us ws : List α} (h : (gm1 us ws).length = 2) : ∃ a b, us = [a] ∧ ws = [b] := by
  unfold gm1 at h
  split at h
  · exact ⟨_, _, rfl, rfl⟩
  · simp at h
theorem relm1 {vs : List V} {us : List Value} {zs : List V} {ws : List Value} (a : Vals vs us) (b : Vals zs ws) : Vals (gm1 vs zs) (gm1 us ws) := by
  cases a with
  | nil => exact .nil
  | cons h t => cases t with
    | cons h2 t => exact .nil
    | nil => cases b with
      | nil => exact .nil
      | cons h1 t => cases t with
        | nil => exact .cons h (.cons h1 .nil)
        | cons h2 t => exact .nil
/-! ### a list or a tuple, gone through -/
section
variable {X : Cx}
theorem pi_or {tg e : Expr} {w1 w2 : TI} (h1 : PI X tg e w1) (h2 : PI X tg e w2) : PI X tg e (fun σ H R => w1 σ H R ∨ w2 σ H R) := by
  constructor
  intro pins s σ H R I h
  rcases h with h | h
  · exact h1.run pins s σ H R I h
  · exact h2.run pins s σ H R I h
end
end My
namespace My
open PySem PySem.W L2 L2.DX PyProof.Rows
/-! ### d.items() of a dict by texts, sorted -/
section
variable {X : Cx}
def rItemsK : V → List V → Hp → VK → Prop := fun x xs H Q => ∃ (a : Addr) (kvs : List (Key × V)), x = .ref a ∧ xs = [] ∧ H a = some (.dK kvs) ∧ ∀ p, H p = none → Q (.ref p) (upd H p (itemsO p a))
theorem mt_itemsK : MtR X "dict.items" rItemsK := by
  intro pins s σ H x xs v us Q I rx rxs h
  obtain ⟨d, kvs, rfl, rfl, hd0, q⟩ := h
  cases rx
  cases rxs
  obtain ⟨_, hd, vs, rel, dof⟩ := dk_of I.hok hd0
  obtain ⟨es, ep, raw, _, _⟩ := PySem.Heap.DictOf.raw dof
  exact DT.callItems (es := es) (ep := ep) hd raw ⟨.ref s.heap.objs.size, upd H s.heap.objs.size (itemsO s.heap.objs.size d), I.laid (t' := s.toks) (fun b u e => Heap.get?_push_of_some _ e) (Nat.le_refl _) (itemsO_ok (Heap.get?_push_size _ rfl)), rfl, q _ (I.hok.fresh (Nat.le_refl _))⟩
/-- an entry: a text and a number -/
abbrev entSI (e : Str × Int) : Key × V := (Sum.inr e.1, .int e.2)
abbrev encSI (e : Str × Int) : PyData := .tuple [.str e.1, .int e.2]
theorem kv_at : ∀ {kvs : List (Key × V)} {vs : List (Key × Value)}, KV kvs vs → ∀ {j : Nat} {p : Key × V}, kvs[j]? = some p → ∃ q, vs[j]? = some q ∧ p.1 = q.1 ∧ RelV p.2 q.2
  | _, _, .nil, _, _, h => by simp at h
  | _, _, .cons r _, 0, _, h => by
    cases h
    exact ⟨_, rfl, r⟩
  | _, _, .cons _ t, j + 1, p, h => by
    obtain ⟨q, h1, h2⟩ := kv_at t (j := j) (by simpa using h)
    exact ⟨q, by simpa using h1, h2⟩
theorem eachIs_of {α β : Type} {R : α → β → Prop} : ∀ {as : List α} {bs : List β}, as.length = bs.length → (∀ (j : Nat) (a : α) (b : β), as[j]? = some a → bs[j]? = some b → R a b) → PySem.W.EachIs R as bs
  | [], [], _, _ => .nil
  | [], _ :: _, h, _ => by simp at h
  | _ :: _, [], h, _ => by simp at h
  | a :: as, b :: bs, h, k => .cons (k 0 a b rfl rfl) (eachIs_of (by simpa using h) fun j x y hx hy => k (j + 1) x y (by simpa using hx) (by simpa using hy))
theorem encSI_alike (kvs : List (Str × Int)) : AllAlike (kvs.map encSI) := by
  intro d hd d' hd'
  obtain ⟨e, _, rfl⟩ := List.mem_map.mp hd
  obtain ⟨e', _, rfl⟩ := List.mem_map.mp hd'
  rfl
theorem encSI_sortable (kvs : List (Str × Int)) : Sortable (kvs.map encSI) := .tuples fun b => ⟨_, _, rfl⟩
theorem eachIs_refs {β : Type} {as : List Addr} {bs : List β} : ∀ {out : List Value} {cs : List β}, PySem.W.EachIs (fun v b => ∃ (j : Nat) (x : Addr), v = Value.ref x ∧ as[j]? = some x ∧ bs[j]? = some b) out cs →
    ∃ ts : List Addr, out = ts.map Value.ref ∧ Paired (fun (x : Addr) (b : β) => ∃ j : Nat, as[j]? = some x ∧ bs[j]? = some b) ts cs
  | _, _, .nil => ⟨[], rfl, .nil⟩
  | _, _, .cons h t => by
    obtain ⟨j, x, rfl, h1, h2⟩ := h
    obtain ⟨ts, rfl, hp⟩ := eachIs_refs t
    exact ⟨x :: ts, rfl, .cons ⟨j, h1, h2⟩ hp⟩
theorem paired_imp {α β : Type} {F G : α → β → Prop} (h : ∀ a b, F a b → G a b) : ∀ {l1 : List α} {l2 : List β}, Paired F l1 l2 → Paired G l1 l2
  | _, _, .nil => .nil
  | _, _, .cons a r => .cons (h _ _ a) (paired_imp h r)
theorem vals_refs : ∀ ts : List Addr, Vals (ts.map V.ref) (ts.map Value.ref)
  | [] => .nil
  | _ :: r => .cons rfl (vals_refs r)
/-- the told list is new, its pairs too -/
def rSortItK : List V → Hp → VK → Prop := fun vs H Q => ∃ (p a : Addr) (kvs : List (Str × Int)), vs = [.ref p] ∧ H p = some (itemsO p a) ∧ H a = some (.dK (kvs.map entSI)) ∧ kvs.length ≤ 100000 ∧
  ∀ (H' : Hp) (l : Addr) (ts : List Addr), (∀ b o, H b = some o → H' b = some o) → H l = none → H' l = some (.lst (ts.map V.ref)) → Paired (fun t (e : Str × Int) => H' t = some (.tup [.str e.1, .int e.2])) ts (kvs.mergeSort (dataLe false encSI)) → Q (.ref l) H'
theorem cr_sortItK (hc : X.calm = true) (hu : X.A.units + 64 < cLine) : CallR X (.builtin "sorted") rSortItK := by
  intro pins s σ H xs us Q I r h
  obtain ⟨p, a, kvs, rfl, hp, ha, hlen, q⟩ := h
  obtain rfl := Vals.ref1 r
  have vw : s.heap.IsItemsView p a := by
    have z : ObjOk X.prog X.w H s.heap p (itemsO p a) := I.hok p _ hp
    exact z.1
  obtain ⟨_, hd, vs, rel, dof⟩ := dk_of I.hok ha
  obtain ⟨es, ep, raw, hsz, hent⟩ := PySem.Heap.DictOf.raw dof
  have l1 : vs.length = kvs.length := by
    have := Paired.length rel
    rw [List.length_map] at this
    exact this.symm
  have small : kvs.length ≤ sizeLine := Nat.le_trans hlen (by decide)
  refine DT.sortedI (es := es) (ep := ep) (I.ok.hd hc) vw raw (by rw [hsz, l1]; exact small) fun h' tk as kpt hlt hl mde => ?_
  have lak : as.length = kvs.length := by rw [hl, hsz, l1]
  have nod : as.Nodup := List.Pairwise.imp (fun h => Nat.ne_of_lt h) mde.rise
  have pr : ∀ (j : Nat) (b : Addr), as[j]? = some b → ∃ (e : Str × Int) (t t' : Tok), kvs[j]? = some e ∧ h'.get? b = some { cls := .type "tuple", data := .seq #[Value.str e.1 t, Value.int e.2 t'] } := fun j b ej => by
    obtain ⟨en, ee, gh⟩ := mde.pairs j b ej
    have hj2 : j < es.size := (Array.getElem?_eq_some_iff.mp ee).1
    have hj3 : j < kvs.length := by rw [← l1, ← hsz]; exact hj2
    obtain ⟨⟨k, v⟩, g1, g2, g3⟩ := kv_at rel (j := j) (p := entSI kvs[j]) (by rw [List.getElem?_map, List.getElem?_eq_getElem hj3]; rfl)
    obtain ⟨m1, m2⟩ := hent j hj2 k v g1
    have e1 : es[j] = en := (Array.getElem?_eq_some_iff.mp ee).2
    rw [e1] at m1 m2
    have g2' : k = Sum.inr kvs[j].1 := g2.symm
    subst g2'
    obtain ⟨t', ev⟩ : ∃ t', v = Value.int kvs[j].2 t' := g3
    rcases keyIs_shape (show keyIs (Sum.inr kvs[j].1) en.key = true from m1) with ⟨i, t, z, _⟩ | ⟨x, t, z, ek⟩
    · cases z
    · have ex : kvs[j].1 = x := Sum.inr.inj z
      refine ⟨kvs[j], t, t', List.getElem?_eq_getElem hj3, ?_⟩
      rw [gh, ek, m2, ev, ex]
  have gl : (h'.push { cls := .type "list", data := .seq (as.map Value.ref).toArray }).get? h'.objs.size = some (seqObj "list" (as.map Value.ref).toArray 0) := Heap.get?_push_size _ rfl
  have far : ∀ b o, h'.get? b = some o → b ≠ h'.objs.size := fun b o e => Nat.ne_of_lt (Heap.lt_size e)
  have kp : ∀ b o, h'.get? b = some o → (h'.push { cls := .type "list", data := .seq (as.map Value.ref).toArray }).get? b = some o := fun b o e => Heap.get?_push_of_some _ e
  generalize h'.push { cls := .type "list", data := .seq (as.map Value.ref).toArray } = h2 at gl kp ⊢
  have at_ : ∀ (j : Nat) (v : Value) (e : Str × Int), (as.map Value.ref)[j]? = some v → kvs[j]? = some e → ∃ b, v = .ref b ∧ as[j]? = some b := fun j v e hv _ => by
    rw [List.getElem?_map] at hv
    cases z : as[j]? with
    | none => rw [z] at hv; cases hv
    | some b => rw [z] at hv; exact ⟨b, (Option.some.inj hv).symm, rfl⟩
  refine list_sort_data (s := { s with heap := h2, toks := tk }) (R := fun v e => ∃ (j : Nat) (x : Addr), v = Value.ref x ∧ as[j]? = some x ∧ kvs[j]? = some e) (enc := encSI) (bs := kvs) gl (eachIs_of (by rw [List.length_map]; exact lak) fun j v e hv ee => ?_) (eachIs_of (by rw [List.length_map]; exact lak) fun j v e hv ee => ?_) (encSI_alike kvs) (encSI_sortable kvs) small (fun b _ => ?_) fun out ho1 ho2 => ?_
  · obtain ⟨b, e1, e2⟩ := at_ j v e hv ee
    exact ⟨j, b, e1, e2, ee⟩
  · obtain ⟨b, rfl, e2⟩ := at_ j v e hv ee
    obtain ⟨e', t, t', g1, g2⟩ := pr j b e2
    rw [ee] at g1
    cases g1
    exact ⟨[] ++ ([] ++ []), .tuple (kp _ _ g2) rfl rfl (.cons (.str _ _) (.cons (.int _ _) .nil)), by simp⟩
  · show X.A.units + 1 + 1 + 1 < cLine
    omega
  obtain ⟨ts, rfl, hts⟩ := eachIs_refs ho2
  show EP X pins σ Q (.ref h'.objs.size) { s with heap := sortedHeap h2 h'.objs.size (as.map Value.ref) (ts.map Value.ref).toArray, toks := tk }
  have kF : ∀ b o, b ≠ h'.objs.size → h2.get? b = some o → (sortedHeap h2 h'.objs.size (as.map Value.ref) (ts.map Value.ref).toArray).get? b = some o := fun b o hb e => (PyProof.Rows.sortedHeap_old hb (Heap.lt_size e)).trans e
  have kS : ∀ b o, s.heap.get? b = some o → (sortedHeap h2 h'.objs.size (as.map Value.ref) (ts.map Value.ref).toArray).get? b = some o := fun b o e => kF b o (far _ _ (kpt b o e)) (kp b o (kpt b o e))
  obtain ⟨eF, heF⟩ := PyProof.Rows.sortedHeap_at (vs := as.map Value.ref) (out := (ts.map Value.ref).toArray) gl
  generalize sortedHeap h2 h'.objs.size (as.map Value.ref) (ts.map Value.ref).toArray = hz at kF kS heF ⊢
  have free0 : H h'.objs.size = none := I.hok.fresh (Nat.le_of_lt hlt)
  have htl : (ts.map V.ref).length ≤ sizeLine := by
    rw [List.length_map] at ho1 ⊢
    rw [ho1]
    exact small
  have I2 : Inv X pins σ (upd H h'.objs.size (.lst (ts.map V.ref))) { s with heap := hz, toks := tk } :=
    (I.kept (t' := tk) kS).take (h' := hz) (t' := tk) (fun b ob _ e => e) (I.fpOk (Nat.le_of_lt hlt) free0) ⟨htl, ts.map Value.ref, eF, vals_refs ts, heF⟩
  obtain ⟨H2, I3, g, qt⟩ := takeT (P := fun b vs => ∃ (j : Nat) (e : Str × Int), as[j]? = some b ∧ kvs[j]? = some e ∧ vs = [.str e.1, .int e.2]) I as _ I2 nod fun b hb => by
    obtain ⟨j, ej⟩ := List.mem_iff_getElem?.mp hb
    obtain ⟨e, t, t', ee, gh⟩ := pr j b ej
    have big : s.heap.objs.size ≤ b := Nat.le_of_lt (mde.above b hb)
    refine ⟨big, by rw [upd_ne (far _ _ gh)]; exact I.hok.fresh big, [.str e.1, .int e.2], ⟨j, e, ej, ee, rfl⟩, fun H3 => ⟨(by show 2 ≤ sizeLine; decide), [Value.str e.1 t, Value.int e.2 t'], .cons ⟨t, rfl⟩ (.cons ⟨t', rfl⟩ .nil), ⟨_, kF _ _ (far _ _ gh) (kp _ _ gh), rfl, 0, rfl⟩⟩⟩
  refine ⟨.ref h'.objs.size, H2, I3, rfl, q H2 h'.objs.size ts (fun b o e => g b o (by rw [upd_ne (ne_of_none e free0)]; exact e)) free0 (g _ _ upd_same) (paired_imp (fun x e hx => ?_) hts)⟩
  obtain ⟨i, i1, i2⟩ := hx
  obtain ⟨vs', ⟨j, e', j1, j2, ev⟩, hH⟩ := qt x (List.mem_of_getElem? i1)
  have eqi : i = j := (List.getElem?_inj (List.getElem?_eq_some_iff.mp i1).1 nod).mp (i1.trans j1.symm)
  subst eqi
  rw [i2] at j2
  cases j2
  rw [ev] at hH
  exact hH
end
end My
namespace My
open PySem PySem.W L2 L2.DX PyProof.Rows
section
variable {X : Cx}
theorem dp_at {K : PySem.W.Frag} {H : Hp} : ∀ {ys : List V} {ds : List PyData}, DpAll K H ys ds → ∀ {j : Nat} {y : V} {d : PyData}, ys[j]? = some y → ds[j]? = some d → Dp K H y d
  | _, _, .nil, _, _, _, h, _ => by simp at h
  | _, _, .cons p _, 0, _, _, h, k => by
    cases h
    cases k
    exact p
  | _, _, .cons _ t, j + 1, _, _, h, k => dp_at t (j := j) (by simpa using h) (by simpa using k)
theorem dp_len {K : PySem.W.Frag} {H : Hp} : ∀ {ys : List V} {ds : List PyData}, DpAll K H ys ds → ys.length = ds.length
  | _, _, .nil => rfl
  | _, _, .cons _ t => congrArg Nat.succ (dp_len t)
theorem vals_at : ∀ {ys : List V} {us : List Value}, Vals ys us → ∀ {j : Nat} {u : Value}, us[j]? = some u → ∃ y, ys[j]? = some y ∧ RelV y u
  | _, _, .nil, _, _, h => by simp at h
  | _, _, .cons r _, 0, _, h => by
    cases h
    exact ⟨_, rfl, r⟩
  | _, _, .cons _ t, j + 1, _, h => by
    obtain ⟨y, h1, h2⟩ := vals_at t (j := j) (by simpa using h)
    exact ⟨y, by simpa using h1, h2⟩
theorem out_vals {ys : List V} {ds : List PyData} : ∀ {out : List Value} {cs : List PyData}, PySem.W.EachIs (fun v d => ∃ (j : Nat) (y : V), ys[j]? = some y ∧ ds[j]? = some d ∧ RelV y v) out cs →
    ∃ zs : List V, Vals zs out ∧ Paired (fun (z : V) (d : PyData) => ∃ j : Nat, ys[j]? = some z ∧ ds[j]? = some d) zs cs
  | _, _, .nil => ⟨[], .nil, .nil⟩
  | _, _, .cons h t => by
    obtain ⟨j, y, h1, h2, h3⟩ := h
    obtain ⟨zs, g1, g2⟩ := out_vals t
    exact ⟨y :: zs, .cons h3 g1, .cons ⟨j, h1, h2⟩ g2⟩
theorem vals_len : ∀ {ys : List V} {us : List Value}, Vals ys us → ys.length = us.length
  | _, _, .nil => rfl
  | _, _, .cons _ t => congrArg Nat.succ (vals_len t)
/-- sorted(xs), data of one shape: the items are set in sequence by what they are -/
def rSortD (K : PySem.W.Frag) : List V → Hp → VK → Prop := fun vs H Q => ∃ (a : Addr) (ys : List V) (ds : List PyData), vs = [.ref a] ∧ SqL K H a ys ∧ DpAll K H ys ds ∧ AllAlike ds ∧ Sortable ds ∧ (∀ d ∈ ds, d.depth ≤ 8) ∧ ys.length ≤ 100000 ∧
  ∀ (zs : List V) (p : Addr), Paired (fun (z : V) (d : PyData) => ∃ j : Nat, ys[j]? = some z ∧ ds[j]? = some d) zs (ds.mergeSort (dataLe false id)) → H p = none → Q (.ref p) (upd H p (.lst zs))
theorem cr_sortD (hu : X.A.units + 64 < cLine) : CallR X (.builtin "sorted") (rSortD X.K) := by
  intro pins s σ H xs us Q I r h
  obtain ⟨a, ys, ds, rfl, hs, hd, hal, hk, hdp, hlen, q⟩ := h
  obtain rfl := Vals.ref1 r
  obtain ⟨its, rv, pl, _⟩ := I.list hs
  have li : its.length = ds.length := by rw [← vals_len rv]; exact dp_len hd
  have small : ds.length ≤ sizeLine := by rw [← dp_len hd]; exact Nat.le_trans hlen (by decide)
  refine sorted_data (R := fun v d => ∃ (j : Nat) (y : V), ys[j]? = some y ∧ ds[j]? = some d ∧ RelV y v) (enc := id) (bs := ds) pl.isList (eachIs_of li fun j v d hv he => ?_) (eachIs_of li fun j v d hv he => ?_) (by rw [List.map_id]; exact hal) (by rw [List.map_id]; exact hk) small (fun d hdm => ?_) fun out ho1 ho2 => ?_
  · obtain ⟨y, g1, g2⟩ := vals_at rv hv
    exact ⟨j, y, g1, he, g2⟩
  · obtain ⟨y, g1, g2⟩ := vals_at rv hv
    exact Dp.reads I d y v (dp_at hd g1 he) g2
  · have := hdp d hdm
    show X.A.units + 2 + d.depth < cLine
    omega
  obtain ⟨zs, hz, hp⟩ := out_vals ho2
  obtain ⟨eF, heF⟩ := PyProof.Rows.sortedAll_at s.heap its out.toArray
  have hzl : zs.length ≤ sizeLine := by rw [vals_len hz, ho1]; exact small
  exact ⟨.ref (s.heap.objs.size + 1), upd H (s.heap.objs.size + 1) (.lst zs), I.laid (t' := s.toks) (fun _ _ => PyProof.Rows.sortedAll_old) (Nat.le_succ _) ⟨hzl, out, eF, hz, heF⟩, rfl, q zs _ hp (I.hok.fresh (Nat.le_succ _))⟩
end
end My
namespace My
open PySem PySem.W L2 PyProof.Rows
/-! ### told lists: texts with numbers, rising by the texts -/
theorem strict_ext {α : Type} {r : α → α → Prop} (irr : ∀ a, ¬ r a a) (tr : ∀ a b c, r a b → r b c → r a c) : ∀ {a b : List α}, a.Pairwise r → b.Pairwise r → (∀ x, x ∈ a ↔ x ∈ b) → a = b
  | [], [], _, _, _ => rfl
  | [], y :: ys, _, _, h => absurd ((h y).mpr List.mem_cons_self) (by simp)
  | x :: xs, [], _, _, h => absurd ((h x).mp List.mem_cons_self) (by simp)
  | x :: xs, y :: ys, hx, hy, h => by
    have hx' := List.pairwise_cons.mp hx
    have hy' := List.pairwise_cons.mp hy
    have e : x = y := by
      rcases List.mem_cons.mp ((h x).mp List.mem_cons_self) with z | z
      · exact z
      · rcases List.mem_cons.mp ((h y).mpr List.mem_cons_self) with z2 | z2
        · exact z2.symm
        · exact absurd (tr _ _ _ (hx'.1 y z2) (hy'.1 x z)) (irr x)
    subst e
    refine congrArg (x :: ·) (strict_ext irr tr hx'.2 hy'.2 fun z => ?_)
    constructor
    · intro hz
      rcases List.mem_cons.mp ((h z).mp (List.mem_cons_of_mem _ hz)) with q | q
      · exact absurd (by rw [q] at hz; exact hx'.1 x hz) (irr x)
      · exact q
    · intro hz
      rcases List.mem_cons.mp ((h z).mpr (List.mem_cons_of_mem _ hz)) with q | q
      · exact absurd (by rw [q] at hz; exact hy'.1 x hz) (irr x)
      · exact q
def sLt (x y : Str) : Prop := x.cps.toList < y.cps.toList
instance (x y : Str) : Decidable (sLt x y) := by unfold sLt; exact inferInstance
theorem sLt_irr (x : Str) : ¬ sLt x x := List.lt_irrefl _
theorem sLt_trans {x y z : Str} (h : sLt x y) (k : sLt y z) : sLt x z := List.lt_trans h k
theorem sLt_total (x y : Str) : sLt x y ∨ x = y ∨ sLt y x := by
  by_cases h : sLt x y
  · exact .inl h
  · by_cases k : sLt y x
    · exact .inr (.inr k)
    · exact .inr (.inl (str_of_cps (List.le_antisymm (List.not_lt.mp k) (List.not_lt.mp h))))
theorem dataLt_si (x x' : Str) (y y' : Int) : dataLt (.tuple [.str x, .int y]) (.tuple [.str x', .int y']) = decide (sLt x x' ∨ (x = x' ∧ y < y')) := by
  rw [dataLt_pair (by simp [alike]) (by simp [alike]), dataLt_str, dataLt_int]
  have e1 : PyData.eqv (.str x) (.str x') = decide (x = x') := by
    by_cases h : x = x'
    · subst h; simp [PyData.eqv]
    · simp [PyData.eqv, h]
  have e2 : PyData.eqv (.int y) (.int y') = decide (y = y') := by
    by_cases h : y = y'
    · subst h; simp [PyData.eqv]
    · simp [PyData.eqv, h]
  rw [e1, e2]
  by_cases h : x = x'
  · subst h
    have n := sLt_irr x
    by_cases h2 : y = y'
    · subst h2
      simp [n]
    · simp [h2, n]
  · by_cases h3 : sLt x x'
    · have h4 := h3
      unfold sLt at h4
      simp [h, h3, h4]
    · have h4 := h3
      unfold sLt at h4
      simp [h, h3, h4]
abbrev leSI (e f : Str × Int) : Bool := decide (sLt e.1 f.1 ∨ (e.1 = f.1 ∧ e.2 ≤ f.2))
theorem dataLe_si : dataLe false encSI = leSI := by
  funext e f
  show (!dataLt (.tuple [.str f.1, .int f.2]) (.tuple [.str e.1, .int e.2])) = _
  rw [dataLt_si]
  by_cases h : sLt f.1 e.1 ∨ (f.1 = e.1 ∧ f.2 < e.2)
  · have h' : ¬ (sLt e.1 f.1 ∨ (e.1 = f.1 ∧ e.2 ≤ f.2)) := by
      rintro (z | ⟨z, z2⟩)
      · rcases h with k | ⟨k, k2⟩
        · exact sLt_irr _ (sLt_trans z k)
        · rw [k] at z; exact sLt_irr _ z
      · rcases h with k | ⟨k, k2⟩
        · rw [z] at k; exact sLt_irr _ k
        · omega
    simp [h, leSI, h']
  · have h' : sLt e.1 f.1 ∨ (e.1 = f.1 ∧ e.2 ≤ f.2) := by
      rcases sLt_total e.1 f.1 with z | z | z
      · exact .inl z
      · refine .inr ⟨z, ?_⟩
        rcases Int.lt_or_le f.2 e.2 with k | k
        · exact absurd (.inr ⟨z.symm, k⟩) h
        · exact k
      · exact absurd (.inl z) h
    simp only [decide_eq_true h', leSI, decide_eq_false h, Bool.not_false]
theorem leSI_trans (a b c : Str × Int) (h : leSI a b = true) (k : leSI b c = true) : leSI a c = true := by
  have h1 := of_decide_eq_true h
  have k1 := of_decide_eq_true k
  refine decide_eq_true ?_
  rcases h1 with z | ⟨z, z2⟩
  · rcases k1 with w | ⟨w, w2⟩
    · exact .inl (sLt_trans z w)
    · rw [w] at z; exact .inl z
  · rcases k1 with w | ⟨w, w2⟩
    · rw [← z] at w; exact .inl w
    · exact .inr ⟨z.trans w, by omega⟩
theorem leSI_total (a b : Str × Int) : (leSI a b || leSI b a) = true := by
  rw [Bool.or_eq_true]
  rcases sLt_total a.1 b.1 with z | z | z
  · exact .inl (decide_eq_true (.inl z))
  · rcases Int.le_total a.2 b.2 with k | k
    · exact .inl (decide_eq_true (.inr ⟨z, k⟩))
    · exact .inr (decide_eq_true (.inr ⟨z.symm, k⟩))
  · exact .inr (decide_eq_true (.inl z))
/-- rising by the texts -/
def Told (M : List (Str × Int)) : Prop := M.Pairwise fun e f => sLt e.1 f.1
theorem told_of {L : List (Str × Int)} (hn : (L.map Prod.fst).Nodup) : Told (L.mergeSort (dataLe false encSI)) := by
  rw [dataLe_si]
  have hp : (L.mergeSort leSI).Perm L := List.mergeSort_perm _ _
  have hs := List.pairwise_mergeSort (le := leSI) leSI_trans leSI_total L
  have hn2 : ((L.mergeSort leSI).map Prod.fst).Nodup := ((hp.map Prod.fst).nodup_iff).mpr hn
  rw [List.Nodup, List.pairwise_map] at hn2
  refine (hs.and hn2).imp fun {e f} h => ?_
  rcases of_decide_eq_true h.1 with z | z
  · exact z
  · exact absurd z.1 h.2
theorem Told.unique {M N : List (Str × Int)} (h : Told M) (k : Told N) (e : ∀ x, x ∈ M ↔ x ∈ N) : M = N :=
  strict_ext (r := fun e f : Str × Int => sLt e.1 f.1) (fun a => sLt_irr _) (fun _ _ _ => sLt_trans) h k e
/-- texts alone -/
abbrev leS (x y : Str) : Bool := decide (x.cps.toList ≤ y.cps.toList)
theorem dataLe_s : dataLe false (fun x : Str => PyData.str x) = leS := dataLe_str fun x => x
theorem leS_trans (a b c : Str) (h : leS a b = true) (k : leS b c = true) : leS a c = true := decide_eq_true (List.le_trans (of_decide_eq_true h) (of_decide_eq_true k))
theorem leS_total (a b : Str) : (leS a b || leS b a) = true := by
  rw [Bool.or_eq_true]
  rcases List.le_total a.cps.toList b.cps.toList with z | z
  · exact .inl (decide_eq_true z)
  · exact .inr (decide_eq_true z)
theorem texts_of {L : List Str} (hn : L.Nodup) : (L.mergeSort leS).Pairwise sLt := by
  have hp : (L.mergeSort leS).Perm L := List.mergeSort_perm _ _
  have hs := List.pairwise_mergeSort (le := leS) leS_trans leS_total L
  refine (hs.and ((hp.nodup_iff).mpr hn)).imp fun {x y} h => ?_
  rcases sLt_total x y with z | z | z
  · exact z
  · exact absurd z h.2
  · exact absurd z (List.not_lt.mpr (of_decide_eq_true h.1))
end My
namespace My
open PySem L2 PyProof.Rows
/-! ### == by an own __eq__, whatever it answers -/
section
variable {X : Cx}
theorem op_eqOwn {CX : CXT} {k : Nat} {C f : Addr} {fd : FuncData} {ps : List Str} {sp : Sp} {E : XK} (F : FnOk X.prog X.w X.K X.mg X.base CX k f fd ps sp) (hr : Room k X.A)
    (hs : PySem.W.findIn X.K (.ref C) "__eq__" = some (some (.ref f))) (hf : PySem.W.isFn X.K (.ref f) = true) (hb : Binds X.K fd ps []) (hx : Passes CX X E) :
    OpR X (compareOp .Eq) (fun x y H Q => ∃ a b dx dy fs gs, x = .ref a ∧ y = .ref b ∧ H a = some (.ins C dx fs) ∧ H b = some (.ins C dy gs) ∧ sp [x, y] H (fun v H' => ∃ c, v = .bl c ∧ Q (.bl c) H') E) := by
  intro pins s σ H x y v u Q I rx ry h
  obtain ⟨a, b, dx, dy, fs, gs, rfl, rfl, ha, hb', hsp⟩ := h
  cases rx
  cases ry
  show wpAny (model X.prog X.w) X.A (richCompare .Eq (.ref a) (.ref b)) (EP X pins σ Q) X.xe s
  obtain ⟨_, J, _⟩ := ins_get I.hok ha
  obtain ⟨_, J', _⟩ := ins_get I.hok hb'
  obtain ⟨_, J, _⟩ := J.look
  obtain ⟨_, J', _⟩ := J'.look
  obtain ⟨m, hF⟩ := I.fr
  refine PySem.W.cmp_K (op := .Eq) (tb := .ref C) hr.units0 hF I.ok.mod.kin J J'.type (by simp [PySem.W.notFirst]) hs hf ?_
  have vals : Vals [V.ref a, V.ref b] [Value.ref a, Value.ref b] := .cons rfl (.cons rfl .nil)
  have e0 : Env0 X.prog X.w X.K X.mg X.base X.A X.stack s H := I.env0
  have hl := F.len _ _ _ _ hsp
  refine wpAny_call (codeAny_mono (F.run X.A X.stack s H ⟨[.ref a, .ref b], []⟩ [.ref a, .ref b] [.ref a, .ref b] _ E hr e0 (by
    have bd := hb s [.ref a, .ref b] I.kIn (by simpa using hl)
    simpa using bd) vals hsp) fun r s' hq => ?_)
  cases r with
  | error e => exact hx pins σ H s e s' I hq
  | ok fl =>
    cases fl with
    | ret w =>
      obtain ⟨z, H', I', rz, c, ez, qz⟩ := I.after hq
      subst ez
      cases rz
      exact ⟨.bl c, H', I', rfl, qz⟩
    | next => exact False.elim hq
    | brk => exact False.elim hq
    | cont => exact False.elim hq
end
end My
namespace My
open PySem L2 PyProof.Rows PySem.W
/-! ### != of instances with an own __eq__ and the object's __ne__ -/
section
variable {prog : Program} {w : World} {A : Around} {E : Value → Shared → Prop} {s : Shared} {K : PySem.W.Frag} {x y C L f : Addr} {h₀ : Heap} {m : Str → Option Value} {ox : Obj} {od : Option Obj}
theorem check_ne {Q : Unit → Shared → Prop} (X : K.In s.heap) (I : PySem.W.InstAt s.heap x ox C od) (hm : PySem.W.mroIn K C (.type "object") = some true) (hq : Q () s) :
    wpAny (model prog w) A (checkBuiltinCall "object.__ne__" ⟨[.ref x, .ref y], []⟩) Q E s := by
  have L1 := PySem.W.looks_mroIn (M := model prog w) X hm
  simp only [checkBuiltinCall, F.cmpKind_ne, F.cmpSplit_ne]
  refine wpAny_bind ?_
  unfold isInstance
  refine wpAny_bind (I.type.here (L1.here ?_))
  simp only [Bool.not_true, Bool.false_eq_true, if_false]
  exact wpAny_pure hq
theorem entry_ne {Q : Fin → Shared → Prop} (hu : A.units < cLine) (X : K.In s.heap) (I : PySem.W.InstAt s.heap x ox C od) (hs : PySem.W.findIn K (.ref C) "__eq__" = some (some (.ref f))) (hf : PySem.W.isFn K (.ref f) = true)
    (hcall : wpAny (model prog w) A (call (.ref f) [.ref x, .ref y]) (fun v s' => ∃ b, v = .bool b ∧ Q (.done (.ret (.bool (!b)))) s') E s) :
    wpAny (model prog w) A (Builtin.«object.__ne__» ⟨[.ref x, .ref y], []⟩) Q E s := by
  unfold Builtin.«object.__ne__»
  repeat (first
    | with_reducible refine wpAny_cRoomFor hu ?_
    | (refine wpAny_bind (m := callSpecialIfBound? (.ref x) (Str.ofString "__eq__") [.ref y])
        (PySem.W.ifBound_K X I hs hf (wpAny_mono hcall (fun r s' hr => by
          obtain ⟨b, rfl, hq⟩ := hr
          repeat (first | exact hq | exact wpAny_pure hq | exact wpAny_truthy_bool hq | (refine wpAny_bind (m := truthy (.bool _)) (wpAny_truthy_bool ?_)) | wp_step)) fun _ _ e => e)))
    | wp_step)
theorem try_ne {Q : Option Value → Shared → Prop} (hu : A.units + 1 < cLine) (X : K.In s.heap) (I : PySem.W.InstAt s.heap x ox C od) (hm : PySem.W.mroIn K C (.type "object") = some true) (hn : PySem.W.findIn K (.ref C) "__ne__" = some (some (.builtin "object.__ne__")))
    (hs : PySem.W.findIn K (.ref C) "__eq__" = some (some (.ref f))) (hf : PySem.W.isFn K (.ref f) = true)
    (hcall : wpAny (model prog w) A.in1 (call (.ref f) [.ref x, .ref y]) (fun v s' => ∃ b, v = .bool b ∧ Q (some (.bool (!b))) s') E s) :
    wpAny (model prog w) A (tryCompare (.ref x) "__ne__" (.ref y)) Q E s := by
  have S := F.cmp_object.ne
  have one : wpAny (model prog w) A (callSpecialIfBound? (.ref x) "__ne__" [.ref y]) (fun r s' => ∃ b, r = some (.bool b) ∧ Q (some (.bool b)) s') E s := by
    simp only [callSpecialIfBound?, bindSpecialIfBound?]
    refine wpAny_holding (wpAny_bind (wpAny_bind (wpAny_bind (I.type.here ((PySem.W.looks_findIn X hn).here ?_)))))
    simp only [S.bind]
    refine wpAny_bind (wpAny_askSetting (wpAny_ite ?_))
    have fin : wpAny (model prog w) A (call (.builtin "object.__ne__") ([.ref x] ++ [.ref y]) >>= fun v => pure (some v)) (fun r s' => ∃ b, r = some (.bool b) ∧ Q (some (.bool b)) s') E s := by
      refine wpAny_bind (wpAny_call (codeAny_call_builtin S.plain F.cmpEntry_ne (check_ne X I hm (entry_ne (A := A.in1) hu X I hs hf (wpAny_mono hcall (fun v s' hv => ?_) fun _ _ e => e)))))
      obtain ⟨b, rfl, hq⟩ := hv
      exact ⟨b, rfl, wpAny_pure ⟨_, rfl, hq⟩⟩
    split
    · exact wpAny_bind (wpAny_pure (wpAny_pure fin))
    · exact wpAny_tryCatch (wpAny_bind (wpAny_pure (wpAny_pure fin)))
  unfold tryCompare
  refine wpAny_bind (wpAny_mono one (fun v s' hv => ?_) fun _ _ e => e)
  obtain ⟨b, rfl, hq⟩ := hv
  exact wpAny_pure hq
theorem ne_own {Q : Value → Shared → Prop} {oy : Obj} {odY : Option Obj} (hu : A.units + 1 < cLine) (X : K.In s.heap) (I : PySem.W.InstAt s.heap x ox C od) (J : PySem.W.InstAt s.heap y oy C odY) (hm : PySem.W.mroIn K C (.type "object") = some true) (hn : PySem.W.findIn K (.ref C) "__ne__" = some (some (.builtin "object.__ne__")))
    (hs : PySem.W.findIn K (.ref C) "__eq__" = some (some (.ref f))) (hf : PySem.W.isFn K (.ref f) = true)
    (hcall : wpAny (model prog w) A.in1 (call (.ref f) [.ref x, .ref y]) (fun v s' => ∃ b, v = .bool b ∧ Q (.bool (!b)) s') E s) :
    wpAny (model prog w) A (richCompare .NotEq (.ref x) (.ref y)) Q E s := by
  unfold richCompare
  simp only [oneThing_ref]
  refine wpAny_holding ?_
  refine wpAny_bind (wpAny_cRoomFor (Nat.lt_of_succ_lt hu) ?_)
  rw [cmpInfo_NotEq]
  dsimp only
  refine wpAny_bind (I.type.here (wpAny_bind (J.type.here ?_)))
  rw [show (Value.ref C != Value.ref C) = false from by simp]
  simp only [Bool.false_eq_true, if_false]
  refine wpAny_bind (wpAny_pure ?_)
  simp only [Bool.false_eq_true, if_false]
  refine wpAny_bind (try_ne hu X I hm hn hs hf (wpAny_mono hcall (fun v s' hv => ?_) fun _ _ e => e))
  obtain ⟨b, rfl, hq⟩ := hv
  exact ⟨b, rfl, wpAny_pure hq⟩
end
section
variable {X : Cx}
theorem op_neOwn {CX : CXT} {k : Nat} {C f : Addr} {fd : FuncData} {ps : List Str} {sp : Sp} {E : XK} (F : FnOk X.prog X.w X.K X.mg X.base CX k f fd ps sp) (hr : Room (k + 1) X.A) (hm : PySem.W.mroIn X.K C (.type "object") = some true) (hn : PySem.W.findIn X.K (.ref C) "__ne__" = some (some (.builtin "object.__ne__")))
    (hs : PySem.W.findIn X.K (.ref C) "__eq__" = some (some (.ref f))) (hf : PySem.W.isFn X.K (.ref f) = true) (hb : Binds X.K fd ps []) (hx : Passes CX X E) :
    OpR X (compareOp .NotEq) (fun x y H Q => ∃ a b dx dy fs gs, x = .ref a ∧ y = .ref b ∧ H a = some (.ins C dx fs) ∧ H b = some (.ins C dy gs) ∧ sp [x, y] H (fun v H' => ∃ c, v = .bl c ∧ Q (.bl (!c)) H') E) := by
  intro pins s σ H x y v u Q I rx ry h
  obtain ⟨a, b, dx, dy, fs, gs, rfl, rfl, ha, hb', hsp⟩ := h
  cases rx
  cases ry
  show wpAny (model X.prog X.w) X.A (richCompare .NotEq (.ref a) (.ref b)) (EP X pins σ Q) X.xe s
  obtain ⟨_, J, _⟩ := ins_get I.hok ha
  obtain ⟨_, J', _⟩ := ins_get I.hok hb'
  obtain ⟨_, J, _⟩ := J.look
  obtain ⟨_, J', _⟩ := J'.look
  have hu : X.A.units + 1 < cLine := hu_of hr
  refine ne_own hu I.kIn J J' hm hn hs hf ?_
  have vals : Vals [V.ref a, V.ref b] [Value.ref a, Value.ref b] := .cons rfl (.cons rfl .nil)
  have e0 : Env0 X.prog X.w X.K X.mg X.base X.A.in1 X.stack s H := I.env0.in1
  have hl := F.len _ _ _ _ hsp
  refine wpAny_call (codeAny_mono (F.run X.A.in1 X.stack s H ⟨[.ref a, .ref b], []⟩ [.ref a, .ref b] [.ref a, .ref b] _ E hr.in1 e0 (by
    have bd := hb s [.ref a, .ref b] I.kIn (by simpa using hl)
    simpa using bd) vals hsp) fun r s' hq => ?_)
  cases r with
  | error e => exact hx pins σ H s e s' I hq
  | ok fl =>
    cases fl with
    | ret w =>
      obtain ⟨z, H', I', rz, c, ez, qz⟩ := I.after hq
      subst ez
      cases rz
      exact ⟨c, rfl, .bl (!c), H', I', rfl, qz⟩
    | next => exact False.elim hq
    | brk => exact False.elim hq
    | cont => exact False.elim hq
/-- == of an instance with an own __eq__ and a dict -/
theorem op_eqDict {CX : CXT} {k : Nat} {C f : Addr} {fd : FuncData} {ps : List Str} {sp : Sp} {E : XK} (F : FnOk X.prog X.w X.K X.mg X.base CX k f fd ps sp) (hr : Room k X.A)
    (hs : PySem.W.findIn X.K (.ref C) "__eq__" = some (some (.ref f))) (hf : PySem.W.isFn X.K (.ref f) = true) (hnf : PySem.W.notFirst X.K C (.type "dict") = true) (hb : Binds X.K fd ps []) (hx : Passes CX X E) :
    OpR X (compareOp .Eq) (fun x y H Q => ∃ a d dx fs kvs, x = .ref a ∧ y = .ref d ∧ H a = some (.ins C dx fs) ∧ H d = some (.dK kvs) ∧ sp [x, y] H (fun v H' => ∃ c, v = .bl c ∧ Q (.bl c) H') E) := by
  intro pins s σ H x y v u Q I rx ry h
  obtain ⟨a, b, dx, fs, kvs, rfl, rfl, ha, hb', hsp⟩ := h
  cases rx
  cases ry
  show wpAny (model X.prog X.w) X.A (richCompare .Eq (.ref a) (.ref b)) (EP X pins σ Q) X.xe s
  obtain ⟨_, J, _⟩ := ins_get I.hok ha
  obtain ⟨_, J, _⟩ := J.look
  obtain ⟨_, _, _, _, ob, es, ep, e, ⟨hcls, _⟩, _⟩ := (show ObjOk X.prog X.w H s.heap b (.dK kvs) from I.hok b _ hb')
  have hty : PySem.W.Looks (model X.prog X.w) s.heap (typeOf (.ref b)) (.type "dict") := hcls ▸ (PySem.W.Looks.ld e).andThen .now
  obtain ⟨m, hF⟩ := I.fr
  refine PySem.W.cmp_K (op := .Eq) (tb := .type "dict") hr.units0 hF I.ok.mod.kin J hty hnf hs hf ?_
  have vals : Vals [V.ref a, V.ref b] [Value.ref a, Value.ref b] := .cons rfl (.cons rfl .nil)
  have e0 : Env0 X.prog X.w X.K X.mg X.base X.A X.stack s H := I.env0
  have hl := F.len _ _ _ _ hsp
  refine wpAny_call (codeAny_mono (F.run X.A X.stack s H ⟨[.ref a, .ref b], []⟩ [.ref a, .ref b] [.ref a, .ref b] _ E hr e0 (by
    have bd := hb s [.ref a, .ref b] I.kIn (by simpa using hl)
    simpa using bd) vals hsp) fun r s' hq => ?_)
  cases r with
  | error e => exact hx pins σ H s e s' I hq
  | ok fl =>
    cases fl with
    | ret w =>
      obtain ⟨z, H', I', rz, c, ez, qz⟩ := I.after hq
      subst ez
      cases rz
      exact ⟨.bl c, H', I', rfl, qz⟩
    | next => exact False.elim hq
    | brk => exact False.elim hq
    | cont => exact False.elim hq
def tMethKK (C : Addr) (m : Str) (sp : Sp) (gV : List V → List V → List V) (E : XK) (ta : TE) (tk : TA) : TE := fun σ H Q => ta σ H fun x H1 => ∃ a dx fs, x = .ref a ∧ H1 a = some (.ins C dx fs) ∧ fs.lookup m = none ∧ tk σ H1 fun zs H2 => sp (gV [x] zs) H2 Q E
/-- o.m(a=.., b=..) -/
theorem pe_methKK {CX : CXT} {k : Nat} {f C : Addr} {fd : FuncData} {ps ks : List Str} {sp : Sp} {E : XK} {m : Str} {pos apos : Pos} {o : Expr} {kws : List Keyword} {ta : TE} {tk : TA} {g : List Value → List Value → List Value} {gV : List V → List V → List V} {pl : Sem Bool} (he : PE X o ta) (c : Cls X.K C) (hm : Meth X.K C m f) (F : FnOk X.prog X.w X.K X.mg X.base CX k f fd ps sp) (hr : Room k X.A) (hb : KBinds X.K fd ps ks g gV) (hx : Passes CX X E)
    (hkw : PK X kws tk) (hall : (backToKw pos (keywordEach kws X.env)).all (·.1.isSome) = true := by rfl) (hks : (backToKw pos (keywordEach kws X.env)).filterMap (·.1) = ks := by rfl)
    (hpl : ((backTo pos (starEach [] X.env)).any (·.1) || (backToKw pos (keywordEach kws X.env)).any (·.1.isNone)) = false := by rfl)
    (ht : eval (.Call (.Attribute o m apos) [] kws pos) X.env = (do
      let ov ← eval o X.env
      standAt apos.atName
      let (f, first) ← holding [ov] (getMethod ov m pl)
      callWith pos f first (backTo pos (starEach [] X.env)) (backToKw pos (keywordEach kws X.env))) := by rfl) :
    PE X (.Call (.Attribute o m apos) [] kws pos) (tMethKK C m sp gV E ta tk) := by
  refine ⟨fun pins s σ H Q I h => ?_⟩
  refine PySem.W.methodCall_KW (pl := pl) (thn (he.run pins s σ H _ I h) fun u s1 ⟨x, H1, I1, rx, a, dx, fs, ex, ea, l, q⟩ => ?_) ht
  subst ex
  obtain rfl : u = Value.ref a := rx
  refine getmeth_ok I1 ea c hm l ?_
  refine PySem.W.callWith_KW0 (first := [.ref a]) (h₀ := X.base) I.ok.mod.kin hm.kp hall (thn (hkw.run pos pins s1 σ H1 _ I1 q) fun ws s2 ⟨zs, H2, I2, rz, q2⟩ => ⟨I2.kIn, ?_⟩) hpl
  rw [hks]
  exact run_fnk (us := [.ref a]) (vs := [.ref a]) F hr hb hx I2 (.cons rfl .nil) rz q2
end
end My
namespace My
/-! ### webs: ties, walks by their lengths -/
def Edge (ts : List (Nat × Nat)) (W : List Nat) (u v : Nat) : Prop := ∃ i, ts[i]? = some (u, v) ∧ i ∉ W
inductive Wk (E : Nat → Nat → Prop) : Nat → Nat → Nat → Prop where
  | nil (u : Nat) : Wk E 0 u u
  | snoc {k u x v : Nat} : Wk E k u x → E x v → Wk E (k + 1) u v
theorem wk_zero {E : Nat → Nat → Prop} {u v : Nat} (h : Wk E 0 u v) : v = u := by cases h; rfl
theorem wk_succ {E : Nat → Nat → Prop} {k u v : Nat} (h : Wk E (k + 1) u v) : ∃ x, Wk E k u x ∧ E x v := by
  cases h with
  | snoc a b => exact ⟨_, a, b⟩
theorem wk_append {E : Nat → Nat → Prop} {j k u x v : Nat} (a : Wk E j u x) (b : Wk E k x v) : Wk E (j + k) u v := by
  induction b with
  | nil => exact a
  | snoc _ e ih => exact .snoc (ih a) e
theorem wk_split {E : Nat → Nat → Prop} {u v : Nat} : ∀ (k j : Nat), Wk E (j + k) u v → ∃ x, Wk E j u x ∧ Wk E k x v
  | 0, j, h => ⟨v, h, .nil v⟩
  | k + 1, j, h => by
    obtain ⟨y, h1, h2⟩ := wk_succ (show Wk E ((j + k) + 1) u v from h)
    obtain ⟨x, h3, h4⟩ := wk_split k j h1
    exact ⟨x, h3, .snoc h4 h2⟩
def Rch (E : Nat → Nat → Prop) (u v : Nat) : Prop := ∃ k, Wk E k u v
/-- few numbers below N -/
theorem few {N : Nat} : ∀ {L : List Nat}, L.Nodup → (∀ x ∈ L, x < N) → L.length ≤ N := by
  induction N with
  | zero =>
    intro L _ h
    cases L with
    | nil => simp
    | cons a r => exact absurd (h a List.mem_cons_self) (by omega)
  | succ N ih =>
    intro L hn h
    by_cases c : N ∈ L
    · have h1 := ih (L := L.erase N) (hn.erase N) fun x hx => by
        have h2 := (List.Nodup.mem_erase_iff hn).mp hx
        have := h x h2.2
        have := h2.1
        omega
      rw [List.length_erase_of_mem c] at h1
      omega
    · have h1 := ih hn fun x hx => by
        have := h x hx
        have : x ≠ N := fun z => c (by rw [← z]; exact hx)
        omega
      omega
/-! ### coming to -/
structure RInv (E : Nat → Nat → Prop) (s : Nat) (seen waiting : List Nat) : Prop where
  nd : seen.Nodup
  st : s ∈ seen
  sub : ∀ x ∈ waiting, x ∈ seen
  ok : ∀ x ∈ seen, Rch E s x
  cl : ∀ u ∈ seen, u ∉ waiting → ∀ v, E u v → v ∈ seen
/-- while the ties from one place are gone through; D: those that were -/
structure RMid (E : Nat → Nat → Prop) (s here : Nat) (D : Nat → Prop) (seen waiting : List Nat) : Prop where
  nd : seen.Nodup
  st : s ∈ seen
  hh : here ∈ seen
  sub : ∀ x ∈ waiting, x ∈ seen
  ok : ∀ x ∈ seen, Rch E s x
  cl : ∀ u ∈ seen, u ∉ waiting → u ≠ here → ∀ v, E u v → v ∈ seen
  dn : ∀ v, D v → v ∈ seen
theorem r_start {E : Nat → Nat → Prop} (s : Nat) : RInv E s [s] [s] := by
  refine ⟨by simp, by simp, fun x h => h, fun x h => ?_, fun u h hn => absurd h hn⟩
  rw [List.mem_singleton.mp h]
  exact ⟨0, .nil s⟩
theorem r_pop {E : Nat → Nat → Prop} {s : Nat} {seen w : List Nat} {here : Nat} (h : RInv E s seen (w ++ [here])) : RMid E s here (fun _ => False) seen w := by
  refine ⟨h.nd, h.st, h.sub here (by simp), fun x hx => h.sub x (by simp [hx]), h.ok, fun u hu hn hne v hv => ?_, fun v hv => hv.elim⟩
  refine h.cl u hu (fun hm => ?_) v hv
  rcases List.mem_append.mp hm with z | z
  · exact hn z
  · exact hne (List.mem_singleton.mp z)
theorem r_new {E : Nat → Nat → Prop} {s here v : Nat} {D D' : Nat → Prop} {seen w : List Nat} (h : RMid E s here D seen w) (e : E here v) (hv : v ∉ seen) (hD : ∀ x, D' x → D x ∨ x = v) : RMid E s here D' (seen ++ [v]) (w ++ [v]) := by
  refine ⟨?_, by simp [h.st], by simp [h.hh], fun x hx => ?_, fun x hx => ?_, fun u hu hn hne x hx => ?_, fun x hx => ?_⟩
  · rw [List.nodup_append]
    exact ⟨h.nd, by simp, fun a ha b hb => by rw [List.mem_singleton.mp hb]; rintro rfl; exact hv ha⟩
  · rcases List.mem_append.mp hx with z | z
    · exact List.mem_append_left _ (h.sub x z)
    · exact List.mem_append_right _ z
  · rcases List.mem_append.mp hx with z | z
    · exact h.ok x z
    · rw [List.mem_singleton.mp z]
      obtain ⟨k, hk⟩ := h.ok here h.hh
      exact ⟨k + 1, .snoc hk e⟩
  · rcases List.mem_append.mp hu with z | z
    · exact List.mem_append_left _ (h.cl u z (fun m => hn (List.mem_append_left _ m)) hne x hx)
    · exact absurd (List.mem_append_right _ z) hn
  · rcases hD x hx with z | z
    · exact List.mem_append_left _ (h.dn x z)
    · rw [z]; simp
theorem r_old {E : Nat → Nat → Prop} {s here : Nat} {D D' : Nat → Prop} {seen w : List Nat} (h : RMid E s here D seen w) (hD : ∀ x, D' x → D x ∨ x ∈ seen) : RMid E s here D' seen w :=
  ⟨h.nd, h.st, h.hh, h.sub, h.ok, h.cl, fun x hx => (hD x hx).elim (h.dn x) id⟩
theorem r_done {E : Nat → Nat → Prop} {s here : Nat} {D : Nat → Prop} {seen w : List Nat} (h : RMid E s here D seen w) (hD : ∀ v, E here v → D v) : RInv E s seen w := by
  refine ⟨h.nd, h.st, h.sub, h.ok, fun u hu hn v hv => ?_⟩
  by_cases c : u = here
  · subst c
    exact h.dn v (hD v hv)
  · exact h.cl u hu hn c v hv
theorem r_end {E : Nat → Nat → Prop} {s : Nat} {seen : List Nat} (h : RInv E s seen []) (x : Nat) : x ∈ seen ↔ Rch E s x := by
  refine ⟨h.ok x, ?_⟩
  rintro ⟨k, hk⟩
  induction k generalizing x with
  | zero => rw [wk_zero hk]; exact h.st
  | succ k ih =>
    obtain ⟨y, h1, h2⟩ := wk_succ hk
    exact h.cl y (ih y h1) (by simp) x h2
/-! ### the fewest ties, by levels -/
def Few (E : Nat → Nat → Prop) (a b D : Nat) : Prop := 1 ≤ D ∧ Wk E D a b ∧ ∀ k, 1 ≤ k → k < D → ¬ Wk E k a b
structure Lev (E : Nat → Nat → Prop) (a b m : Nat) (here met : List Nat) : Prop where
  mt : ∀ x, x ∈ met ↔ ∃ j, 1 ≤ j ∧ j ≤ m ∧ Wk E j a x
  hr : ∀ x, x ∈ here ↔ Wk E m a x ∧ ∀ j, 1 ≤ j → j < m → ¬ Wk E j a x
  no : b ∉ met
  nd : met.Nodup
theorem lev_start {E : Nat → Nat → Prop} (a b : Nat) : Lev E a b 0 [a] [] := by
  refine ⟨fun x => ⟨fun h => by simp at h, fun ⟨j, h1, h2, _⟩ => by omega⟩, fun x => ⟨fun h => ?_, fun h => ?_⟩, by simp, by simp⟩
  · rw [List.mem_singleton.mp h]
    exact ⟨.nil a, fun j h1 h2 => by omega⟩
  · rw [wk_zero h.1]
    simp
/-- the next level, by what it holds -/
theorem lev_next {E : Nat → Nat → Prop} {a b m : Nat} {here met met' later : List Nat} (h : Lev E a b m here met) (h1 : ∀ x, x ∈ met' ↔ x ∈ met ∨ ∃ u ∈ here, E u x) (h2 : ∀ x, x ∈ later ↔ x ∉ met ∧ ∃ u ∈ here, E u x) :
    (∀ x, x ∈ met' ↔ ∃ j, 1 ≤ j ∧ j ≤ m + 1 ∧ Wk E j a x) ∧ (∀ x, x ∈ later ↔ Wk E (m + 1) a x ∧ ∀ j, 1 ≤ j → j < m + 1 → ¬ Wk E j a x) := by
  have key : ∀ x, Wk E (m + 1) a x → x ∈ met ∨ ∃ u ∈ here, E u x := fun x hx => by
    obtain ⟨u, hu, e⟩ := wk_succ hx
    by_cases c : u ∈ here
    · exact .inr ⟨u, c, e⟩
    · left
      rw [h.hr] at c
      have c2 : ∃ j, 1 ≤ j ∧ j < m ∧ Wk E j a u := by
        by_cases c3 : ∃ j, 1 ≤ j ∧ j < m ∧ Wk E j a u
        · exact c3
        · exact absurd ⟨hu, fun j g1 g2 g3 => c3 ⟨j, g1, g2, g3⟩⟩ c
      obtain ⟨j, g1, g2, g3⟩ := c2
      exact (h.mt x).mpr ⟨j + 1, by omega, by omega, .snoc g3 e⟩
  have here_wk : ∀ x, (∃ u ∈ here, E u x) → Wk E (m + 1) a x := fun x ⟨u, hu, e⟩ => .snoc ((h.hr u).mp hu).1 e
  constructor
  · intro x
    rw [h1]
    constructor
    · rintro (hx | hx)
      · obtain ⟨j, g1, g2, g3⟩ := (h.mt x).mp hx
        exact ⟨j, g1, by omega, g3⟩
      · exact ⟨m + 1, by omega, by omega, here_wk x hx⟩
    · rintro ⟨j, g1, g2, g3⟩
      by_cases c : j ≤ m
      · exact .inl ((h.mt x).mpr ⟨j, g1, c, g3⟩)
      · have e : j = m + 1 := by omega
        subst e
        exact key x g3
  · intro x
    rw [h2]
    constructor
    · rintro ⟨hx, hu⟩
      exact ⟨here_wk x hu, fun j g1 g2 g3 => hx ((h.mt x).mpr ⟨j, g1, by omega, g3⟩)⟩
    · rintro ⟨g1, g2⟩
      have hx : x ∉ met := fun hm => by
        obtain ⟨j, k1, k2, k3⟩ := (h.mt x).mp hm
        exact g2 j k1 (by omega) k3
      exact ⟨hx, (key x g1).resolve_left hx⟩
theorem lev_few {E : Nat → Nat → Prop} {a b m : Nat} {here met met' : List Nat} (h : Lev E a b m here met) (h1 : ∀ x, x ∈ met' ↔ ∃ j, 1 ≤ j ∧ j ≤ m + 1 ∧ Wk E j a x) (hb : b ∈ met') : Few E a b (m + 1) := by
  obtain ⟨j, g1, g2, g3⟩ := (h1 b).mp hb
  have old : ∀ k, 1 ≤ k → k ≤ m → ¬ Wk E k a b := fun k k1 k2 k3 => h.no ((h.mt b).mpr ⟨k, k1, k2, k3⟩)
  have e : j = m + 1 := by
    rcases Nat.lt_or_ge m j with z | z
    · omega
    · exact absurd g3 (old j g1 z)
  subst e
  exact ⟨by omega, g3, fun k k1 k2 => old k k1 (by omega)⟩
theorem lev_none {E : Nat → Nat → Prop} {a b m : Nat} {met : List Nat} (h : Lev E a b m [] met) : ∀ k, 1 ≤ k → ¬ Wk E k a b := by
  intro k
  induction k using Nat.strongRecOn with
  | _ k ih =>
    intro k1 hk
    by_cases c : k ≤ m
    · exact h.no ((h.mt b).mpr ⟨k, k1, c, hk⟩)
    · obtain ⟨u, h1, h2⟩ := wk_split (k - m) m (by rw [show m + (k - m) = k by omega]; exact hk)
      have hu : u ∉ ([] : List Nat) := by simp
      rw [h.hr] at hu
      have c2 : ∃ j, 1 ≤ j ∧ j < m ∧ Wk E j a u := by
        by_cases c3 : ∃ j, 1 ≤ j ∧ j < m ∧ Wk E j a u
        · exact c3
        · exact absurd ⟨h1, fun j g1 g2 g3 => c3 ⟨j, g1, g2, g3⟩⟩ hu
      obtain ⟨j, g1, g2, g3⟩ := c2
      exact ih (j + (k - m)) (by omega) (by omega) (wk_append g3 h2)
theorem few_unique {E : Nat → Nat → Prop} {a b c d : Nat} (h1 : Few E a b c) (h2 : Few E a b d) : c = d := by
  rcases Nat.lt_trichotomy c d with z | z | z
  · exact absurd h1.2.1 (h2.2.2 c h1.1 z)
  · exact z
  · exact absurd h2.2.1 (h1.2.2 d h2.1 z)
/-! ### a shortest way, by a line of places -/
/-- L: the line, its first place near; T: the ties by which the others were come to; ds: how many ties -/
structure Bfs (ts : List (Nat × Nat)) (W : List Nat) (a : Nat) (L T ds : List Nat) : Prop where
  l1 : L.length = T.length + 1
  l2 : ds.length = L.length
  l0 : L[0]? = some a
  d0 : ds[0]? = some 0
  nd : (L.drop 1).Nodup
  mono : ∀ (i j x y : Nat), i < j → ds[i]? = some x → ds[j]? = some y → x ≤ y
  by_ : ∀ (j t : Nat), T[j]? = some t → ∃ (u v i x : Nat), ts[t]? = some (u, v) ∧ t ∉ W ∧ L[j + 1]? = some v ∧ i ≤ j ∧ L[i]? = some u ∧ ds[i]? = some x ∧ ds[j + 1]? = some (x + 1) ∧ (0 < i → u ≠ a)
  wk : ∀ (j v x : Nat), L[j]? = some v → ds[j]? = some x → Wk (Edge ts W) x a v
/-- the first n of the line are done -/
structure Done (ts : List (Nat × Nat)) (W : List Nat) (n : Nat) (L ds : List Nat) : Prop where
  cl : ∀ (i u x v : Nat), i < n → L[i]? = some u → ds[i]? = some x → Edge ts W u v → ∃ (j y : Nat), L[j + 1]? = some v ∧ ds[j + 1]? = some y ∧ y ≤ x + 1
  up : ∀ (j y x : Nat), 0 < n → ds[j]? = some y → ds[n - 1]? = some x → y ≤ x + 1
  one : n = 0 → L.length = 1
theorem bfs_start (ts : List (Nat × Nat)) (W : List Nat) (a : Nat) : Bfs ts W a [a] [] [0] ∧ Done ts W 0 [a] [0] := by
  refine ⟨⟨rfl, rfl, rfl, rfl, by simp, fun i j x y h h1 h2 => ?_, fun j t h => by simp at h, fun j v x h1 h2 => ?_⟩, ⟨fun i u x v h => by omega, fun j y x h => by omega, fun _ => rfl⟩⟩
  · have := (List.getElem?_eq_some_iff.mp h2).1
    simp at this
    omega
  · have hj := (List.getElem?_eq_some_iff.mp h1).1
    simp at hj
    subst hj
    cases h1
    cases h2
    exact .nil a
/-- whoever is come to by so many ties stands in the line -/
theorem bfs_all {ts : List (Nat × Nat)} {W : List Nat} {a n : Nat} {L T ds : List Nat} (h : Bfs ts W a L T ds) (hd : Done ts W n L ds) : ∀ k v, 1 ≤ k → Wk (Edge ts W) k a v → (∀ x, n < L.length → ds[n]? = some x → k ≤ x) → ∃ (j y : Nat), L[j + 1]? = some v ∧ ds[j + 1]? = some y ∧ y ≤ k := by
  intro k
  induction k with
  | zero => intro v h1; omega
  | succ k ih =>
    intro v _ hw hx
    obtain ⟨u, h1, e⟩ := wk_succ hw
    have small : ∀ (i y : Nat), L[i]? = some u → ds[i]? = some y → y ≤ k → ∃ (j y : Nat), L[j + 1]? = some v ∧ ds[j + 1]? = some y ∧ y ≤ k + 1 := fun i y g1 g2 g3 => by
      have hin : i < n := by
        rcases Nat.lt_or_ge i n with z | z
        · exact z
        · exfalso
          have hi := (List.getElem?_eq_some_iff.mp g1).1
          have hn : n < L.length := by omega
          obtain ⟨x, ex⟩ : ∃ x, ds[n]? = some x := ⟨ds[n]'(by rw [h.l2]; exact hn), List.getElem?_eq_getElem _⟩
          have k1 := hx x hn ex
          by_cases c : i = n
          · subst c
            rw [g2] at ex
            cases ex
            omega
          · have := h.mono n i x y (by omega) ex g2
            omega
      obtain ⟨j, z, q1, q2, q3⟩ := hd.cl i u y v hin g1 g2 e
      exact ⟨j, z, q1, q2, by omega⟩
    rcases Nat.eq_zero_or_pos k with z | z
    · subst z
      have eu := wk_zero h1
      subst eu
      exact small 0 0 h.l0 h.d0 (Nat.le_refl _)
    · obtain ⟨j, y, g1, g2, g3⟩ := ih u z h1 fun x q1 q2 => by have := hx x q1 q2; omega
      exact small (j + 1) y g1 g2 g3
theorem get_drop {L : List Nat} {v : Nat} : v ∈ L.drop 1 ↔ ∃ j : Nat, L[j + 1]? = some v := by
  rw [List.mem_iff_getElem?]
  constructor
  · rintro ⟨i, hi⟩
    rw [List.getElem?_drop] at hi
    exact ⟨i, by rw [Nat.add_comm]; exact hi⟩
  · rintro ⟨j, hj⟩
    exact ⟨j, by rw [List.getElem?_drop, Nat.add_comm]; exact hj⟩
/-- while the ties from the place at n are gone through; G: those places that were come to -/
structure Mid (ts : List (Nat × Nat)) (W : List Nat) (a n here : Nat) (G : Nat → Prop) (L T ds : List Nat) : Prop where
  b : Bfs ts W a L T ds
  at_ : L[n]? = some here
  cl : ∀ (i u x v : Nat), i < n → L[i]? = some u → ds[i]? = some x → Edge ts W u v → ∃ (j y : Nat), L[j + 1]? = some v ∧ ds[j + 1]? = some y ∧ y ≤ x + 1
  up : ∀ (j y x : Nat), ds[j]? = some y → ds[n]? = some x → y ≤ x + 1
  dn : ∀ v, G v → v ∈ L.drop 1
theorem mid_start {ts : List (Nat × Nat)} {W : List Nat} {a n here : Nat} {L T ds : List Nat} (h : Bfs ts W a L T ds) (hd : Done ts W n L ds) (e : L[n]? = some here) : Mid ts W a n here (fun _ => False) L T ds := by
  refine ⟨h, e, hd.cl, fun j y x h1 h2 => ?_, fun v hv => hv.elim⟩
  have hj := (List.getElem?_eq_some_iff.mp h1).1
  have hn := (List.getElem?_eq_some_iff.mp h2).1
  rcases Nat.eq_zero_or_pos n with z | z
  · have h3 := hd.one z
    rw [h.l2, h3] at hj
    have ej : j = 0 := by omega
    subst ej
    rw [h.d0] at h1
    cases h1
    omega
  · obtain ⟨x', ex⟩ : ∃ x', ds[n - 1]? = some x' := ⟨ds[n - 1]'(by omega), List.getElem?_eq_getElem _⟩
    have h3 := hd.up j y x' z h1 ex
    have h4 := h.mono (n - 1) n x' x (by omega) ex h2
    omega
theorem get_snoc {L : List Nat} {i v : Nat} (w : Nat) (h : L[i]? = some v) : (L ++ [w])[i]? = some v := by
  rw [List.getElem?_append_left (List.getElem?_eq_some_iff.mp h).1]
  exact h
theorem of_snoc {L : List Nat} {i v w : Nat} (h : (L ++ [w])[i]? = some v) : (L[i]? = some v ∧ i < L.length) ∨ (i = L.length ∧ v = w) := by
  by_cases c : i < L.length
  · rw [List.getElem?_append_left c] at h
    exact .inl ⟨h, c⟩
  · have hi := (List.getElem?_eq_some_iff.mp h).1
    rw [List.length_append] at hi
    have e : i = L.length := by simp at hi; omega
    subst e
    rw [List.getElem?_append_right (Nat.le_refl _), Nat.sub_self] at h
    cases h
    exact .inr ⟨rfl, rfl⟩
theorem last_snoc (L : List Nat) (w : Nat) : (L ++ [w])[L.length]? = some w := by
  rw [List.getElem?_append_right (Nat.le_refl _), Nat.sub_self]
  rfl
theorem mid_new {ts : List (Nat × Nat)} {W : List Nat} {a n here v t x : Nat} {G G' : Nat → Prop} {L T ds : List Nat} (h : Mid ts W a n here G L T ds) (e : ts[t]? = some (here, v)) (hW : t ∉ W) (hv : v ∉ L.drop 1) (hx : ds[n]? = some x) (hG : ∀ w, G' w → G w ∨ w = v) :
    Mid ts W a n here G' (L ++ [v]) (T ++ [t]) (ds ++ [x + 1]) := by
  have hb := h.b
  have hn := (List.getElem?_eq_some_iff.mp h.at_).1
  have l1 := hb.l1
  have l2 := hb.l2
  have hdrop : (L ++ [v]).drop 1 = L.drop 1 ++ [v] := by rw [List.drop_append_of_le_length (by omega)]
  have ha : 0 < n → here ≠ a := fun hn0 hha => by
    subst hha
    obtain ⟨j, y, g1, _⟩ := h.cl 0 here 0 v hn0 hb.l0 hb.d0 ⟨t, e, hW⟩
    exact hv (get_drop.mpr ⟨j, g1⟩)
  have hwk := hb.wk n here x h.at_ hx
  refine ⟨⟨by simp; omega, by simp; omega, get_snoc _ hb.l0, get_snoc _ hb.d0, ?_, fun i j p q hij g1 g2 => ?_, fun j s g => ?_, fun j w p g1 g2 => ?_⟩, get_snoc _ h.at_, fun i u p w hi g1 g2 he => ?_, fun j y p g1 g2 => ?_, fun w hw => ?_⟩
  · rw [hdrop, List.nodup_append]
    exact ⟨hb.nd, by simp, fun p hp q hq => by rw [List.mem_singleton.mp hq]; rintro rfl; exact hv hp⟩
  · rcases of_snoc g2 with ⟨k2, k3⟩ | ⟨k2, k3⟩
    · rcases of_snoc g1 with ⟨k4, _⟩ | ⟨k4, _⟩
      · exact hb.mono i j p q hij k4 k2
      · omega
    · rcases of_snoc g1 with ⟨k4, _⟩ | ⟨k4, _⟩
      · have := h.up i p x k4 hx
        omega
      · omega
  · rcases of_snoc g with ⟨k2, k3⟩ | ⟨k2, k3⟩
    · obtain ⟨u, w, i, p, q1, q2, q3, q4, q5, q6, q7, q8⟩ := hb.by_ j s k2
      exact ⟨u, w, i, p, q1, q2, get_snoc _ q3, q4, get_snoc _ q5, get_snoc _ q6, get_snoc _ q7, q8⟩
    · subst k2 k3
      refine ⟨here, v, n, x, e, hW, ?_, by omega, get_snoc _ h.at_, get_snoc _ hx, ?_, ha⟩
      · rw [← l1]; exact last_snoc _ _
      · rw [← l1, ← l2]; exact last_snoc _ _
  · rcases of_snoc g1 with ⟨k2, k3⟩ | ⟨k2, k3⟩
    · rcases of_snoc g2 with ⟨k4, _⟩ | ⟨k4, _⟩
      · exact hb.wk j w p k2 k4
      · omega
    · rcases of_snoc g2 with ⟨k4, k5⟩ | ⟨_, k5⟩
      · omega
      · subst k3 k5
        exact .snoc hwk ⟨t, e, hW⟩
  · have hil : i < L.length := by omega
    rcases of_snoc g1 with ⟨k2, _⟩ | ⟨k2, _⟩
    · rcases of_snoc g2 with ⟨k4, _⟩ | ⟨k4, _⟩
      · obtain ⟨j, y, r1, r2, r3⟩ := h.cl i u p w hi k2 k4 he
        exact ⟨j, y, get_snoc _ r1, get_snoc _ r2, r3⟩
      · omega
    · omega
  · have hp : p = x := by
      rcases of_snoc g2 with ⟨k4, _⟩ | ⟨k4, _⟩
      · rw [hx] at k4; cases k4; rfl
      · omega
    subst hp
    rcases of_snoc g1 with ⟨k2, _⟩ | ⟨_, k2⟩
    · exact h.up j y p k2 hx
    · omega
  · rw [hdrop]
    rcases hG w hw with z | z
    · exact List.mem_append_left _ (h.dn w z)
    · rw [z]; simp
theorem mid_old {ts : List (Nat × Nat)} {W : List Nat} {a n here : Nat} {G G' : Nat → Prop} {L T ds : List Nat} (h : Mid ts W a n here G L T ds) (hG : ∀ w, G' w → G w ∨ w ∈ L.drop 1) : Mid ts W a n here G' L T ds :=
  ⟨h.b, h.at_, h.cl, h.up, fun v hv => (hG v hv).elim (h.dn v) id⟩
theorem mid_done {ts : List (Nat × Nat)} {W : List Nat} {a n here : Nat} {G : Nat → Prop} {L T ds : List Nat} (h : Mid ts W a n here G L T ds) (hG : ∀ v, Edge ts W here v → G v) : Bfs ts W a L T ds ∧ Done ts W (n + 1) L ds := by
  refine ⟨h.b, ⟨fun i u x v hi g1 g2 he => ?_, fun j y x _ g1 g2 => h.up j y x g1 g2, fun z => by omega⟩⟩
  by_cases c : i < n
  · exact h.cl i u x v c g1 g2 he
  · have e : i = n := by omega
    subst e
    rw [h.at_] at g1
    cases g1
    obtain ⟨j, hj⟩ := get_drop.mp (h.dn v (hG v he))
    have hl := (List.getElem?_eq_some_iff.mp hj).1
    obtain ⟨y, ey⟩ : ∃ y, ds[j + 1]? = some y := ⟨ds[j + 1]'(by rw [h.b.l2]; exact hl), List.getElem?_eq_getElem _⟩
    exact ⟨j, y, hj, ey, h.up _ _ _ ey g2⟩
/-- far was come to just now: by the fewest ties -/
theorem bfs_few {ts : List (Nat × Nat)} {W : List Nat} {a b n here : Nat} {G : Nat → Prop} {L T ds L' T' ds' : List Nat} (h : Bfs ts W a L T ds) (hd : Done ts W n L ds) (hn : n < L.length) (hb : b ∉ L.drop 1)
    (h' : Mid ts W a n here G L' T' ds') (hds : ds[n]? = ds'[n]?) {j y : Nat} (e1 : L'[j + 1]? = some b) (e2 : ds'[j + 1]? = some y) : Few (Edge ts W) a b y := by
  have hw := h'.b.wk _ _ _ e1 e2
  have hl := (List.getElem?_eq_some_iff.mp e1).1
  obtain ⟨t, et⟩ : ∃ t, T'[j]? = some t := ⟨T'[j]'(by have := h'.b.l1; omega), List.getElem?_eq_getElem _⟩
  obtain ⟨u, v, i, x, _, _, _, _, _, _, q7, _⟩ := h'.b.by_ j t et
  rw [e2] at q7
  have ey : y = x + 1 := Option.some.inj q7
  obtain ⟨z, ez⟩ : ∃ z, ds[n]? = some z := ⟨ds[n]'(by rw [h.l2]; exact hn), List.getElem?_eq_getElem _⟩
  have hz := h'.up (j + 1) y z e2 (by rw [← hds]; exact ez)
  refine ⟨by omega, hw, fun k k1 k2 hk => ?_⟩
  obtain ⟨j', _, g1, _⟩ := bfs_all h hd k b k1 hk fun x' _ ex' => by
    rw [ez] at ex'
    cases ex'
    omega
  exact hb (get_drop.mpr ⟨j', g1⟩)
theorem bfs_none {ts : List (Nat × Nat)} {W : List Nat} {a b n : Nat} {L T ds : List Nat} (h : Bfs ts W a L T ds) (hd : Done ts W n L ds) (hn : ¬ n < L.length) (hb : b ∉ L.drop 1) : ∀ k, 1 ≤ k → ¬ Wk (Edge ts W) k a b := by
  intro k k1 hk
  obtain ⟨j, _, g1, _⟩ := bfs_all h hd k b k1 hk fun x hx => absurd hx hn
  exact hb (get_drop.mpr ⟨j, g1⟩)
/-! ### the way back -/
inductive Pth (ts : List (Nat × Nat)) (W : List Nat) : Nat → List Nat → Nat → Prop where
  | one {t u v : Nat} : ts[t]? = some (u, v) → t ∉ W → Pth ts W u [t] v
  | cons {t u x v : Nat} {r : List Nat} : ts[t]? = some (u, x) → t ∉ W → Pth ts W x r v → Pth ts W u (t :: r) v
end My
namespace My
/-! ### parts by two searches in depth -/
theorem rch_refl {E : Nat → Nat → Prop} (u : Nat) : Rch E u u := ⟨0, .nil u⟩
theorem rch_trans {E : Nat → Nat → Prop} {u v w : Nat} (a : Rch E u v) (b : Rch E v w) : Rch E u w := by
  obtain ⟨j, a⟩ := a
  obtain ⟨k, b⟩ := b
  exact ⟨j + k, wk_append a b⟩
theorem rch_one {E : Nat → Nat → Prop} {u v : Nat} (a : E u v) : Rch E u v := ⟨1, .snoc (.nil u) a⟩
theorem rch_closed {E : Nat → Nat → Prop} {S : Nat → Prop} (h : ∀ u v, S u → E u v → S v) {u v : Nat} (hu : S u) (r : Rch E u v) : S v := by
  obtain ⟨k, r⟩ := r
  induction r with
  | nil => exact hu
  | snoc _ e ih => exact h _ _ (ih hu) e
theorem rch_flip {E : Nat → Nat → Prop} {u v : Nat} (r : Rch E u v) : Rch (fun a b => E b a) v u := by
  obtain ⟨k, r⟩ := r
  induction r with
  | nil => exact rch_refl _
  | snoc _ e ih => exact rch_trans (rch_one e) (ih)
/-- walking from inside a lot to outside of it, one leaves it somewhere -/
theorem rch_leave {E : Nat → Nat → Prop} {S : Nat → Prop} {u v : Nat} (hu : S u) (hv : ¬ S v) (r : Rch E u v) : ∃ x y, S x ∧ ¬ S y ∧ E x y ∧ Rch E u x ∧ Rch E y v := by
  obtain ⟨k, r⟩ := r
  induction r with
  | nil => exact absurd hu hv
  | @snoc k u x v a e ih =>
    by_cases c : S x
    · exact ⟨x, v, c, hv, e, ⟨_, a⟩, rch_refl v⟩
    · obtain ⟨x', y', h1, h2, h3, h4, h5⟩ := ih hu c
      exact ⟨x', y', h1, h2, h3, h4, rch_trans h5 (rch_one e)⟩
/-- a search in depth: what it left, its trail -/
structure Dfs (adj : Nat → List Nat) (p0 : Nat) (S0 seen : Nat → Prop) (left : List Nat) (tr : List (Nat × Nat)) : Prop where
  nd : (left ++ tr.map Prod.fst).Nodup
  iff_ : ∀ x, seen x ↔ S0 x ∨ x ∈ left ∨ x ∈ tr.map Prod.fst
  new : ∀ x, x ∈ left ∨ x ∈ tr.map Prod.fst → ¬ S0 x
  fin : ∀ x ∈ left, ∀ y ∈ adj x, seen y
  frm : ∀ f ∈ tr, ∀ y ∈ (adj f.1).take f.2, seen y
  chain : (tr.map Prod.fst).Pairwise fun a b => Rch (fun u v => v ∈ adj u) a b
  ok : ∀ x, x ∈ left ∨ x ∈ tr.map Prod.fst → Rch (fun u v => v ∈ adj u) p0 x
  mem : p0 ∈ left ∨ p0 ∈ tr.map Prod.fst
  star : ∀ A q B, left = A ++ q :: B → ∀ p, Rch (fun u v => v ∈ adj u) q p → S0 p ∨ p ∈ A ∨ p = q ∨ ∃ y, (y ∈ B ∨ y ∈ tr.map Prod.fst) ∧ Rch (fun u v => v ∈ adj u) q y ∧ Rch (fun u v => v ∈ adj u) y q ∧ Rch (fun u v => v ∈ adj u) y p
section
variable {adj : Nat → List Nat} {p0 : Nat} {S0 seen : Nat → Prop} {left : List Nat} {tr : List (Nat × Nat)} {x i : Nat}
theorem dfs_start (h : ¬ S0 p0) (hs : ∀ x, seen x ↔ S0 x ∨ x = p0) : Dfs adj p0 S0 seen [] [(p0, 0)] where
  nd := by simp
  iff_ := fun x => by rw [hs]; simp
  new := fun x hx => by
    rcases hx with z | z
    · cases z
    · have : x = p0 := by simpa using z
      rw [this]; exact h
  fin := fun x hx => by cases hx
  frm := fun f hf y hy => by
    have : f = (p0, 0) := by simpa using hf
    subst this
    simp at hy
  chain := by simp
  ok := fun x hx => by
    rcases hx with z | z
    · cases z
    · have : x = p0 := by simpa using z
      rw [this]; exact rch_refl _
  mem := .inr (by simp)
  star := fun A q B e => by simp at e
/-- the next one was seen -/
theorem dfs_old (h : Dfs adj p0 S0 seen left (tr ++ [(x, i)])) {y : Nat} (hy : (adj x)[i]? = some y) (hs : seen y) : Dfs adj p0 S0 seen left (tr ++ [(x, i + 1)]) := by
  have e : (tr ++ [(x, i + 1)]).map Prod.fst = (tr ++ [(x, i)]).map Prod.fst := by simp
  refine ⟨e ▸ h.nd, fun z => by rw [e]; exact h.iff_ z, fun z => by rw [e]; exact h.new z, h.fin, fun f hf z hz => ?_, by rw [e]; exact h.chain, fun z => by rw [e]; exact h.ok z, by rw [e]; exact h.mem, by rw [e]; exact h.star⟩
  rcases List.mem_append.mp hf with c | c
  · exact h.frm f (List.mem_append_left _ c) z hz
  · have : f = (x, i + 1) := by simpa using c
    subst this
    rw [show (adj x).take (i + 1) = (adj x).take i ++ [y] by rw [List.take_succ, hy]; rfl] at hz
    rcases List.mem_append.mp hz with c | c
    · exact h.frm (x, i) (List.mem_append_right _ (by simp)) z c
    · rw [List.mem_singleton.mp c]; exact hs
/-- the next one is new -/
theorem dfs_new (h : Dfs adj p0 S0 seen left (tr ++ [(x, i)])) {y : Nat} (hy : (adj x)[i]? = some y) (hs : ¬ seen y) {seen' : Nat → Prop} (hs' : ∀ z, seen' z ↔ seen z ∨ z = y) : Dfs adj p0 S0 seen' left (tr ++ [(x, i + 1)] ++ [(y, 0)]) := by
  have e : (tr ++ [(x, i + 1)] ++ [(y, 0)]).map Prod.fst = (tr ++ [(x, i)]).map Prod.fst ++ [y] := by simp
  have hn := (not_congr (h.iff_ y)).mp hs
  have hxy : y ∈ adj x := List.mem_of_getElem? hy
  have hxt : x ∈ (tr ++ [(x, i)]).map Prod.fst := by simp
  refine ⟨?_, fun z => ?_, fun z hz => ?_, fun z hz w hw => (hs' w).mpr (.inl (h.fin z hz w hw)), fun f hf z hz => ?_, ?_, fun z hz => ?_, ?_, fun A q B el p hp => ?_⟩
  · rw [e, ← List.append_assoc, List.nodup_append]
    refine ⟨h.nd, by simp, fun a ha b hb => ?_⟩
    rw [List.mem_singleton.mp hb]
    rintro rfl
    rcases List.mem_append.mp ha with c | c
    · exact hn (.inr (.inl c))
    · exact hn (.inr (.inr c))
  · rw [hs', h.iff_, e, List.mem_append, List.mem_singleton]
    constructor
    · rintro ((a | a | a) | a)
      · exact .inl a
      · exact .inr (.inl a)
      · exact .inr (.inr (.inl a))
      · exact .inr (.inr (.inr a))
    · rintro (a | a | a | a)
      · exact .inl (.inl a)
      · exact .inl (.inr (.inl a))
      · exact .inl (.inr (.inr a))
      · exact .inr a
  · rw [e, List.mem_append, List.mem_singleton] at hz
    rcases hz with c | c | c
    · exact h.new z (.inl c)
    · exact h.new z (.inr c)
    · rw [c]; exact fun q => hn (.inl q)
  · rcases List.mem_append.mp hf with c | c
    · rcases List.mem_append.mp c with c | c
      · exact (hs' z).mpr (.inl (h.frm f (List.mem_append_left _ c) z hz))
      · have : f = (x, i + 1) := by simpa using c
        subst this
        rw [show (adj x).take (i + 1) = (adj x).take i ++ [y] by rw [List.take_succ, hy]; rfl] at hz
        rcases List.mem_append.mp hz with c | c
        · exact (hs' z).mpr (.inl (h.frm (x, i) (List.mem_append_right _ (by simp)) z c))
        · exact (hs' z).mpr (.inr (List.mem_singleton.mp c))
    · have : f = (y, 0) := by simpa using c
      subst this
      simp at hz
  · rw [e, List.pairwise_append]
    refine ⟨h.chain, by simp, fun a ha b hb => ?_⟩
    rw [List.mem_singleton.mp hb]
    rw [List.map_append, List.mem_append] at ha
    have hc := h.chain
    rw [List.map_append, List.pairwise_append] at hc
    rcases ha with c | c
    · exact rch_trans (hc.2.2 a c x (by simp)) (rch_one hxy)
    · have : a = x := by simpa using c
      rw [this]
      exact rch_one hxy
  · rw [e, List.mem_append, List.mem_singleton] at hz
    rcases hz with c | c | c
    · exact h.ok z (.inl c)
    · exact h.ok z (.inr c)
    · rw [c]; exact rch_trans (h.ok x (.inr hxt)) (rch_one hxy)
  · rw [e, List.mem_append]
    rcases h.mem with c | c
    · exact .inl c
    · exact .inr (.inl c)
  · rcases h.star A q B el p hp with a | a | a | ⟨z, hz, r⟩
    · exact .inl a
    · exact .inr (.inl a)
    · exact .inr (.inr (.inl a))
    · refine .inr (.inr (.inr ⟨z, ?_, r⟩))
      rw [e, List.mem_append]
      rcases hz with c | c
      · exact .inl c
      · exact .inr (.inl c)
/-- the last one of the trail is left -/
theorem dfs_leave (h : Dfs adj p0 S0 seen left (tr ++ [(x, i)])) (hi : (adj x).length ≤ i) (hS : ∀ u v, S0 u → v ∈ adj u → S0 v) : Dfs adj p0 S0 seen (left ++ [x]) tr := by
  have em : (tr ++ [(x, i)]).map Prod.fst = tr.map Prod.fst ++ [x] := by simp
  have hfx : ∀ y ∈ adj x, seen y := fun y hy => h.frm (x, i) (List.mem_append_right _ (by simp)) y (by rw [List.take_of_length_le hi]; exact hy)
  have hx0 : ¬ S0 x := h.new x (.inr (by simp))
  have hnd := h.nd
  rw [em] at hnd
  have perm : (left ++ (tr.map Prod.fst ++ [x])).Perm (left ++ [x] ++ tr.map Prod.fst) := by
    rw [List.append_assoc]
    exact List.Perm.append_left left List.perm_append_comm
  have mm : ∀ z, (z ∈ left ++ [x] ∨ z ∈ tr.map Prod.fst) ↔ (z ∈ left ∨ z ∈ (tr ++ [(x, i)]).map Prod.fst) := fun z => by
    rw [em, List.mem_append, List.mem_append, List.mem_singleton]
    constructor
    · rintro ((a | a) | a)
      · exact .inl a
      · exact .inr (.inr a)
      · exact .inr (.inl a)
    · rintro (a | a | a)
      · exact .inl (.inl a)
      · exact .inr a
      · exact .inl (.inr a)
  have hch := h.chain
  rw [em, List.pairwise_append] at hch
  have finAll : ∀ z, z ∈ left ++ [x] → ∀ y ∈ adj z, seen y := fun z hz => by
    rcases List.mem_append.mp hz with c | c
    · exact h.fin z c
    · rw [List.mem_singleton.mp c]; exact hfx
  refine ⟨perm.nodup_iff.mp hnd, fun z => by rw [h.iff_, mm], fun z hz => h.new z ((mm z).mp hz), finAll, fun f hf => h.frm f (List.mem_append_left _ hf), hch.1, fun z hz => h.ok z ((mm z).mp hz), (mm _).mpr h.mem, fun A q B el p hp => ?_⟩
  rcases List.eq_nil_or_concat B with rfl | ⟨B', b, rfl⟩
  · -- the one just left
    have el2 : left ++ [x] = A ++ [q] := el
    obtain ⟨rfl, hq⟩ := List.append_inj' el2 rfl
    have hq : x = q := by simpa using hq
    subst hq
    by_cases c0 : S0 p ∨ p ∈ left ∨ p = x
    · rcases c0 with a | a | a
      · exact .inl a
      · exact .inr (.inl a)
      · exact .inr (.inr (.inl a))
    · obtain ⟨u, y, hu, hy, huy, r1, r2⟩ := rch_leave (S := fun z => S0 z ∨ z ∈ left ∨ z = x) (.inr (.inr rfl)) c0 hp
      have hsy : seen y := by
        rcases hu with a | a | a
        · exact absurd (.inl (hS _ _ a huy)) hy
        · exact h.fin u a y huy
        · rw [a] at huy; exact hfx y huy
      have hty : y ∈ tr.map Prod.fst := by
        rcases (h.iff_ y).mp hsy with a | a | a
        · exact absurd (.inl a) hy
        · exact absurd (.inr (.inl a)) hy
        · rw [em, List.mem_append, List.mem_singleton] at a
          rcases a with a | a
          · exact a
          · exact absurd (.inr (.inr a)) hy
      exact .inr (.inr (.inr ⟨y, .inr hty, rch_trans r1 (rch_one huy), hch.2.2 y hty x (by simp), r2⟩))
  · rw [List.concat_eq_append] at el ⊢
    have el2 : left ++ [x] = (A ++ q :: B') ++ [b] := by rw [el]; simp
    obtain ⟨rfl, hb⟩ := List.append_inj' el2 rfl
    have hb : x = b := by simpa using hb
    subst hb
    rcases h.star A q B' rfl p hp with a | a | a | ⟨z, hz, r⟩
    · exact .inl a
    · exact .inr (.inl a)
    · exact .inr (.inr (.inl a))
    · refine .inr (.inr (.inr ⟨z, ?_, r⟩))
      rw [em, List.mem_append, List.mem_singleton] at hz
      rcases hz with c | c | c
      · exact .inl (List.mem_append_left _ c)
      · exact .inr c
      · exact .inl (List.mem_append_right _ (by rw [c]; simp))
/-- at the end -/
theorem dfs_end (h : Dfs adj p0 S0 seen left []) (hS : ∀ u v, S0 u → v ∈ adj u → S0 v) :
    left.Nodup ∧ (∀ x, seen x ↔ S0 x ∨ x ∈ left) ∧ (∀ x, x ∈ left ↔ Rch (fun u v => v ∈ adj u) p0 x ∧ ¬ S0 x) ∧ (∀ u v, seen u → v ∈ adj u → seen v) ∧
      ∀ A q B, left = A ++ q :: B → ∀ p, Rch (fun u v => v ∈ adj u) q p → S0 p ∨ p ∈ A ∨ p = q ∨ ∃ y ∈ B, Rch (fun u v => v ∈ adj u) q y ∧ Rch (fun u v => v ∈ adj u) y q ∧ Rch (fun u v => v ∈ adj u) y p := by
  have hs : ∀ x, seen x ↔ S0 x ∨ x ∈ left := fun x => by rw [h.iff_]; simp
  have hcl : ∀ u v, seen u → v ∈ adj u → seen v := fun u v hu hv => by
    rcases (hs u).mp hu with a | a
    · exact (hs v).mpr (.inl (hS u v a hv))
    · exact h.fin u a v hv
  have hp0 : p0 ∈ left := by
    rcases h.mem with a | a
    · exact a
    · simp at a
  refine ⟨by simpa using h.nd, hs, fun x => ⟨fun hx => ⟨h.ok x (.inl hx), h.new x (.inl hx)⟩, fun ⟨r, hn⟩ => ?_⟩, hcl, fun A q B el p hp => ?_⟩
  · have := rch_closed hcl ((hs p0).mpr (.inr hp0)) r
    rcases (hs x).mp this with a | a
    · exact absurd a hn
    · exact a
  · rcases h.star A q B el p hp with a | a | a | ⟨z, hz, r⟩
    · exact .inl a
    · exact .inr (.inl a)
    · exact .inr (.inr (.inl a))
    · rcases hz with c | c
      · exact .inr (.inr (.inr ⟨z, c, r⟩))
      · simp at c
end
/-! ### the measure of a search -/
/-- steps that are still to be made: for points not seen, and for the trail -/
def todo (adj : Nat → List Nat) (seen : List Bool) : Nat → Nat
  | 0 => 0
  | n + 1 => todo adj seen n + (if seen[n]? = some false then (adj n).length + 2 else 0)
def owed (adj : Nat → List Nat) : List (Nat × Nat) → Nat
  | [] => 0
  | f :: r => ((adj f.1).length - f.2 + 1) + owed adj r
theorem owed_app (adj : Nat → List Nat) : ∀ a b : List (Nat × Nat), owed adj (a ++ b) = owed adj a + owed adj b
  | [], b => by simp [owed]
  | f :: r, b => by
    show _ + owed adj (r ++ b) = _ + owed adj r + owed adj b
    rw [owed_app adj r b]
    omega
theorem todo_set (adj : Nat → List Nat) {seen : List Bool} {y : Nat} (h : seen[y]? = some false) : ∀ n, todo adj (seen.set y true) n + (if y < n then (adj y).length + 2 else 0) = todo adj seen n
  | 0 => by simp [todo]
  | n + 1 => by
    have ih := todo_set adj h n
    show (todo adj (seen.set y true) n + (if (seen.set y true)[n]? = some false then (adj n).length + 2 else 0)) + _ = todo adj seen n + (if seen[n]? = some false then (adj n).length + 2 else 0)
    by_cases c : y = n
    · subst c
      have hl : y < seen.length := (List.getElem?_eq_some_iff.mp h).1
      have e1 : (seen.set y true)[y]? = some true := by simp [hl]
      rw [e1, h, if_pos (show y < y + 1 by omega), if_pos (show some false = some false from rfl), if_neg (show ¬ (some true = some false) by simp)]
      rw [if_neg (show ¬ y < y by omega)] at ih
      omega
    · have e1 : (seen.set y true)[n]? = seen[n]? := by rw [List.getElem?_set_ne c]
      rw [e1]
      by_cases d : y < n
      · rw [if_pos (show y < n + 1 by omega)]
        rw [if_pos d] at ih
        omega
      · rw [if_neg (show ¬ y < n + 1 by omega)]
        rw [if_neg d] at ih
        omega
end My
namespace My
open PySem PySem.W L2 L2.DX PyProof.Rows
/-! ### the parts of a web -/
def Mut (E : Nat → Nat → Prop) (u v : Nat) : Prop := Rch E u v ∧ Rch E v u
theorem mut_refl {E : Nat → Nat → Prop} (u : Nat) : Mut E u u := ⟨rch_refl u, rch_refl u⟩
theorem Mut.symm {E : Nat → Nat → Prop} {u v : Nat} (h : Mut E u v) : Mut E v u := ⟨h.2, h.1⟩
theorem Mut.trans {E : Nat → Nat → Prop} {u v w : Nat} (h : Mut E u v) (k : Mut E v w) : Mut E u w := ⟨rch_trans h.1 k.1, rch_trans k.2 h.2⟩
theorem rch_back {E F : Nat → Nat → Prop} (h : ∀ a b, F a b ↔ E b a) {u v : Nat} : Rch F u v ↔ Rch E v u := by
  constructor
  · intro r
    obtain ⟨k, r⟩ := rch_flip r
    refine rch_closed (S := fun x => Rch E v x) (fun a b ha e => rch_trans ha (rch_one ((h b a).mp e))) (rch_refl v) ⟨k, r⟩
  · intro r
    obtain ⟨k, r⟩ := rch_flip r
    refine rch_closed (S := fun x => Rch F u x) (fun a b ha e => rch_trans ha (rch_one ((h a b).mpr e))) (rch_refl u) ⟨k, r⟩
theorem mut_back {E F : Nat → Nat → Prop} (h : ∀ a b, F a b ↔ E b a) {u v : Nat} : Mut F u v ↔ Mut E u v := by
  unfold Mut
  rw [rch_back h, rch_back h]
  exact ⟨fun z => ⟨z.2, z.1⟩, fun z => ⟨z.2, z.1⟩⟩
theorem rch_low {E : Nat → Nat → Prop} {N : Nat} (h : ∀ a b, E a b → a < N) {u v : Nat} (hv : v < N) (r : Rch E u v) : u < N := by
  by_cases c : u = v
  · omega
  · obtain ⟨x, y, hx, hy, e, _⟩ := rch_leave (S := fun z => z = u) rfl (fun z => c z.symm) r
    rw [hx] at e
    exact h _ _ e
/-- the sequence in which a search leaves the points -/
def StarL (E : Nat → Nat → Prop) (L : List Nat) : Prop := ∀ A q B, L = A ++ q :: B → ∀ x, Rch E q x → x ∈ A ∨ x = q ∨ ∃ y ∈ B, Rch E q y ∧ Rch E y q ∧ Rch E y x
theorem star_nil {E : Nat → Nat → Prop} : StarL E [] := fun A q B e => by simp at e
theorem star_app {E : Nat → Nat → Prop} {L M : List Nat} (h : StarL E L) (k : ∀ A q B, M = A ++ q :: B → ∀ x, Rch E q x → x ∈ L ∨ x ∈ A ∨ x = q ∨ ∃ y ∈ B, Rch E q y ∧ Rch E y q ∧ Rch E y x) : StarL E (L ++ M) := by
  intro A q B e x r
  rcases List.append_eq_append_iff.mp e with ⟨a', h1, h2⟩ | ⟨c', h1, h2⟩
  · rcases k a' q B h2 x r with z | z | z | z
    · exact .inl (by rw [h1]; exact List.mem_append_left _ z)
    · exact .inl (by rw [h1]; exact List.mem_append_right _ z)
    · exact .inr (.inl z)
    · exact .inr (.inr z)
  · cases c' with
    | nil =>
      simp at h1 h2
      rcases k [] q B (by rw [← h2]; rfl) x r with z | z | z | z
      · exact .inl (by rw [← h1]; exact z)
      · simp at z
      · exact .inr (.inl z)
      · exact .inr (.inr z)
    | cons c0 cr =>
      have e0 : q = c0 := (List.cons.inj h2).1
      have e1 : B = cr ++ M := (List.cons.inj h2).2
      subst e0
      rcases h A q cr h1 x r with z | z | ⟨y, hy, z⟩
      · exact .inl z
      · exact .inr (.inl z)
      · exact .inr (.inr ⟨y, by rw [e1]; exact List.mem_append_left _ hy, z⟩)
theorem star_class {E : Nat → Nat → Prop} {q : Nat} {B : List Nat} : ∀ (n : Nat) {A1 A2 : List Nat} {x : Nat}, A2.length ≤ n → StarL E (A1 ++ x :: (A2 ++ q :: B)) → (A1 ++ x :: (A2 ++ q :: B)).Nodup → Rch E x q → Mut E x q ∨ ∃ y ∈ B, Mut E x y := by
  intro n
  induction n with
  | zero =>
    intro A1 A2 x hn hs hd r
    have e : A2 = [] := List.length_eq_zero_iff.mp (by omega)
    subst e
    rw [List.nil_append] at hs hd
    have hd2 := List.nodup_append.mp hd
    rcases hs A1 x _ rfl q r with z | z | ⟨y, hy, r1, r2, r3⟩
    · exact absurd rfl (hd2.2.2 q z q (by simp))
    · have := (List.nodup_cons.mp hd2.2.1).1
      rw [z] at this
      exact absurd List.mem_cons_self this
    · rcases List.mem_cons.mp hy with z | z
      · rw [z] at r1 r2
        exact .inl ⟨r1, r2⟩
      · exact .inr ⟨y, z, r1, r2⟩
  | succ n ih =>
    intro A1 A2 x hn hs hd r
    have hd2 := List.nodup_append.mp hd
    rcases hs A1 x _ rfl q r with z | z | ⟨y, hy, r1, r2, r3⟩
    · exact absurd rfl (hd2.2.2 q z q (by simp))
    · have := (List.nodup_cons.mp hd2.2.1).1
      rw [z] at this
      exact absurd (by simp) this
    · rcases List.mem_append.mp hy with z | z
      · obtain ⟨C1, C2, rfl⟩ := List.append_of_mem z
        have e2 : A1 ++ x :: (C1 ++ y :: C2 ++ q :: B) = (A1 ++ x :: C1) ++ y :: (C2 ++ q :: B) := by simp
        rw [e2] at hs hd
        have hl : C2.length ≤ n := by
          rw [List.length_append, List.length_cons] at hn
          omega
        rcases ih hl hs hd r3 with w | ⟨v, hv, w⟩
        · exact .inl (Mut.trans ⟨r1, r2⟩ w)
        · exact .inr ⟨v, hv, Mut.trans ⟨r1, r2⟩ w⟩
      · rcases List.mem_cons.mp z with w | w
        · rw [w] at r1 r2
          exact .inl ⟨r1, r2⟩
        · exact .inr ⟨y, w, r1, r2⟩
theorem class_of {E : Nat → Nat → Prop} {A B : List Nat} {q : Nat} {S : Nat → Prop} (hs : StarL E (A ++ q :: B)) (hd : (A ++ q :: B).Nodup) (hall : ∀ x, Rch E x q → x ∈ A ++ q :: B) (hS : ∀ x, S x ↔ ∃ y ∈ B, Mut E y x) (hq : ¬ S q) (x : Nat) : (Rch E x q ∧ ¬ S x) ↔ Mut E q x := by
  constructor
  · rintro ⟨r, hn⟩
    rcases List.mem_append.mp (hall x r) with z | z
    · obtain ⟨A1, A2, rfl⟩ := List.append_of_mem z
      rw [show A1 ++ x :: A2 ++ q :: B = A1 ++ x :: (A2 ++ q :: B) by simp] at hs hd
      rcases star_class A2.length (Nat.le_refl _) hs hd r with w | ⟨y, hy, w⟩
      · exact w.symm
      · exact absurd ((hS x).mpr ⟨y, hy, w.symm⟩) hn
    · rcases List.mem_cons.mp z with w | w
      · rw [w]; exact mut_refl q
      · exact absurd ((hS x).mpr ⟨x, w, mut_refl x⟩) hn
  · intro h
    refine ⟨h.2, fun z => hq ?_⟩
    obtain ⟨y, hy, w⟩ := (hS x).mp z
    exact (hS q).mpr ⟨y, hy, w.trans h.symm⟩
/-! ### as they are told -/
noncomputable def bdec (p : Prop) : Bool := @decide p (Classical.propDecidable p)
theorem bdec_iff {p : Prop} : bdec p = true ↔ p := by
  unfold bdec
  exact @decide_eq_true_iff p (Classical.propDecidable p)
noncomputable def clsL (E : Nat → Nat → Prop) (N p : Nat) : List Nat := (List.range N).filter fun x => bdec (Mut E p x)
theorem clsL_mem {E : Nat → Nat → Prop} {N p x : Nat} : x ∈ clsL E N p ↔ x < N ∧ Mut E p x := by
  unfold clsL
  rw [List.mem_filter, List.mem_range, bdec_iff]
theorem clsL_rising {E : Nat → Nat → Prop} {N p : Nat} : (clsL E N p).Pairwise (· < ·) := by
  unfold clsL
  exact List.Pairwise.filter _ List.pairwise_lt_range
theorem clsL_same {E : Nat → Nat → Prop} {N p q : Nat} (h : Mut E p q) : clsL E N p = clsL E N q := by
  unfold clsL
  congr 1
  funext x
  have e : Mut E p x ↔ Mut E q x := ⟨fun z => h.symm.trans z, fun z => h.trans z⟩
  rw [show (Mut E p x) = (Mut E q x) from propext e]
noncomputable def headsL (E : Nat → Nat → Prop) (N : Nat) : List Nat := (List.range N).filter fun p => bdec (∀ x, x < p → ¬ Mut E p x)
theorem headsL_mem {E : Nat → Nat → Prop} {N p : Nat} : p ∈ headsL E N ↔ p < N ∧ ∀ x, x < p → ¬ Mut E p x := by
  unfold headsL
  rw [List.mem_filter, List.mem_range, bdec_iff]
theorem headsL_rising {E : Nat → Nat → Prop} {N : Nat} : (headsL E N).Pairwise (· < ·) := by
  unfold headsL
  exact List.Pairwise.filter _ List.pairwise_lt_range
noncomputable def partsL (E : Nat → Nat → Prop) (N : Nat) : List (List Nat) := (headsL E N).map (clsL E N)
theorem least_of {P : Nat → Prop} : ∀ n, P n → ∃ m, P m ∧ ∀ x, x < m → ¬ P x := by
  intro n
  induction n using Nat.strongRecOn with
  | ind n ih =>
    intro hn
    by_cases c : ∃ x, x < n ∧ P x
    · obtain ⟨x, hx, h⟩ := c
      exact ih x hx h
    · exact ⟨n, hn, fun x hx h => c ⟨x, hx, h⟩⟩
/-- each point's least companion -/
theorem head_of {E : Nat → Nat → Prop} {N p : Nat} (hp : p < N) : ∃ h ∈ headsL E N, Mut E p h := by
  obtain ⟨m, h1, h2⟩ := least_of (P := fun x => Mut E p x) p (mut_refl p)
  refine ⟨m, headsL_mem.mpr ⟨?_, fun x hx hm => h2 x hx (h1.trans hm)⟩, h1⟩
  rcases Nat.lt_or_ge p m with c | c
  · exact absurd (mut_refl p) (h2 p c)
  · omega
theorem head_unique {E : Nat → Nat → Prop} {N a b : Nat} (ha : a ∈ headsL E N) (hb : b ∈ headsL E N) (h : Mut E a b) : a = b := by
  rw [headsL_mem] at ha hb
  rcases Nat.lt_trichotomy a b with c | c | c
  · exact absurd h.symm (hb.2 a c)
  · exact c
  · exact absurd h (ha.2 b c)
theorem clsL_head {E : Nat → Nat → Prop} {N p : Nat} (hp : p ∈ headsL E N) : ∃ r, clsL E N p = p :: r := by
  have h0 := headsL_mem.mp hp
  have hm : p ∈ clsL E N p := clsL_mem.mpr ⟨h0.1, mut_refl p⟩
  have hr := clsL_rising (E := E) (N := N) (p := p)
  cases e : clsL E N p with
  | nil => rw [e] at hm; simp at hm
  | cons a r =>
    rw [e] at hm hr
    have ha : a ∈ clsL E N p := by rw [e]; simp
    rcases List.mem_cons.mp hm with z | z
    · exact ⟨r, by rw [z]⟩
    · have h1 := (List.pairwise_cons.mp hr).1 p z
      exact absurd (clsL_mem.mp ha).2 (h0.2 a h1)
theorem parts_back {E F : Nat → Nat → Prop} (h : ∀ a b, F a b ↔ E b a) (N : Nat) : partsL F N = partsL E N := by
  have e : Mut F = Mut E := by
    funext u v
    exact propext (mut_back h)
  unfold partsL headsL clsL
  rw [e]
/-! ### sorted -/
abbrev dn (L : List Nat) : PyData := .list (L.map fun n : Nat => PyData.int (n : Int))
theorem keyTok_dn (a : Nat) (r : List Nat) : ∃ t, keyToks (dn (a :: r)) = .inl 1 :: .inl (a : Int) :: t := by
  refine ⟨keyToksAll (r.map fun n : Nat => PyData.int (n : Int)), ?_⟩
  show keyToks (.list (PyData.int (a : Int) :: (r.map fun n : Nat => PyData.int (n : Int)))) = _
  rw [keyToks, keyToksAll, keyToks]
  rfl
theorem dataLe_refl (d : PyData) : dataLe false id d d = true := by
  show (!(listOrd itemOrd).blt (keyToks d) (keyToks d)) = true
  rw [(listOrd itemOrd).irrefl]
  rfl
theorem dataLe_dn {a b : Nat} {r t : List Nat} (h : a ≠ b) : dataLe false id (dn (a :: r)) (dn (b :: t)) = decide (a ≤ b) := by
  obtain ⟨x, hx⟩ := keyTok_dn a r
  obtain ⟨y, hy⟩ := keyTok_dn b t
  show (!(lexLt itemOrd (keyToks (dn (b :: t))) (keyToks (dn (a :: r))))) = _
  rw [hx, hy, lex_cons, lex_cons]
  have e1 : itemOrd.blt (Sum.inl 1) (Sum.inl 1) = false := itemOrd.irrefl _
  have e2 : itemOrd.blt (Sum.inl (b : Int)) (Sum.inl (a : Int)) = decide ((b : Int) < (a : Int)) := rfl
  have e3 : itemOrd.blt (Sum.inl (a : Int)) (Sum.inl (b : Int)) = decide ((a : Int) < (b : Int)) := rfl
  rw [e1, e2, e3]
  by_cases c : a ≤ b
  · have h1 : (a : Int) < (b : Int) := by omega
    have h2 : ¬ (b : Int) < (a : Int) := by omega
    simp [c, h1, h2]
  · have h1 : ¬ (a : Int) < (b : Int) := by omega
    have h2 : (b : Int) < (a : Int) := by omega
    simp [c, h2]
theorem sort_parts {E : Nat → Nat → Prop} {N : Nat} {hs : List Nat} (hp : hs.Perm (headsL E N)) : ((hs.map (clsL E N)).map dn).mergeSort (dataLe false id) = (partsL E N).map dn := by
  have hmem : ∀ a ∈ hs, a ∈ headsL E N := fun a ha => hp.mem_iff.mp ha
  rw [List.map_map, ← List.map_mergeSort (f := dn ∘ clsL E N) (r := fun a b : Nat => decide (a ≤ b)) (s := dataLe false id) (l := hs) (fun a ha b hb => ?_)]
  · unfold partsL
    rw [List.map_map]
    congr 1
    have h1 : (hs.mergeSort fun a b : Nat => decide (a ≤ b)).Pairwise (fun a b => decide (a ≤ b) = true) := List.pairwise_mergeSort (fun a b c h k => by simp at *; omega) (fun a b => by simp; omega) hs
    have h2 : (hs.mergeSort fun a b : Nat => decide (a ≤ b)).Perm (headsL E N) := (List.mergeSort_perm _ _).trans hp
    refine h2.eq_of_pairwise ?_ (h1.imp fun h => of_decide_eq_true h) (headsL_rising.imp fun h => Nat.le_of_lt h)
    intro a b _ _ h k
    omega
  · by_cases c : a = b
    · subst c
      show decide (a ≤ a) = dataLe false id _ _
      rw [dataLe_refl]
      simp
    · obtain ⟨r, er⟩ := clsL_head (hmem a ha)
      obtain ⟨t, et⟩ := clsL_head (hmem b hb)
      show decide (a ≤ b) = dataLe false id (dn (clsL E N a)) (dn (clsL E N b))
      rw [er, et, dataLe_dn c]
end My
namespace My
open PySem L2 PyProof.Rows
theorem bl_is1 {x : Bool} {Q : VK} {H : Hp} (h : x = true) (q : Q (.bl true) H) : Q (.bl x) H := by
  rw [h]
  exact q
/-! ### a list that nobody asks for any more is forgotten -/
section
variable {X : Cx} {pins : List (Addr × Obj)} {σ : L2.St} {H1 H2 : Hp} {s : Shared} {D : Addr} {xs : List V}
theorem inv_drop (I : Inv X pins σ H1 s) (e : H1 = upd H2 D (.lst xs)) (n : H2 D = none) : Inv X pins σ H2 s := by
  subst e
  have off : ∀ b, upd H2 D (.lst xs) b = none → H2 b = none := fun b h => by
    by_cases hb : b = D
    · rw [hb]; exact n
    · rw [upd_ne hb] at h; exact h
  have back : ∀ b o, o ≠ HO.lst xs → upd H2 D (.lst xs) b = some o → H2 b = some o := fun b o ho h => by
    by_cases hb : b = D
    · subst hb
      rw [upd_same] at h
      exact absurd (Option.some.inj h).symm ho
    · rw [upd_ne hb] at h; exact h
  refine ⟨I.ok, I.os, I.bare, ?_, I.loc, I.cell, off _ I.free, fun x c h => off _ (I.freeC x c h), fun p hp => ?_, ?_, I.len⟩
  · have u := I.base
    refine ⟨u.keep, u.slot, fun b o h1 h2 h3 => off _ (u.free b o h1 h2 h3), u.there, fun b ys h => back _ _ (by intro z; cases z) (u.tups b ys h), fun b o v h => back _ _ (by intro z; cases z) (u.frzs b o v h), fun b ps h => ?_⟩
    obtain ⟨more, h⟩ := u.tbls b ps h
    exact ⟨more, back _ _ (by intro z; cases z) h⟩
  · obtain ⟨a, b, c⟩ := I.pin p hp
    exact ⟨a, off _ b, c⟩
  · intro a o h
    have ha : a ≠ D := fun z => by rw [z, n] at h; cases h
    refine (I.hok a o (by rw [upd_ne ha]; exact h)).stay (fun _ _ _ z => z) (fun b h => back _ _ (by intro z; cases z) h) (fun b ys h => back _ _ (by intro z; cases z) h)
theorem pe_drop {e : Expr} {te : TE} (he : PE X e te) : PE X e (fun σ H Q => te σ H fun v H1 => ∃ D xs H2, H1 = upd H2 D (.lst xs) ∧ H2 D = none ∧ Q v H2) := by
  refine ⟨fun pins s σ H Q I h => ?_⟩
  exact wpAny_mono (he.run pins s σ H _ I h) (fun u s1 ⟨v, H1, I1, r, D, xs, H2, e, n, q⟩ => ⟨v, H2, inv_drop I1 e n, r, q⟩) fun _ _ h => h
theorem ix_seqK {K : PySem.W.Frag} (h : X.K = K) : IxR X (rIx K) := h ▸ ix_seq
end
end My
/-! list(range(n)) -/
namespace My
open PySem PySem.Spec PyProof.Rows L2
section
variable {X : Cx}
theorem cr_range1 : CallR X (.type "range") (fun vs H Q => ∃ j, vs = [V.int j] ∧ ∀ p, H p = none → Q (.ref p) (upd H p (.rng 0 j))) := by
  intro pins s σ H vs us Q I r h
  obtain ⟨j, rfl, q⟩ := h
  obtain ⟨u1, rfl, ri⟩ := vals1 r
  obtain ⟨t, rfl⟩ := ri
  refine call_range_1 ⟨.ref s.heap.objs.size, upd H s.heap.objs.size (.rng 0 j), I.laid (t' := s.toks + 1 + 1) (fun b o e => Heap.get?_push_of_some _ e) (Nat.le_refl _) ?_, rfl, q _ (I.hok.fresh (Nat.le_refl _))⟩
  exact ⟨s.toks, t, s.toks + 1, Heap.get?_push_size _ rfl⟩
theorem call_listRng (hc : X.calm = true) : CallR X (.type "list") (fun xs H Q => ∃ (p : Addr) (n : Nat), xs = [.ref p] ∧ H p = some (.rng 0 (n : Int)) ∧ n ≤ 1000 ∧ ∀ q, H q = none → Q (.ref q) (upd H q (.lst ((List.range n).map fun i : Nat => V.int (i : Int))))) := by
  intro pins s σ H xs us Q I r h
  obtain ⟨p, n, e, hk, hn, q⟩ := h
  subst e
  obtain ⟨u, eu, rx⟩ := vals1 r
  subst eu
  obtain rfl : u = Value.ref p := rx
  obtain ⟨t1, t2, t3, ho⟩ := (show ObjOk X.prog X.w H s.heap p (.rng 0 (n : Int)) from I.hok p _ hk)
  refine call_list_range (n := n) (I.ok.hd hc) ho (small_one (by omega) (by omega) (by omega) (by omega)) (by rw [rangeSize_one]; split <;> omega) (by omega) fun h' tk items cap hkeep hS hacc => ?_
  refine ⟨.ref s.heap.objs.size, upd H s.heap.objs.size (.lst ((List.range n).map fun i : Nat => V.int (i : Int))), I.laid hkeep (Nat.le_refl _) (show ObjOk X.prog X.w _ _ _ (.lst ((List.range n).map fun i : Nat => V.int (i : Int))) from ⟨?_, items.toList, cap, ?_, ?_⟩), rfl, q _ (I.hok.fresh (Nat.le_refl _))⟩
  · rw [List.length_map, List.length_range]; exact Nat.le_trans hn (by decide)
  · have el : items.toList.length = n := by rw [Array.length_toList]; exact hacc.1
    refine vals_of_at (by rw [List.length_map, List.length_range, el]) fun j x z h1 h2 => ?_
    obtain ⟨t, e⟩ := hacc.2 j z (by rw [← Array.getElem?_toList]; exact h2)
    have hj : j < n := by rw [← el]; exact (List.getElem?_eq_some_iff.mp h2).1
    rw [List.getElem?_map, List.getElem?_range hj] at h1
    cases h1
    exact ⟨t, by rw [e]; simp⟩
  · rw [Array.toArray_toList]; exact hS
end
end My
namespace My
open PySem L2 PyProof.Rows
/-! ### contracts of defs that are called where nothing is being shown -/
structure FnG (P : Program) (w : World) (K : PySem.W.Frag) (mg : Str → Option Value) (base : Heap) (k : Nat) (f : Addr) (fd : FuncData) (ps : List Str) (sp : Sp) : Prop where
  len : ∀ vs H Q E, sp vs H Q E → vs.length = ps.length
  run : ∀ (A : Around) (outer : List Env) (s : Shared) (H : Hp) (args : Args) (us : List Value) (vs : List V) (Q : VK) (E : XK), Room k A → A.guards = some [] → Env0 P w K mg base A outer s H → BindsTo s fd args (ps.zip us) → Vals vs us → sp vs H Q E →
    codeAny (model P w) A (.call (.ref f) args) (CR CX0 outer P w H s Q E) s
section
variable {P : Program} {w : World} {K : PySem.W.Frag} {mg : Str → Option Value} {base : Heap}
theorem FnG.ofOk {k : Nat} {f : Addr} {fd : FuncData} {ps : List Str} {sp : Sp} (F : FnOk P w K mg base CX0 k f fd ps sp) : FnG P w K mg base k f fd ps sp :=
  ⟨F.len, fun A outer s H args us vs Q E hr _ he hb hv hs => F.run A outer s H args us vs Q E hr he hb hv hs⟩
theorem FnG.ofBody {x qual : Str} {st : Stmt} {f : Addr} {fd : FuncData} {N ps : List Str} {k : Nat} {sp : Sp} (F : Fun K x qual st f fd) (S : FnScope N ps (defScope st)) (len : ∀ vs H Q E, sp vs H Q E → vs.length = ps.length)
    (body : ∀ (cdv : Value) (A : Around) (outer : List Env) (s : Shared) (H : Hp) (vs : List V) (Q : VK) (E : XK), Room k (A.deeper (envOfC qual (defScope st) s.heap.objs.size f cdv)) → A.guards = some [] → sp vs H Q E →
      ∃ t, PSs (cxOf CX0 P w K mg base N qual (defScope st) f cdv A outer s H E).nox (defBody st) t ∧ t { nx := fun _ H' => Q .non H', rt := Q } (start N vs) H) : FnG P w K mg base (k + 1) f fd ps sp := by
  obtain ⟨oc, od, kV, doc, pm, an, cdv, ct, osl, rfl, lk, hcd⟩ := F.ex
  constructor
  · exact len
  intro A outer s H args us vs Q E room quiet env bound rel want
  have many := len _ _ _ _ want
  have inK : K.In s.heap := env.mod.kin.keeps (fun b o e => (env.bs b o e).1)
  have unlimited : s.heap.NoLimit := env.mod.nolimit.keeps (fun b o e => (env.bs b o e).1)
  have kinds : ∀ y ∈ ps.zip us, (defScope st).names.lookup y.1 = some .local ∨ ((defScope st).names.lookup y.1 = some .cell ∧ ((cellsFrom (s.heap.objs.size + 1) (defScope st).names []).lookup y.1).isSome = true) := by
    rintro ⟨n, v⟩ hy
    exact (S.par n (List.of_mem_zip hy).1).imp id (fun q => ⟨q, PySem.W.cellsFrom_some _ _ _ (.inl q)⟩)
  refine codeAny_call_function room.depth (inK _ _ lk) rfl S.co S.gen rfl (PySem.W.codeRec_of inK hcd) (bound _ _ _ _ (wpAny_newFunctionEnv_cells S.kind kinds ?_))
  rintro env' rfl s1 x
  obtain ⟨t, ht, hq⟩ := body cdv A outer s H vs Q E (room.deeper _) quiet want
  have I := inv_start (CX := CX0) (E := E) S room.hd env many rel x
  refine ⟨unlimited.keeps x.toInCall.keep, codeAny_func (wpAny_mono (ht.nox.run [] s1 (start N vs) H _ I hq) ?_ (fun _ _ h => h))⟩
  intro fl s' hs
  cases fl with
  | ret u =>
    obtain ⟨v, σ', H', J, rv, q⟩ := hs
    exact ⟨v, H', J.os, J.bare, J.base, J.hok, rv, q⟩
  | next =>
    obtain ⟨σ', H', J, q⟩ := hs
    exact ⟨V.non, H', J.os, J.bare, J.base, J.hok, (rfl : RelV V.non Value.none), q⟩
  | brk => exact hs.elim fun _ h => h.elim fun _ h => h.2.elim
  | cont => exact hs.elim fun _ h => h.elim fun _ h => h.2.elim
end
section
variable {X : Cx} {k : Nat} {f : Addr} {fd : FuncData} {ps ks : List Str} {sp : Sp} {ds : List Value} {x : Str} {p pos : Pos} {e : Expr} {es : List Expr} {kws : List Keyword} {t tk : TA} {g : List Value → List Value → List Value} {gV : List V → List V → List V}
theorem run_fnG {pins : List (Addr × Obj)} {σ : L2.St} {H : Hp} {s : Shared} {Q : VK} {us ws : List Value} {vs zs : List V} (F : FnG X.prog X.w X.K X.mg X.base k f fd ps sp) (hr : Room k X.A) (quiet : X.A.guards = some []) (hb : KBinds X.K fd ps ks g gV)
    (I : Inv X pins σ H s) (r : Vals vs us) (rz : Vals zs ws) (h : sp (gV vs zs) H Q E0) : wpAny (model X.prog X.w) X.A (call (.ref f) us (ks.zip ws)) (EP X pins σ Q) X.xe s := by
  have r2 := hb.rel r rz
  have many : (g us ws).length = ps.length := r2.length.symm.trans (F.len _ _ _ _ h)
  refine wpAny_call (codeAny_mono (F.run X.A X.stack s H _ _ _ Q E0 hr quiet I.env0 (hb.to s us ws I.kIn many) r2 h) ?_)
  rintro (e | fl) s' hq
  · exact False.elim hq
  cases fl with
  | ret u => exact I.after hq
  | next | brk | cont => exact hq.elim
/-- arguments by place alone -/
theorem KBinds.none {K : PySem.W.Frag} {fd : FuncData} {ps : List Str} (b : Binds K fd ps []) : KBinds K fd ps [] (fun us _ => us) (fun vs _ => vs) := by
  refine ⟨fun s us ws X hl => ?_, fun r _ => r⟩
  have := b s us X (by rw [List.append_nil]; exact hl)
  rw [List.append_nil] at this
  exact this
theorem pe_callG (F : FnG X.prog X.w X.K X.mg X.base k f fd ps sp) (hr : Room k X.A) (quiet : X.A.guards = some []) (hg : Gl X x) (hm : X.mg x = some (.ref f)) (hk : PySem.W.keepIn X.K (.ref f) = true) (hb : Binds X.K fd ps [])
    (ha : PA X (e :: es) t) (hdb : (x == ("__debug__" : Str)) = false := by decide) (he : starEach (e :: es) X.env = (false, eval e X.env) :: starEach es X.env := by rfl) (hpl : (backTo pos (starEach es X.env)).any (·.1) = false := by rfl) :
    PE X (.Call (.Name x p) (e :: es) [] pos) (tCall sp [] E0 t) := by
  constructor
  intro pins s σ H Q I h
  refine wpAny_Call_Name_kw (ld_glob I hg hm (PySem.W.callWith_K (h₀ := X.base) I.ok.mod.kin hk (thn (ha.run pos pins s σ H _ I h) ?_) he hpl) hdb)
  rintro us s1 ⟨vs, H1, I1, r, q⟩
  refine ⟨I1.kIn, ?_⟩
  have q' : sp vs H1 Q E0 := by
    have q2 : sp (vs ++ []) H1 Q E0 := q
    rwa [List.append_nil] at q2
  exact run_fnG (ws := []) (zs := []) F hr quiet (KBinds.none hb) I1 r .nil q'
end
/-! ### a law whose promise is kept where nothing is being shown -/
theorem quiet_caller : callerA.guards = some [] := rfl
/-- from an abstract heap in which at most the script is told -/
theorem law_from {P : Program} {w : World} {K : PySem.W.Frag} {mg mb : Str → Option Value} {k : Nat} {fa a : Addr} {fd : FuncData} {x : Str} {sp : Sp} {s₁ : Shared} {vs : List Value} {H : Hp}
    (inK : K.In s₁.heap) (main : s₁.heap.Ns mainGlobals mg) (bui : s₁.heap.Ns builtinsNs mb) (same : ∀ x : Str, x ≠ "__name__" → mb x = bootBuiltins x) (lim : s₁.heap.NoLimit) (gens : s₁.gens = #[])
    (at_a : s₁.heap.get? a = some { cls := .type "list", data := .seq vs.toArray }) (room : Room k callerA)
    (F : ∀ base : Heap, K.In base → base.Ns mainGlobals mg → FnG P w K mg base k fa fd [x] sp) (bound : ∀ (s : Shared) (u : Value), BindsTo s fd ⟨[u], []⟩ [(x, u)])
    (only : Only H) (hok : HOk P w H s₁.heap) (isA : ∀ b, H b ≠ none → b = a) (notK : H a ≠ none → K.lookup a = none) (want : sp [.ref a] H (fun v _ => v = .bl true) fun _ _ _ => False) :
    codeAny (model P w) callerA (.call (.ref fa) ⟨[.ref a], []⟩) (fun r s' => r = .ok (.ret (.bool true)) ∧ OldK s₁.heap s'.heap ∧ s'.os = s₁.os ∧ AllBare s'.gens) s₁ := by
  have free : ∀ b, b ≠ a → H b = none := by
    intro b hb
    cases q : H b with
    | none => rfl
    | some u => exact absurd (isA b (fun z => by rw [z] at q; cases q)) hb
  have shown : ∀ {b : Addr} {o : Obj}, s₁.heap.get? b = some o → H b = none → (hidT s₁.heap H).get? b = some o := fun e n => hidT_get e n
  have names : ∀ {b : Addr} {m : Str → Option Value}, s₁.heap.Ns b m → (hidT s₁.heap H).Ns b m := by
    rintro b m ⟨o, es, ep, e, d, r⟩
    refine ⟨o, es, ep, shown e (free b ?_), d, r⟩
    rintro rfl
    rw [at_a] at e
    cases e
    exact nomatch d
  have inHid : K.In (hidT s₁.heap H) := by
    intro b o e
    refine shown (inK b o e) ?_
    cases q : H b with
    | none => rfl
    | some u =>
      have ne : H b ≠ none := fun z => by rw [z] at q; cases q
      have eb := isA b ne
      subst eb
      rw [notK ne] at e
      cases e
  obtain ⟨mc, l1, l2⟩ := lim
  have env : Env0 P w K mg (hidT s₁.heap H) callerA [] s₁ H := {
    frames := rfl
    mod := ⟨inHid, names main, ⟨mb, names bui, same⟩, ⟨mc, names l1, l2⟩⟩
    bs := fun _ _ e => of_hidT e
    bsz := Nat.le_of_eq (hidT_size _ _)
    funs := trivial
    frf := fun b hb => nomatch (show b ∈ ([] : List Addr) from hb)
    hok := hok
    bare := .of_eq gens }
  refine codeAny_mono ((F _ inHid (names main)).run callerA [] s₁ H ⟨[.ref a], []⟩ [.ref a] [.ref a] _ _ room quiet_caller env (bound s₁ (.ref a)) (.cons rfl .nil) want) ?_
  rintro (e | fl) s' h
  · exact False.elim h
  cases fl with
  | next | brk | cont => exact False.elim h
  | ret u =>
    obtain ⟨v, H', os, bare, un, hok', rel, q⟩ := h
    cases (show v = .bl true from q)
    cases (show u = Value.bool true from rel)
    refine ⟨rfl, .of_keep ?_, os, bare⟩
    intro b o e
    rcases only b with z | ⟨ob, xs, z⟩
    · exact un.keep b o e z (fun m => nomatch (show b ∈ ([] : List Addr) from m)) (fun m => nomatch m)
    · have z2 := un.frzs b ob _ z
      have e1 := (hok b _ z).1
      rw [e] at e1
      cases e1
      exact (hok' b _ z2).1
theorem law_callG {P : Program} {w : World} {K : PySem.W.Frag} {mg mb : Str → Option Value} {k : Nat} {fa a : Addr} {fd : FuncData} {x : Str} {sp : Sp} {s₁ : Shared} {vs : List Value} {ns : List Int}
    (inK : K.In s₁.heap) (main : s₁.heap.Ns mainGlobals mg) (bui : s₁.heap.Ns builtinsNs mb) (same : ∀ x : Str, x ≠ "__name__" → mb x = bootBuiltins x) (lim : s₁.heap.NoLimit) (gens : s₁.gens = #[])
    (at_a : s₁.heap.get? a = some { cls := .type "list", data := .seq vs.toArray }) (hints : IntsAre vs ns) (short : ns.length ≤ sizeLine) (room : Room k callerA)
    (F : ∀ base : Heap, K.In base → base.Ns mainGlobals mg → FnG P w K mg base k fa fd [x] sp) (bound : ∀ (s : Shared) (u : Value), BindsTo s fd ⟨[u], []⟩ [(x, u)])
    (want : ∀ H : Hp, Only H → SqL K H a (ns.map V.int) → sp [.ref a] H (fun v _ => v = .bl true) fun _ _ _ => False) :
    codeAny (model P w) callerA (.call (.ref fa) ⟨[.ref a], []⟩) (fun r s' => r = .ok (.ret (.bool true)) ∧ OldK s₁.heap s'.heap ∧ s'.os = s₁.os ∧ AllBare s'.gens) s₁ := by
  have rel := vals_ints hints
  have many := hints.length
  have go := fun (H : Hp) (o : Only H) hok isA notK w => law_from (mb := mb) inK main bui same lim gens at_a room F bound (H := H) o hok isA notK w
  cases hk : K.lookup a with
  | some o =>
    have e := inK a o hk
    rw [at_a] at e
    cases e
    have nobody : Only (fun _ => none) := fun _ => .inl rfl
    refine go _ nobody (fun b u z => nomatch (show (none : Option HO) = some u from z)) (fun b z => absurd rfl z) (fun z => absurd rfl z) (want _ nobody (.inr ⟨_, vs.toArray, _, hk, rfl, rfl, rfl, ?_, ?_⟩))
    · rw [List.size_toArray, many]
      exact short
    · simpa using rel
  | none =>
    have key : ∃ H : Hp, H = fun b => if b = a then some (.frz { cls := .type "list", data := .seq vs.toArray } (.lst (ns.map V.int))) else none := ⟨_, rfl⟩
    obtain ⟨H, eH⟩ := key
    have there : H a = some (.frz { cls := .type "list", data := .seq vs.toArray } (.lst (ns.map V.int))) := by rw [eH]; exact if_pos rfl
    have else_ : ∀ b, b ≠ a → H b = none := fun b hb => by rw [eH]; exact if_neg hb
    have only : Only H := fun b => by
      by_cases hb : b = a
      · rw [hb]; exact .inr ⟨_, _, there⟩
      · exact .inl (else_ b hb)
    refine go H only (fun b u z => ?_) (fun b z => ?_) (fun _ => hk) (want H only (.inl (.inr ⟨_, there⟩)))
    · by_cases hb : b = a
      · subst hb
        rw [there] at z
        cases z
        exact ⟨at_a, by rw [List.length_map]; exact short, vs, _, rel, at_a⟩
      · rw [else_ b hb] at z
        cases z
    · by_cases hb : b = a
      · exact hb
      · exact absurd (else_ b hb) z
theorem walk_ofG {l : PySem.W.OpenLaw} {n k : Nat} {q : Program} {loose : List Str} {XP : (Str → Option Value) → Heap → Prop} {YP : World → Heap → Prop} {d : DefRec} {K : Params → PySem.W.Frag} {sp : World → Sp} {x : Str}
    (hn : l.most = some n) (hn2 : n ≤ sizeLine) (hdf : d.params.defaults = []) (room : Room k callerA) (hY : ∀ (w : World) (h : Heap), YP w h → (K w.params).In h)
    (F : ∀ (w : World) (mg : Str → Option Value) (fa : Addr) (h : Heap), (K w.params).In h → h.Ns mainGlobals mg → mg d.name = some (.ref fa) →
      ∃ fd : FuncData, (∀ (s : Shared) (u : Value), BindsTo s fd ⟨[u], []⟩ [(x, u)]) ∧ ∀ base : Heap, (K w.params).In base → base.Ns mainGlobals mg → FnG l.prog w (K w.params) mg base k fa fd [x] (sp w))
    (want : ∀ (w : World) (H : Hp) (a : Addr) (ns : List Int), ns.length ≤ n → Only H → SqL (K w.params) H a (ns.map V.int) → sp w [.ref a] H (fun v _ => v = .bl true) fun _ _ _ => False) :
    PySem.W.WalkO q loose XP YP l.row.toRowW d [] (fun f vs => PySem.call f vs) := by
  apply Att.attach_call hn hdf
  intro w s₀ s₁ mg mb fa o pm cd doc a vs ns G Y ho hd hcd hmg hobj hints hlen hg
  have inK := hY w _ Y
  obtain ⟨fd, bound, hF⟩ := F w mg fa _ inK G.T.g hmg
  exact law_callG inK G.T.g G.T.b G.T.builtins G.T.nolimit hg hobj hints (Nat.le_trans hlen hn2) room hF bound (fun H hO hS => want w H a ns hlen hO hS)
/-! ### repr of a list -/
section
variable {X : Cx}
theorem call_repr_data (quiet : X.A.guards = some []) (hu : X.A.units + 70 < cLine) : CallR X (.builtin "repr") (fun xs H Q => ∃ a d, xs = [.ref a] ∧ Dp X.K H (.ref a) d ∧ d.showable = true ∧ d.hasDict = false ∧ d.depth ≤ 60 ∧ d.shown.length ≤ sizeLine ∧ Q (.str d.shown) H) := by
  intro pins s σ H xs us Q I r h
  obtain ⟨a, d, rfl, hd, hs, hnd, hdp, hz, q⟩ := h
  obtain ⟨u, rfl, e⟩ := vals1 r
  cases e
  obtain ⟨as, rd⟩ := Dp.reads I d _ _ hd (rfl : RelV (.ref a) (.ref a))
  exact repr_of_reads' rd hs (PyData.noDict_hsm hnd) quiet (by omega) (fun _ _ e => e) (fun h' u tk hk => ⟨.str _, H, I.kept hk, ⟨_, rfl⟩, q⟩) hz
end
end My
namespace My
open PySem L2 PyProof.Rows
/-! ### the rules within a comprehension -/
section
variable {X : Cx} {K : PySem.W.Frag}
theorem ix_listK (h : X.K = K) : IxR X (rIxL K) := h ▸ ix_list
theorem ix_tupK (h : X.K = K) : IxR X (rIxT K) := h ▸ ix_tup
theorem pi_listK {tg l : Expr} {tl : TE} (h : X.K = K) (hl : PE X l tl) : PI X tg l (iList K tl) := h ▸ pi_list hl
theorem call_len_seqK (h : X.K = K) : CallR X (.builtin "len") (fun xs H Q => ∃ p ys, xs = [V.ref p] ∧ (SqL K H p ys ∨ SqT K H p ys) ∧ Q (.int (ys.length : Int)) H) := h ▸ call_len_seq
theorem op_in_seqK (h : X.K = K) : OpR X (compareOp .In) (rIn K false) := h ▸ op_in_seq
theorem op_notIn_seqK (h : X.K = K) : OpR X (compareOp .NotIn) (rIn K true) := h ▸ op_notIn_seq
end
theorem mt_indexK {X : Cx} {K : PySem.W.Frag} (h : X.K = K) : MtR X "list.index" (rIndex K) := h ▸ mt_index
theorem pe_bmK {X : Cx} {K : PySem.W.Frag} {o e : Expr} {es : List Expr} {to : TE} {t : TA} {name : Str} {apos cpos : Pos} {T id : String} {r : V → List V → Hp → VK → Prop} (h : X.K = K) (pa : PlainAttrs T) (slot : Slot T name id) (hty : typeOf (.builtin id) = pure (.type "method_descriptor")) (hm : MtR X id r) (ho : PE X o to) (ha : PA X (e :: es) t)
    (hbase : attributeBase o name X.env (eval o X.env) = eval o X.env := by rfl)
    (hfew : ((backTo cpos (starEach (e :: es) X.env)).all (fun x => !x.1) && (backToKw cpos (keywordEach [] X.env)).all (fun x => x.1.isSome)
      && decide ((e :: es).length + ([] : List Keyword).length + (if ([] : List Keyword).isEmpty then 0 else 1) < 30)) = true := by rfl)
    (hline : (apos.endLine == cpos.line) = true := by rfl) (hs : starEach (e :: es) X.env = (false, eval e X.env) :: starEach es X.env := by rfl) (hplain : (backTo cpos (starEach es X.env)).any (·.1) = false := by rfl) :
    PE X (.Call (.Attribute o name apos) (e :: es) [] cpos) (tBM K T r to t) := h ▸ pe_bm pa slot hty hm ho ha hbase hfew hline hs hplain
/-- a field, read within a comprehension -/
theorem pe_fldK {X : Cx} {K : PySem.W.Frag} {e : Expr} {ta : TE} {f : Str} {pos : Pos} (h : X.K = K) (he : PE X e ta) (hb : attributeBase e f X.env (eval e X.env) = eval e X.env := by rfl) : PE X (.Attribute e f pos) (tFld K ta f) := h ▸ pe_fld he hb
theorem pe_fldA {X : Cx} {e : Expr} {ta : TE} {f : Str} {pos : Pos} (he : PE X e ta) (hb : attributeBase e f X.env (eval e X.env) = eval e X.env := by rfl) : PE X (.Attribute e f pos) (tFld X.K ta f) := pe_fld he hb
/-! ### defs that may show a value (repr) -/
theorem hu70 {k : Nat} {A : Around} (h : Room k A) : A.units + 70 < cLine := by
  have := h.un
  omega
theorem u65 {k : Nat} {A : Around} (h : Room k A) : A.units + 65 < cLine := by
  have := h.un
  omega
section
variable {P : Program} {w : World} {K : PySem.W.Frag} {mg : Str → Option Value} {base : Heap}
def GoodG (P : Program) (w : World) (K : PySem.W.Frag) (mg : Str → Option Value) (base : Heap) (x : Str) (st : Stmt) (ps : List Str) (k : Nat) (sp : Sp) : Prop := ∃ (f : Addr) (fd : FuncData), FnG P w K mg base k f fd ps sp ∧ mg x = some (.ref f) ∧ PySem.W.keepIn K (.ref f) = true ∧ Binds K fd ps [] ∧ Fun K x x st f fd
theorem Def.goodG {x : Str} {st : Stmt} {ps : List Str} {k : Nat} {sp : Sp} (D : Def K mg x st ps) (h : ∀ f fd, Fun K x x st f fd → FnG P w K mg base k f fd ps sp) : GoodG P w K mg base x st ps k sp := by
  obtain ⟨f, fd, F, m, b⟩ := D
  exact ⟨f, fd, h f fd F, m, F.kp, b, F⟩
end
end My
namespace My
open PySem L2 PyProof.Rows
section
variable {X : Cx}
/-- the least of some texts -/
theorem minD_strs : ∀ (xs : List (List Nat)) (x : List Nat), ∃ m, PySem.W.minD (.str ⟨x.toArray⟩) (xs.map fun t => PyData.str ⟨t.toArray⟩) = .str ⟨m.toArray⟩ ∧ m ∈ x :: xs ∧ ∀ t ∈ x :: xs, ¬ t < m
  | [], x => ⟨x, rfl, List.mem_cons_self, fun t ht => by
    rw [List.mem_singleton.mp ht]
    exact List.lt_irrefl _⟩
  | y :: ys, x => by
    have e : PySem.W.minD (.str ⟨x.toArray⟩) ((y :: ys).map fun t => PyData.str ⟨t.toArray⟩) = PySem.W.minD (if y < x then .str ⟨y.toArray⟩ else .str ⟨x.toArray⟩) (ys.map fun t => PyData.str ⟨t.toArray⟩) := by
      unfold PySem.W.minD
      rw [List.map_cons, List.foldl_cons]
      show List.foldl _ (if PySem.W.dataLt (.str ⟨y.toArray⟩) (.str ⟨x.toArray⟩) = true then _ else _) _ = _
      rw [PySem.W.dataLt_str]
      show List.foldl _ (if decide (y.toArray.toList < x.toArray.toList) = true then _ else _) _ = _
      rw [List.toList_toArray, List.toList_toArray]
      by_cases c : y < x
      · rw [if_pos (decide_eq_true c), if_pos c]
      · rw [if_neg (by rw [decide_eq_false c]; exact Bool.false_ne_true), if_neg c]
    by_cases c : y < x
    · rw [if_pos c] at e
      obtain ⟨m, h1, h2, h3⟩ := minD_strs ys y
      refine ⟨m, e.trans h1, List.mem_cons_of_mem _ h2, fun t ht => ?_⟩
      rcases List.mem_cons.mp ht with rfl | ht
      · intro z
        exact h3 y List.mem_cons_self (List.lt_trans c z)
      · exact h3 t ht
    · rw [if_neg c] at e
      obtain ⟨m, h1, h2, h3⟩ := minD_strs ys x
      refine ⟨m, e.trans h1, ?_, fun t ht => ?_⟩
      · rcases List.mem_cons.mp h2 with h | h
        · rw [h]; exact List.mem_cons_self
        · exact List.mem_cons_of_mem _ (List.mem_cons_of_mem _ h)
      · rcases List.mem_cons.mp ht with rfl | ht
        · exact h3 _ List.mem_cons_self
        · rcases List.mem_cons.mp ht with rfl | ht
          · intro z
            have h4 := h3 x List.mem_cons_self
            exact h4 (List.lt_of_le_of_lt (List.not_lt.mp c) z)
          · exact h3 t (List.mem_cons_of_mem _ ht)
theorem dpAll_T {K : PySem.W.Frag} {H : Hp} : ∀ l : List (List Nat), DpAll K H (l.map T) (l.map fun t => PyData.str ⟨t.toArray⟩)
  | [] => .nil
  | t :: r => .cons (.str _) (dpAll_T r)
theorem depthAll_T : ∀ l : List (List Nat), PyData.depthAll (l.map fun t => PyData.str ⟨t.toArray⟩) = 0
  | [] => rfl
  | t :: r => by
    show max 0 (PyData.depthAll (r.map fun t => PyData.str ⟨t.toArray⟩)) = 0
    rw [depthAll_T r]
    rfl
theorem cr_minS (hc : X.calm = true) (hu : X.A.units + 64 < cLine) : CallR X (.builtin "min") (fun xs H Q => ∃ a, ∃ l : List (List Nat), xs = [.ref a] ∧ SqL X.K H a (l.map T) ∧ l ≠ [] ∧ ∀ m, m ∈ l → (∀ t ∈ l, ¬ t < m) → Q (T m) H) := by
  intro pins s σ H xs us Q I r h
  obtain ⟨a, l, rfl, hs, hne, q⟩ := h
  obtain ⟨its, rv, hl, _⟩ := I.list hs
  rw [Vals.ref1 r]
  obtain ⟨as, rd⟩ := Dp.readsAll I _ _ _ (dpAll_T l) rv
  cases l with
  | nil => exact absurd rfl hne
  | cons x xs =>
    refine PySem.W.min_list_data (I.ok.hd hc) hl.isList (x := .str ⟨x.toArray⟩) (xs := xs.map fun t => PyData.str ⟨t.toArray⟩) (by simpa using rd) ⟨fun y hy z hz => ?_, fun y hy => ?_⟩ ?_ fun i v h' tk bs hi rv hk => ?_
    · obtain ⟨_, _, rfl⟩ := List.mem_map.mp (show y ∈ (x :: xs).map fun t => PyData.str ⟨t.toArray⟩ from hy)
      obtain ⟨_, _, rfl⟩ := List.mem_map.mp (show z ∈ (x :: xs).map fun t => PyData.str ⟨t.toArray⟩ from hz)
      simp only [PySem.W.alike]
    · obtain ⟨_, _, rfl⟩ := List.mem_map.mp (show y ∈ (x :: xs).map fun t => PyData.str ⟨t.toArray⟩ from hy)
      intro z
      cases z
    · have := depthAll_T (x :: xs)
      rw [List.map_cons] at this
      rw [this]
      omega
    · obtain ⟨m, h1, h2, h3⟩ := minD_strs xs x
      rw [h1] at rv
      cases rv
      exact ⟨T m, H, I.kept hk, ⟨_, rfl⟩, q m h2 h3⟩
/-- s[::-1] -/
theorem rev_text (l : List Nat) (uk : Tok) : Txt.sliceBy ⟨l.toArray⟩ none none (-1, uk) = ⟨l.reverse.toArray⟩ := by
  unfold Txt.sliceBy
  rw [if_neg (by simp)]
  refine congrArg Str.mk ?_
  show ((Builtin.Str.strSliceIndices none none (-1) (⟨l.toArray⟩ : Str).length).filterMap (l.toArray[·]?)).toArray = _
  have e : Builtin.Str.strSliceIndices none none (-1) (⟨l.toArray⟩ : Str).length = sliceRange ((l.toArray.size : Nat) - 1 : Int) (-1) (-1) := rfl
  rw [e, PySem.W.krv_sliceRange, PySem.W.krv_range, List.filterMap_reverse, PySem.W.krv_all]
theorem pe_revS {e : Expr} {te : TE} {k : Nat} {p1 p2 p3 pos : Pos} (he : PE X e te) : PE X (.Subscript e (.Slice none none (some (.UnaryOp .USub (.Constant (.int 1) k p1) p2)) p3) pos) (fun σ H Q => te σ H fun x H1 => ∃ l, x = T l ∧ l.length ≤ 1000 ∧ Q (T l.reverse) H1) := by
  constructor
  intro pins s σ H Q I h
  refine Subscript_ (thn (he.run pins s σ H _ I h) ?_)
  rintro v s1 ⟨x, H1, I1, r1, l, rfl, hl, q⟩
  obtain ⟨t, rfl⟩ := r1
  have minus : PO X (some (.UnaryOp .USub (.Constant (.int 1) k p1) p2)) (tPart (tUn (rU fun i => .int (-i)) (tC (.int 1)))) := po_some (pe_un un_neg pe_int)
  refine wpAny_Slice (thn (po_none.run pins s1 σ H1 (fun o H2 => o = none ∧ H2 = H1) I1 ⟨rfl, rfl⟩) ?_)
  rintro vl s2 ⟨o1, H2, I2, pl, rfl, rfl⟩
  refine thn (po_none.run pins s2 σ H2 (fun o H3 => o = none ∧ H3 = H2) I2 ⟨rfl, rfl⟩) ?_
  rintro vu s3 ⟨o2, H3, I3, pu, rfl, rfl⟩
  refine thn (minus.run pins s3 σ H3 (fun o H4 => o = some (-1) ∧ H4 = H3) I3 ⟨1, rfl, -1, rfl, rfl, rfl⟩) ?_
  rintro vs s4 ⟨o3, H4, I4, ps, rfl, rfl⟩
  obtain ⟨o1, rfl, e1⟩ := IsPart.raw pl
  obtain ⟨o2, rfl, e2⟩ := IsPart.raw pu
  obtain ⟨o3, rfl, e3⟩ := IsPart.raw ps
  cases o1 with
  | some z => cases e1
  | none =>
  cases o2 with
  | some z => cases e2
  | none =>
  cases o3 with
  | none => cases e3
  | some z =>
  obtain ⟨j, uk⟩ := z
  have ej : j = -1 := Option.some.inj e3
  subst ej
  have hlen : (⟨l.toArray⟩ : Str).length = l.length := by simp [Str.length]
  have hz : (⟨l.toArray⟩ : Str).length ≤ sizeLine := by rw [hlen]; exact Nat.le_of_lt (small1000 hl)
  refine tail_any (ops := [.ref s4.heap.objs.size, .str ⟨l.toArray⟩ t]) (typeIs_str _ _ _) F.slot_str_getitem.lookup (wpAny_getItem_str_slice (l := none) (u := none) (st := some (-1, uk)) ⟨_, Heap.get?_push_size _ rfl, rfl, rfl⟩ rfl ?_) (by with_unfolding_all rfl)
  refine post_val_or_str ⟨Nat.le_trans (Txt.sliceBy_le _ none none (-1, uk) (by show (-1 : Int) ≠ 0; decide)) hz, fun t' c => ?_⟩
  have I5 : Inv X pins σ H4 { s4 with heap := s4.heap.push { cls := .type "slice", data := .fields #[.none, .none, .int (-1) uk] } } := I4.kept (t' := s4.toks) fun b ob q => Heap.get?_push_of_some _ q
  have e := rev_text l uk
  unfold Txt.sliceBy at e
  exact ⟨.str _, H4, I5.tok _, ⟨_, rfl⟩, by rw [e]; exact q⟩
end
end My
/-! enumerate(t), t a tuple -/
namespace My
open PySem PySem.Spec PyProof.Rows L2
open AutoSeq1 (wpAny_loadPart')
theorem enum_new_tup (q : Addr) (ys : Array Value) (m : Nat) (dc : Option Addr) (sl : Array (Option Value)) :
    Meets (Builtin.«enumerate.__new__» ⟨[.type "enumerate", .ref q], []⟩) (fun _ R s => s.heap.get? q = some { cls := .type "tuple", dict := dc, data := .seq ys m, slots := sl } ∧
      R (.ok (.ret (.ref (s.heap.push { cls := .type "tuple_iterator", data := .fields #[.ref q, .int 0 0] }).objs.size)))
        { s with heap := (s.heap.push { cls := .type "tuple_iterator", data := .fields #[.ref q, .int 0 0] }).push { cls := .type "enumerate", data := .fields #[.none, .bool false, .ref s.heap.objs.size, rawInt 0, .none, .none] } }) :=
  .of_wp fun prog w A R s k => by
    obtain ⟨hh, g, dr, tk, os⟩ := s
    obtain ⟨kq, k⟩ := k
    have hsub := sub_enumerate
    have hT : Heap.IsTuple (Shared.heap ⟨hh, g, dr, tk, os⟩) q ys := ⟨_, kq, rfl, m, rfl⟩
    wp_walk using wpAny_loadPart' kq
    refine wpAny_stack_any fun _ => wpAny_pure ?_
    split
    · rename_i c _ _ _ _ _
      cases (c == Value.type "enumerate") <;>
        (wp_walk using wpAny_loadPart' kq, wpAny_pyIter_tuple hT
         exact ⟨_, rfl, k⟩)
    · wp_walk using wpAny_loadPart' kq, wpAny_pyIter_tuple hT
      exact ⟨_, rfl, k⟩
section
variable {prog : Program} {w : World} {A : Around} {E : Value → Shared → Prop} {s : Shared}
theorem call_enum_tup {q : Addr} {ys : Array Value} {Q : Value → Shared → Prop} (hT : s.heap.IsTuple q ys)
    (k : ∀ h', IsEnum h' (s.heap.objs.size + 1) s.heap.objs.size 0 .none → h'.IsTupleIter s.heap.objs.size q 0 → h'.objs.size = s.heap.objs.size + 2 →
      (∀ b o, s.heap.get? b = some o → h'.get? b = some o) → Q (.ref (s.heap.objs.size + 1)) { s with heap := h' }) :
    wpAny (model prog w) A (call (.type "enumerate") [.ref q]) Q E s := by
  obtain ⟨⟨cl, dc, dt, sl⟩, kq, ec, m, ed⟩ := hT
  cases (show cl = .type "tuple" from ec)
  cases (show dt = .seq ys m from ed)
  refine callType_new F.called_enumerate (by decide) (F.typeCall_enumerate_1 _) (F.newCall_enumerate_1 _) (fun obj => F.args_object_init_2 obj _) F.entry_enumerate_new
    (enum_new_tup q ys m dc sl) ⟨kq, ?_⟩
  have z1 : (s.heap.push { cls := .type "tuple_iterator", data := .fields #[.ref q, .int 0 0] }).objs.size = s.heap.objs.size + 1 := Heap.size_push ..
  show _ ∧ _
  rw [z1]
  have he : IsEnum ((s.heap.push { cls := .type "tuple_iterator", data := .fields #[.ref q, .int 0 0] }).push
      { cls := .type "enumerate", data := .fields #[.none, .bool false, .ref s.heap.objs.size, rawInt 0, .none, .none] }) (s.heap.objs.size + 1) s.heap.objs.size 0 .none := by
    have z2 := Heap.get?_push_size (s.heap.push { cls := .type "tuple_iterator", data := .fields #[.ref q, .int 0 0] })
      (o := { cls := .type "enumerate", data := .fields #[.none, .bool false, .ref s.heap.objs.size, rawInt 0, .none, .none] }) rfl
    rwa [z1] at z2
  exact ⟨⟨_, he, rfl⟩, k _ he ⟨_, Heap.get?_push_of_some _ (Heap.get?_push_size _ rfl), rfl, rfl⟩ (by rw [Heap.size_push, z1]) fun b o x => Heap.get?_push_of_some _ (Heap.get?_push_of_some _ x)⟩
end
/-- the tuple at a, each item in a new pair -/
def Ity (K : PySem.W.Frag) (a : Addr) : It :=
  ⟨fun i H => ∃ (xs : List V) (x : V), SqT K H a xs ∧ xs[i]? = some x, fun i H v H' => ∃ T x, v = .ref T ∧ H T = none ∧ H' = upd H T (.tup [.int (i : Nat), x]) ∧ ∀ xs, SqT K H a xs → xs[i]? = some x, fun i H => ∃ xs : List V, SqT K H a xs ∧ xs.length = i⟩
theorem walk_enumT {K : PySem.W.Frag} {a : Addr} {xs : List V} : Walk (Ity K a) xs.length (fun H => SqT K H a xs) (YPair (fun i => some (.int (i : Nat))) (fun i => xs[i]?)) := by
  refine ⟨fun i _ hi q => ⟨xs, xs[i], q, List.getElem?_eq_getElem hi⟩, fun _ q => ⟨xs, q, rfl⟩, fun i H v H' _ q y => ?_⟩
  obtain ⟨T, x, y1, y2, y3, y4⟩ := y
  exact ⟨T, .int (i : Nat), x, y1, y2, y3, rfl, y4 xs q⟩
theorem turn_enumT {P : Program} {w : World} {K : PySem.W.Frag} {elts : List Expr} {kk : Nat} {tpos : Pos} (a e it : Addr) (nai : a ≠ it) (nea : e ≠ a) :
    Turn P w K (.Tuple elts kk tpos) (Ity K a) [e, it] e (fun i h => (∃ old, IsEnum h e it ((i : Nat) : Int) old) ∧ h.IsTupleIter it a i ∧ e ≠ it) where
  mem := by simp
  obj := fun i h st b hb => by
    obtain ⟨⟨old, he⟩, ⟨o, ho, hc, hd⟩, _⟩ := st
    rcases (show b = e ∨ b = it by simpa using hb) with z | z
    · subst z; exact ⟨_, he, fun v q => nomatch q⟩
    · subst z; exact ⟨o, ho, fun v q => by rw [hd] at q; cases q⟩
  keep := fun i h h' st k => let ⟨⟨old, he⟩, hi, hne⟩ := st; ⟨⟨old, k e (by simp) _ he⟩, hi.at fun o q => k it (by simp) o q, hne⟩
  item := by
    intro X hP hw hK hc i pins s σ H E I hf st hg
    subst hP hw hK
    obtain ⟨⟨old, he⟩, hit, hne⟩ := st
    obtain ⟨xs, x, hq, hx⟩ := hg
    obtain ⟨its, rv, p, hz⟩ := I.tuple hq
    obtain ⟨u, hu, ru⟩ := rv.get hx
    have le : e < s.heap.objs.size := Heap.lt_size he
    have li : it < s.heap.objs.size := by obtain ⟨_, q, _⟩ := hit; exact Heap.lt_size q
    have small : i < its.toArray.size := by
      have := (List.getElem?_eq_some_iff.mp hu).1
      simpa using this
    refine wpAny_pyNext_enum_itemD (Draws.tuple (A := X.A.in1) (I.ok.hd hc) it a nai its.toArray) he ⟨hit, (show s.heap.IsTuple a its.toArray from p)⟩ small hne (by simp [hne, nea]) fun x' h' tk hx' ho hst hT hsz hk => ?_
    have ex : x' = u := by
      have : its[i]? = some x' := by simpa using hx'
      rw [hu] at this
      exact (Option.some.inj this).symm
    subst ex
    obtain ⟨hst1, hst2⟩ := hst
    refine ⟨_, rfl, wpAny_letOwnedTupleGo_enum (s := { s with heap := h', toks := tk + 1 }) ho fun h2 he2 sb => ?_⟩
    have gT : h2.get? s.heap.objs.size = some { cls := .type "tuple", data := .seq #[.int i tk, x'] } := (sb.2 _ (Nat.ne_of_gt le)).trans hT
    have okT : ObjOk X.prog X.w (upd H s.heap.objs.size (.tup [.int (i : Nat), x])) h2 s.heap.objs.size (.tup [.int (i : Nat), x]) :=
      ⟨by show 2 ≤ sizeLine; decide, [.int i tk, x'], .cons ⟨_, rfl⟩ (.cons ru .nil), ⟨_, gT, rfl, _, rfl⟩⟩
    have I2 : Inv X pins σ (upd H s.heap.objs.size (.tup [.int (i : Nat), x])) { s with heap := h2, toks := tk + 1 } :=
      I.turnedNew (t' := tk + 1) (ch := [e, it]) (fun b ob hb q => (sb.2 b (fun z => hb (by simp [z]))).trans (hk b ob (fun z => hb (by simp [z])) (fun z => hb (by simp [z])) q)) hf (Nat.le_refl _) okT
    refine ⟨.ref s.heap.objs.size, _, I2, rfl, ⟨_, x, rfl, I.hok.fresh (Nat.le_refl _), rfl, fun ys hy => by rw [I.tuple_inj hy hq]; exact hx⟩, ⟨⟨x', ?_⟩, hst1.at fun o q => (sb.2 it (Ne.symm hne)).trans q, hne⟩, fun b hb => ?_⟩
    · rw [show ((i + 1 : Nat) : Int) = (i : Int) + 1 by omega]
      exact he2
    · have lb : b < s.heap.objs.size := by
        rcases (show b = e ∨ b = it by simpa using hb) with z | z
        · rw [z]; exact le
        · rw [z]; exact li
      rw [upd_ne (Nat.ne_of_lt lb)]
      exact (hf b hb).1
  done := by
    intro X hP hw hK hc i pins s σ H E I hf st hg
    subst hP hw hK
    obtain ⟨⟨old, he⟩, hit, hne⟩ := st
    obtain ⟨xs, hq, hx⟩ := hg
    obtain ⟨its, rv, p, hz⟩ := I.tuple hq
    obtain ⟨f0, f1, f2, f3, f4, f5⟩ := hf it (by simp)
    have hl := rv.length
    have hsz : i = its.toArray.size := by
      rw [List.size_toArray]
      omega
    rw [hsz] at hit
    exact wpAny_pyNext_enum_endD (Draws.tuple (A := X.A.in1) (I.ok.hd hc) it a nai its.toArray) he ⟨hit, (show s.heap.IsTuple a its.toArray from p)⟩ fun h' eb => ⟨rfl, I.turned (t' := s.toks) (fun b o hb e => eb b o hb e) f0 f1 f3 f4 f5⟩
  self := fun A i s Q E st h => let ⟨⟨_, he⟩, _⟩ := st; wpAny_pyIter_enum he h
def iEnumT (K : PySem.W.Frag) (ta : TA) : TI := fun σ H R => ta σ H fun vs H1 => ∃ a xs, vs = [.ref a] ∧ SqT K H1 a xs ∧ R (Ity K a) H1
theorem pi_enumT {X : Cx} {e : Expr} {ta : TA} {p pos tpos : Pos} {elts : List Expr} {kk : Nat} (hg : Gl X "enumerate") (hm : X.mg "enumerate" = none) (ha : PA X [e] ta) (hs : starEach [e] X.env = [(false, eval e X.env)] := by rfl) :
    PI X (.Tuple elts kk tpos) (.Call (.Name "enumerate" p) [e] [] pos) (iEnumT X.K ta) := by
  constructor
  intro pins s σ H R I h
  refine Call_ (ld_blt I hg hm boot_enumerate (PyProof.Rows.callWith_type1 (thn (ha.run pos pins s σ H _ I h) fun us s1 ⟨vs, H1, I1, r1, q1⟩ => ?_) hs rfl))
  obtain ⟨a, xs, rfl, hq, q⟩ := q1
  obtain rfl := Vals.ref1 r1
  obtain ⟨its, rv, p', hz⟩ := I1.tuple hq
  have la : a < s1.heap.objs.size := by obtain ⟨_, z, _⟩ := p'; exact Heap.lt_size z
  refine call_enum_tup (show s1.heap.IsTuple a its.toArray from p') fun h' he hit hsz hk => wpAny_pyIter_enum he ?_
  have I2 : Inv X pins σ H1 { s1 with heap := h' } := I1.kept (t' := s1.toks) hk
  refine ⟨s1.heap.objs.size + 1, [s1.heap.objs.size + 1, s1.heap.objs.size], _, _, H1, rfl, I2, turn_enumT a (s1.heap.objs.size + 1) s1.heap.objs.size (Nat.ne_of_lt la) (Nat.ne_of_gt (Nat.lt_succ_of_lt la)), ⟨⟨.none, he⟩, hit, Nat.succ_ne_self _⟩, fun b hb => ?_, q⟩
  have hle : s1.heap.objs.size ≤ b := by
    rcases (show b = s1.heap.objs.size + 1 ∨ b = s1.heap.objs.size by simpa using hb) with z | z
    · rw [z]; exact Nat.le_succ _
    · rw [z]; exact Nat.le_refl _
  exact I1.fpOk hle (I1.hok.fresh hle)
end My
set_option maxHeartbeats 4000000
/-! set(texts), sorted(set(texts)), len(set(texts)) -/
namespace My
open PySem PySem.Spec PyProof.Rows L2
/-- the text of an entry -/
def txtOf (e : Int × Value) : Str := match e.2 with | .str k _ => k | _ => Str.empty
def GoodT (w : World) (e : Int × Value) : Prop := ∃ k tk, e.2 = Value.str k tk ∧ e.1 = hashStr w k
/-- a set of texts: S its members, n their number -/
def SetTx (w : World) (h : Heap) (a : Addr) (S : Str → Bool) (n : Nat) : Prop :=
  ∃ o es ep t, h.get? a = some o ∧ o.ExactSet ∧ o.data = .set es ep t ∧ (∀ e ∈ es.toList, GoodT w e) ∧ (es.toList.map txtOf).Nodup ∧ (∀ k, S k = true ↔ k ∈ es.toList.map txtOf) ∧
    (es.size < scanBound ∧ t.fits es.size = true ∧ es.size = n) ∧ Ris t.place.toList ∧ (w.params.followText "set-order" = true ∨ t.led = true)
section
variable {P : Program} {w : World} {h h' : Heap} {a : Addr} {S : Str → Bool} {n : Nat}
theorem SetTx.at (R : SetTx w h a S n) (k : ∀ o, h.get? a = some o → h'.get? a = some o) : SetTx w h' a S n := by
  obtain ⟨o, es, ep, t, ho, r⟩ := R
  exact ⟨o, es, ep, t, k o ho, r⟩
theorem SetTx.congr {S' : Str → Bool} {m : Nat} (R : SetTx w h a S n) (e : ∀ k, S' k = S k) (em : n = m) : SetTx w h a S' m := by
  rw [show S' = S from funext e, ← em]
  exact R
theorem goodT_elems {l : List (Int × Value)} (g : ∀ e ∈ l, GoodT w e) : ElemsOf (PySem.strKind P w) l := fun e he => by
  obtain ⟨k, tk, g1, g2⟩ := g e he
  exact ⟨⟨k, by rw [g1]; exact strKind_is P w k tk, g2⟩, by rw [g1]; rfl⟩
theorem goodT_is {e : Int × Value} (g : GoodT w e) (k : Str) : (PySem.strKind P w).is k e.2 = true ↔ txtOf e = k := by
  obtain ⟨k0, tk, g1, _⟩ := g
  unfold txtOf
  rw [g1]
  constructor
  · intro q
    exact (PySem.strKind P w).inj _ _ _ (strKind_is P w k0 tk) q
  · intro q
    show (PySem.strKind P w).is k (.str k0 tk) = true
    rw [show k0 = k from q]
    exact strKind_is P w k tk
theorem goodT_mem {l : List (Int × Value)} (g : ∀ e ∈ l, GoodT w e) (k : Str) : k ∈ l.map txtOf ↔ ∃ e ∈ l, (PySem.strKind P w).is k e.2 = true := by
  rw [List.mem_map]
  exact ⟨fun ⟨e, he, q⟩ => ⟨e, he, (goodT_is (g e he) k).2 q⟩, fun ⟨e, he, q⟩ => ⟨e, he, (goodT_is (P := P) (g e he) k).1 q⟩⟩
theorem SetTx.setOf (R : SetTx w h a S n) : h.SetOf (PySem.strKind P w) a S n := by
  obtain ⟨o, es, ep, t, ho, hx, hd, g, nd, hm, ⟨hb, hf, hn⟩, _⟩ := R
  exact ⟨o, es, ep, t, ho, hx, hd, goodT_elems g, fun k => (hm k).trans (goodT_mem g k), hb, hf, hn⟩
end
section
variable {P : Program} {w : World} {A : Around} {E : Value → Shared → Prop} {s : Shared} {a : Addr} {S : Str → Bool} {n : Nat}
theorem tx_tail {g : Bool → Sem Unit} (hg : ∀ (b : Bool) (s₁ : Shared) (Q' : Unit → Shared → Prop), Q' () s₁ → wpAny (model P w) A (g b) Q' E s₁)
    {o : Obj} {es : Array (Int × Value)} {ep : Nat} {t : SetTable} (ho : s.heap.get? a = some o) (hex : o.ExactSet) (hd : o.data = .set es ep t)
    {es1 : Array (Int × Value)} {t2 : SetTable} {S' : Str → Bool} (g1 : ∀ e ∈ es1.toList, GoodT w e) (nd1 : (es1.toList.map txtOf).Nodup) (m1 : ∀ k, S' k = true ↔ k ∈ es1.toList.map txtOf)
    (room : es1.size < scanBound) (fit : t2.fits es1.size = true) (ris : Ris t2.place.toList) (led : w.params.followText "set-order" = true ∨ t2.led = true) {wasDummy : Bool} {R : Option Bool → Shared → Prop}
    (hR : ∀ h', Heap.SameBut a s.heap h' → SetTx w h' a S' es1.size → R (some true) { s with heap := h' }) :
    wpAny (model P w) A (do
        storeSet a es1 t2
        if (!wasDummy && t2.tooFull) = true then do
            g (relayAll t2 es1 (SetTable.grown es1.size)).2.2
            storeSet a (relayAll t2 es1 (SetTable.grown es1.size)).1 (relayAll t2 es1 (SetTable.grown es1.size)).2.1
            pure (some true)
          else pure (some true)) R E s := by
  refine wpAny_bind (wpAny_storeSet_of ho hd ?_ (fits_of_scanBound room))
  have st1 := store_at (es' := es1) (t' := t2) ho hd
  have same1 := Heap.SameBut.update s.heap a (Obj.putSet es1 t2)
  split
  · have p3 := relayAll_perm t2 es1 (SetTable.grown es1.size)
    have f3 := relayAll_fits t2 es1 (SetTable.grown es1.size)
    have r3 := relayAll_ris t2 es1 (SetTable.grown es1.size)
    have l3 := relayAll_led t2 es1 (SetTable.grown es1.size)
    generalize relayAll t2 es1 (SetTable.grown es1.size) = Z at p3 f3 r3 l3 ⊢
    obtain ⟨es2, t3, gave⟩ := Z
    dsimp only at p3 f3 r3 l3 ⊢
    have z2 : es2.size = es1.size := by rw [← Array.length_toList, p3.length_eq, Array.length_toList]
    have b2 : es2.size < scanBound := by rw [z2]; exact room
    refine wpAny_bind (hg _ _ _ (wpAny_bind (wpAny_storeSet_of st1 rfl ?_ (fits_of_scanBound b2))))
    have st2 := store_at (es' := es2) (t' := t3) st1 rfl
    exact wpAny_pure (hR _ (same1.trans (Heap.SameBut.update _ a _)) ⟨_, es2, _, t3, st2, hex, rfl, fun e he => g1 e (p3.mem_iff.mp he), (p3.map txtOf).nodup_iff.mpr nd1, fun k => (m1 k).trans (p3.map txtOf).mem_iff.symm, ⟨b2, f3, z2⟩, r3, led.imp id fun z => by rw [l3]; exact z⟩)
  · exact wpAny_pure (hR _ same1 ⟨_, es1, _, t2, st1, hex, rfl, g1, nd1, m1, ⟨room, fit, rfl⟩, ris, led⟩)
theorem tx_add {k : Str} {tk : Tok} {Q : Bool → Shared → Prop} (R : SetTx w s.heap a S n) (room : n + 1 < scanBound)
    (hQ : ∀ h', Heap.SameBut a s.heap h' → SetTx w h' a (fun j => S j || decide (j = k)) (if S k = true then n else n + 1) → Q (!S k) { s with heap := h' }) :
    wpAny (model P w) A (setAddHashed a (.str k tk) ((PySem.strKind P w).hash k)) Q E s := by
  obtain ⟨o, es, ep, t, ho, hex, hd, g, nd, hm, ⟨hb, hf, hn⟩, hr, hl⟩ := R
  have is_k : (PySem.strKind P w).is k (.str k tk) = true := strKind_is P w k tk
  have scan : (Value.str k tk).scannable = true := rfl
  have elems : ElemsOf (PySem.strKind P w) es.toList := goodT_elems g
  unfold setAddHashed setAddHashedIn
  refine wpAny_holding (wpAny_bind (wpAny_setState_of ho hd hf ?_))
  dsimp only
  rw [byScan_of scan hb elems]
  simp only [↓reduceIte]
  unfold setAddByScan
  refine wpAny_bind (wpAny_bind (wpAny_rule ?_))
  refine wpAny_bind (wpAny_setScan_of is_k ho hd hf elems ?_)
  cases at_ : List.findIdx? (fun e => (PySem.strKind P w).is k e.2) es.toList with
  | some j =>
    dsimp only
    obtain ⟨hj, pj, _⟩ := List.findIdx?_eq_some_iff_getElem.mp at_
    have inS : S k = true := (hm k).2 ((goodT_mem (P := P) g k).2 ⟨es.toList[j], List.getElem_mem hj, pj⟩)
    refine wpAny_pure (wpAny_pure ?_)
    have q := hQ s.heap (Heap.SameBut.refl a s.heap) ⟨o, es, ep, t, ho, hex, hd, g, nd, fun i => by
      rw [Bool.or_eq_true, decide_eq_true_eq, ← hm i]
      exact ⟨fun z => z.elim id (fun e => e ▸ inS), .inl⟩, ⟨hb, hf, by rw [if_pos inS]; exact hn⟩, hr, hl⟩
    rw [inS] at q
    exact q
  | none =>
    dsimp only
    have out : k ∉ es.toList.map txtOf := fun z => by
      obtain ⟨e, he, q⟩ := (goodT_mem (P := P) g k).1 z
      have c := List.findIdx?_eq_none_iff.mp at_ e he
      rw [q] at c
      cases c
    have noS : S k = false := by
      cases q : S k with
      | false => rfl
      | true => exact absurd ((hm k).1 q) out
    have gave_ : ∀ (b : Bool) {s₁ : Shared} {Q' : Unit → Shared → Prop}, Q' () s₁ → wpAny (model P w) A (match b with | true => rule "set.scan.the-table-gave-way" | false => pure ()) Q' E s₁ :=
      fun b s₁ Q' q => by cases b <;> first | exact wpAny_pure q | exact wpAny_rule q
    have p1 := layNew_perm t es ((PySem.strKind P w).hash k) (.str k tk)
    have f1 := layNew_fits t es ((PySem.strKind P w).hash k) (.str k tk)
    have r1 := layNew_ris t es ((PySem.strKind P w).hash k) (.str k tk) hr
    have l1 := layNew_led t es ((PySem.strKind P w).hash k) (.str k tk)
    generalize layNew t es ((PySem.strKind P w).hash k) (.str k tk) = Z at p1 f1 r1 l1 ⊢
    obtain ⟨es1, t1, wasDummy, gave⟩ := Z
    dsimp only at p1 f1 r1 l1 ⊢
    rw [Array.toList_push] at p1
    have pc : es1.toList.Perm (((PySem.strKind P w).hash k, Value.str k tk) :: es.toList) := p1.trans (List.perm_append_singleton _ _)
    have pk : (es1.toList.map txtOf).Perm (k :: es.toList.map txtOf) := pc.map txtOf
    have g1 : ∀ e ∈ es1.toList, GoodT w e := fun e he => by
      rcases List.mem_cons.mp (pc.mem_iff.mp he) with z | z
      · rw [z]; exact ⟨k, tk, rfl, rfl⟩
      · exact g e z
    have nd1 : (es1.toList.map txtOf).Nodup := pk.nodup_iff.mpr (List.nodup_cons.mpr ⟨out, nd⟩)
    have m1 : ∀ i, (S i || decide (i = k)) = true ↔ i ∈ es1.toList.map txtOf := fun i => by
      rw [Bool.or_eq_true, decide_eq_true_eq, hm i, pk.mem_iff, List.mem_cons]
      exact Or.comm
    have z1 : es1.size = n + 1 := by rw [← Array.length_toList, pc.length_eq, List.length_cons, Array.length_toList, hn]
    have b1 : es1.size < scanBound := by rw [z1]; exact room
    have led1 : w.params.followText "set-order" = true ∨ t1.led = true := hl.imp id fun z => by rw [l1]; exact z
    have fin : ∀ h', Heap.SameBut a s.heap h' → SetTx w h' a (fun j => S j || decide (j = k)) es1.size → Q true { s with heap := h' } := fun h' sb r => by
      have q := hQ h' sb
      rw [noS] at q
      rw [z1] at r
      exact q r
    refine wpAny_bind (gave_ _ ?_)
    split
    · refine wpAny_bind ?_
      rw [hashByValue_scannable 8 scan]
      refine wpAny_pure ?_
      refine tx_tail ?_ ho hex hd g1 nd1 m1 b1 ?_ ?_ ?_ ?_
      · intro b s₁ Q' q; cases b <;> first | exact wpAny_pure q | exact wpAny_rule q
      · first | (split <;> first | exact f1 | exact SetTable.fits_plain_off f1) | exact f1
      · first | (split <;> exact r1) | exact r1
      · first | (split <;> exact led1) | exact led1
      · intro h' sb r; dsimp only; exact wpAny_pure (fin h' sb r)
    · refine wpAny_bind (wpAny_pure ?_)
      simp only [↓reduceIte]
      refine tx_tail ?_ ho hex hd g1 nd1 m1 b1 f1 r1 led1 ?_
      · intro b s₁ Q' q; cases b <;> first | exact wpAny_pure q | exact wpAny_rule q
      · intro h' sb r; dsimp only; exact wpAny_pure (fin h' sb r)
end
end My
set_option maxHeartbeats 4000000
namespace My
open PySem PySem.Spec PyProof.Rows L2
abbrev hasT (xs : List Str) : Str → Bool := fun k => decide (k ∈ xs)
theorem hasT_snoc (xs : List Str) (x : Str) (k : Str) : hasT (xs ++ [x]) k = (hasT xs k || decide (k = x)) := by
  unfold hasT
  by_cases c : k = x
  · simp [c]
  · simp [c]
section
variable {prog : Program} {w : World} {A : Around} {R : Result → Shared → Prop} {I : Addr} {fp wr : List Addr} {G : Array GenState → Array GenState → Prop} {n : Nat} {Pw : Nat → Value → Prop} {St : Nat → Shared → Prop}
/-- the texts of an iterator put into a set -/
theorem put_texts (W : WalksS prog w A.in1 I fp wr G n Pw St) (a : Addr) (away : a ∉ fp) (xs : List Str) (size : xs.length = n) (few : n + 1 < scanBound)
    (reads : ∀ i v, Pw i v → ∃ t x, xs[i]? = some x ∧ v = .str x t) :
    ∀ (k i m : Nat) (s : Shared), n - i = k → i ≤ n → m ≤ i → St i s → SetTx w s.heap a (hasT (xs.take i)) m →
      (∀ s' m', Moved (a :: wr) G s s' → m' ≤ n → SetTx w s'.heap a (hasT xs) m' → R (.ok (.ret .none)) s') →
      codeAny (model prog w) A (.builtin "set.update.loop" ⟨[.ref a, .ref I], []⟩) R s := by
  have apart : a ∉ wr := fun z => away (W.sub _ z)
  have wider : ∀ b ∈ wr, b ∈ a :: wr := fun b hb => List.mem_cons_of_mem _ hb
  intro k
  induction k with
  | zero =>
    intro i m s hk hi hm hst hS hR
    obtain rfl : i = n := by omega
    rw [← size, List.take_length] at hS
    refine codeAny_builtin PyProof.Rows.F.entry_set_update_loop ?_
    rw [Around.under_plainId PyProof.Rows.F.plain_set_update_loop _]
    show wpAny _ A.in1 (pyNext (.ref I) >>= _) _ _ s
    refine wpAny_bind (W.done s _ _ hst fun s' hm' => ?_)
    show wpAny _ A.in1 (ret Value.none) _ _ s'
    exact wpAny_pure (hR s' m (hm'.mono wider) hm (hS.at fun o e => hm'.heap a _ apart e))
  | succ k ih =>
    intro i m s hk hi hm hst hS hR
    have hlt : i < n := by omega
    refine codeAny_builtin PyProof.Rows.F.entry_set_update_loop ?_
    rw [Around.under_plainId PyProof.Rows.F.plain_set_update_loop _]
    show wpAny _ A.in1 (pyNext (.ref I) >>= _) _ _ s
    refine wpAny_bind (W.item i s _ _ hlt hst fun v s' hPv hst' hm' => ?_)
    obtain ⟨t, x, hx, rfl⟩ := reads i v hPv
    have hS' : SetTx w s'.heap a (hasT (xs.take i)) m := hS.at fun o e => hm'.heap a _ apart e
    show wpAny _ A.in1 (holding [Value.str x t] (setAdd a (.str x t)) >>= _) _ _ s'
    refine wpAny_bind (wpAny_holding ?_)
    unfold setAdd
    refine wpAny_holding (wpAny_bind ((PySem.strKind prog w).pyHash (k := x) (strKind_is _ _ _ _) ?_))
    refine tx_add (P := prog) (s := { s' with toks := s'.toks + 1 }) hS' (by omega) fun h' sb hS2 => ?_
    have hS3 : SetTx w h' a (hasT (xs.take (i + 1))) (if hasT (xs.take i) x = true then m else m + 1) := by
      refine hS2.congr (fun k' => ?_) rfl
      rw [show xs.take (i + 1) = xs.take i ++ [x] by rw [List.take_succ, hx]; rfl, hasT_snoc]
    refine wpAny_pure ⟨plainId_quiet PyProof.Rows.F.plain_set_update_loop _, ih (i + 1) _ _ (by omega) hlt (by split <;> omega) (W.frame _ s' _ _ hst' (Nat.le_succ _) fun b hb o e => ?_) hS3 fun s'' m'' hm'' hle hS'' => ?_⟩
    · rw [sb.2 b (fun z : b = a => away (by rw [← z]; exact hb))]; exact e
    · refine hR s'' m'' (Moved.trans W.gtrans ((hm'.mono wider).then_heap (Nat.le_succ _) fun b o hb e => ?_) hm'') hle hS''
      rw [sb.2 b (fun z : b = a => hb (by rw [z]; exact List.mem_cons_self))]; exact e
end
def newSet (w : World) : Obj := { cls := .type "set", dict := none, data := .set #[] 0 (.fresh 0 0 (!w.params.followText "set-order")) }
theorem newSet_tx (w : World) {h : Heap} : SetTx w (h.push (newSet w)) h.objs.size (fun _ => false) 0 :=
  ⟨_, #[], 0, _, Heap.get?_push_size _ rfl, ⟨rfl, rfl, rfl⟩, rfl, (fun e he => by simp at he), (by simp), (fun k => by simp), ⟨(by decide), (by rfl), rfl⟩, List.Pairwise.nil, by
    show _ ∨ (!w.params.followText "set-order") = true
    cases w.params.followText "set-order"
    · exact Or.inr rfl
    · exact Or.inl rfl⟩
section
variable {prog : Program} {w : World} {A : Around} {E : Value → Shared → Prop} {s : Shared}
theorem set_made (a : Value) {Q₁ : Value → Shared → Prop} (h : Q₁ (.ref s.heap.objs.size) { s with heap := s.heap.push (newSet w) }) :
    codeAny (model prog w) A (.call (.builtin "set.__new__") ⟨[.type "set", a], []⟩) (wants Q₁ E) s := by
  refine codeAny_of_tree ?_
  show wpAny _ A.in1 (do checkBuiltinCall "set.__new__" ⟨[.type "set", a], []⟩; again (.builtin "set.__new__" ⟨[.type "set", a], []⟩)) _ _ s
  refine wpAny_bind (wpAny_of_eq (PySem.F.newCall_set_1 a) (wpAny_pure ⟨plainId_quiet PySem.F.plain_set_new _, codeAny_builtin PySem.F.entry_set_new ?_⟩))
  rw [Around.under_plainId PySem.F.plain_set_new _]
  unfold Builtin.«set.__new__» Builtin.Frozenset.newClass
  have hsub := sub_set_self
  obtain ⟨hp, g, d, tk, os⟩ := s
  dsimp only
  wp_walk
  refine wpAny_askSetting (wpAny_pure ?_)
  dsimp only
  simp only [newObj]
  exact wpAny_bind (wpAny_alloc (wpAny_pure (wpAny_pure h)))
set_option maxHeartbeats 3200000 in
theorem set_of_list {q : Addr} {ys : Array Value} {xs : List Str} {Q : Value → Shared → Prop}
    (calm : A.handled = none) (hq : s.heap.IsList q ys) (hx : PyProof.Rows.StrsAre ys.toList xs) (few : xs.length + 1 < scanBound)
    (k : ∀ (h' : Heap) (tk m : Nat), m ≤ xs.length → SetTx w h' s.heap.objs.size (hasT xs) m →
      (∀ b o, b < s.heap.objs.size → s.heap.get? b = some o → h'.get? b = some o) → Q (.ref s.heap.objs.size) { s with heap := h', toks := tk }) :
    wpAny (model prog w) A (call (.type "set") [.ref q]) Q E s := by
  obtain ⟨c, tl, hmro⟩ := PySem.F.called_set.mro
  have hmade := PySem.F.called_set.made
  have hsub := PySem.F.called_set.sub
  refine wpAny_call (codeAny_of_tree ?_)
  show wpAny _ _ (callAny (.type "set") _) _ _ _
  refine wpAny_pure ⟨Code.quiet_builtin _ (by decide +kernel), codeAny_builtin PySem.F.entry_type_call ?_⟩
  rw [Around.under_plain (weight_type_call_type "set" [.ref q] []) rfl]
  have h1 := PySem.F.called_set.notType
  have h2 := PySem.F.called_set.canCreate
  have hct := PySem.F.typeCall_set_1 (.ref q)
  repeat (any_goals (first | assumption | wp_step))
  refine codeAny_mono (set_made (w := w) (.ref q) (E := E) (Q₁ := fun obj s₁ => obj = .ref s.heap.objs.size ∧ s₁ = { s with heap := s.heap.push (newSet w) }) ⟨rfl, rfl⟩) fun r s₁ hr => ?_
  cases r with
  | error e => exact hr
  | ok fl =>
    cases fl with
    | ret obj =>
      obtain ⟨rfl, rfl⟩ := hr
      have hS : (s.heap.push (newSet w)).get? s.heap.objs.size = some (newSet w) := Heap.get?_push_size _ rfl
      have hT : Shared.TypeIs { s with heap := s.heap.push (newSet w) } (.ref s.heap.objs.size) "set" := ⟨_, hS, rfl⟩
      have hli := PySem.F.called_set.init.lookup
      have hbi := PySem.F.called_set.init.bind (.ref s.heap.objs.size)
      repeat (any_goals (first | assumption | wp_step))
      refine codeAny_mono (codeAny_call_builtin (R := wants (fun r s₂ => r = .none ∧ ∃ h' tk m, s₂ = { s with heap := h', toks := tk } ∧ m ≤ xs.length ∧
          SetTx w h' s.heap.objs.size (hasT xs) m ∧
          (∀ b o, b < s.heap.objs.size → s.heap.get? b = some o → h'.get? b = some o)) E) PySem.F.called_set.init.plain PySem.F.entry_set_init (check_set_init_1 hT ?_)) fun r₂ s₂ hr₂ => ?_
      · obtain ⟨ol, hol, hcl, nl, hdl⟩ := hq
        obtain ⟨ocls, odict, odata, oslots⟩ := ol
        simp only at hcl hdl
        subst hcl; subst hdl
        have hol' : (s.heap.push (newSet w)).get? q = some { cls := .type "list", dict := odict, data := .seq ys nl, slots := oslots } := Heap.get?_push_of_some _ hol
        have hsls := PySem.F.sub_list_set
        have hslf := PySem.F.sub_list_frozenset
        have hne : (Value.type "list" == Value.type "dict") = false := by decide
        have hl1 : (s.heap.push (newSet w)).IsList q ys := ⟨_, hol', rfl, nl, rfl⟩
        unfold Builtin.«set.__init__» noKeywords Builtin.Frozenset.updateFrom
        generalize hPI : pyIter = PI
        wp_walk
        subst hPI
        refine wpAny_pyIter_list hl1 (wpAny_bind (wpAny_runValue ?_))
        have qS : q < s.heap.objs.size := Heap.lt_size hol
        have calm3 : A.in1.in1.in1.handled = none := by simp [calm]
        have z1 : (s.heap.push (newSet w)).objs.size = s.heap.objs.size + 1 := Heap.size_push ..
        have qI : q ≠ (s.heap.push (newSet w)).objs.size := by
          rw [z1]; exact Nat.ne_of_lt (Nat.lt_succ_of_lt qS)
        have away : s.heap.objs.size ∉ [(s.heap.push (newSet w)).objs.size, q] := by
          rw [z1]; simp only [List.mem_cons, List.mem_singleton, List.not_mem_nil, or_false, not_or]
          exact ⟨Nat.ne_of_lt (Nat.lt_succ_self _), Nat.ne_of_gt qS⟩
        have sz : xs.length = ys.size := by rw [← StrsAre.len_eq hx, Array.length_toList]
        have rd : ∀ (i : Nat) (v : Value), ys[i]? = some v → ∃ t x, xs[i]? = some x ∧ v = .str x t := fun i v hv => by
          obtain ⟨t, e⟩ := SS.strs_at hx i v (by rw [Array.getElem?_toList]; exact hv)
          have hi : i < xs.length := by rw [sz]; exact (Array.getElem?_eq_some_iff.mp hv).1
          exact ⟨t, xs[i], List.getElem?_eq_getElem hi, by rw [e, List.getD_eq_getElem?_getD, List.getElem?_eq_getElem hi]; rfl⟩
        refine put_texts ((Walks.list calm3 _ q qI ys).toS) s.heap.objs.size
          away xs sz (by omega) rd (ys.size - 0) 0 0 _ rfl (Nat.zero_le _) (Nat.zero_le _)
          ⟨⟨_, Heap.get?_push_size _ rfl, rfl, rfl⟩, (hl1.push _)⟩ ?start ?end_
        case start =>
          exact (SetTx.congr (newSet_tx w) (fun k => by simp [hasT]) rfl).at fun o e => Heap.get?_push_of_some _ e
        case end_ =>
          intro s' m hm hle hS'
          obtain ⟨h', g', d', tk', os'⟩ := s'
          cases (show g' = s.gens from hm.gens)
          cases (show d' = s.drawn from hm.drawn)
          cases (show os' = s.os from hm.os)
          show wpAny _ _ _ _ _ _
          refine wpAny_pure ?_
          show wpAny _ _ (ret Value.none) _ _ _
          refine wpAny_pure ⟨rfl, h', tk', m, rfl, by rw [sz]; exact hle, hS', fun b o hb e => ?_⟩
          have b1 : b ≠ s.heap.objs.size := Nat.ne_of_lt hb
          have b2 : b ≠ (s.heap.push (newSet w)).objs.size := by
            rw [z1]; exact Nat.ne_of_lt (Nat.lt_succ_of_lt hb)
          exact hm.heap b o (by simp only [List.mem_cons, List.mem_singleton, List.not_mem_nil, or_false, not_or]; exact ⟨b1, b2⟩) (Heap.get?_push_of_some _ (Heap.get?_push_of_some _ e))
      · cases r₂ with
        | error e => exact hr₂
        | ok fl₂ =>
          cases fl₂ with
          | ret r =>
            obtain ⟨rfl, h', tk, m, rfl, hle, hS', keep⟩ := hr₂
            repeat (any_goals (first | assumption | wp_step))
            exact k _ _ m hle hS' keep
          | _ => exact hr₂.elim
    | _ => exact hr.elim
set_option maxHeartbeats 3200000 in
theorem set_of_tuple {q : Addr} {ys : Array Value} {xs : List Str} {Q : Value → Shared → Prop}
    (calm : A.handled = none) (hq : s.heap.IsTuple q ys) (hx : PyProof.Rows.StrsAre ys.toList xs) (few : xs.length + 1 < scanBound)
    (k : ∀ (h' : Heap) (tk m : Nat), m ≤ xs.length → SetTx w h' s.heap.objs.size (hasT xs) m →
      (∀ b o, b < s.heap.objs.size → s.heap.get? b = some o → h'.get? b = some o) → Q (.ref s.heap.objs.size) { s with heap := h', toks := tk }) :
    wpAny (model prog w) A (call (.type "set") [.ref q]) Q E s := by
  obtain ⟨c, tl, hmro⟩ := PySem.F.called_set.mro
  have hmade := PySem.F.called_set.made
  have hsub := PySem.F.called_set.sub
  refine wpAny_call (codeAny_of_tree ?_)
  show wpAny _ _ (callAny (.type "set") _) _ _ _
  refine wpAny_pure ⟨Code.quiet_builtin _ (by decide +kernel), codeAny_builtin PySem.F.entry_type_call ?_⟩
  rw [Around.under_plain (weight_type_call_type "set" [.ref q] []) rfl]
  have h1 := PySem.F.called_set.notType
  have h2 := PySem.F.called_set.canCreate
  have hct := PySem.F.typeCall_set_1 (.ref q)
  repeat (any_goals (first | assumption | wp_step))
  refine codeAny_mono (set_made (w := w) (.ref q) (E := E) (Q₁ := fun obj s₁ => obj = .ref s.heap.objs.size ∧ s₁ = { s with heap := s.heap.push (newSet w) }) ⟨rfl, rfl⟩) fun r s₁ hr => ?_
  cases r with
  | error e => exact hr
  | ok fl =>
    cases fl with
    | ret obj =>
      obtain ⟨rfl, rfl⟩ := hr
      have hS : (s.heap.push (newSet w)).get? s.heap.objs.size = some (newSet w) := Heap.get?_push_size _ rfl
      have hT : Shared.TypeIs { s with heap := s.heap.push (newSet w) } (.ref s.heap.objs.size) "set" := ⟨_, hS, rfl⟩
      have hli := PySem.F.called_set.init.lookup
      have hbi := PySem.F.called_set.init.bind (.ref s.heap.objs.size)
      repeat (any_goals (first | assumption | wp_step))
      refine codeAny_mono (codeAny_call_builtin (R := wants (fun r s₂ => r = .none ∧ ∃ h' tk m, s₂ = { s with heap := h', toks := tk } ∧ m ≤ xs.length ∧
          SetTx w h' s.heap.objs.size (hasT xs) m ∧
          (∀ b o, b < s.heap.objs.size → s.heap.get? b = some o → h'.get? b = some o)) E) PySem.F.called_set.init.plain PySem.F.entry_set_init (check_set_init_1 hT ?_)) fun r₂ s₂ hr₂ => ?_
      · obtain ⟨ol, hol, hcl, nl, hdl⟩ := hq
        obtain ⟨ocls, odict, odata, oslots⟩ := ol
        simp only at hcl hdl
        subst hcl; subst hdl
        have hol' : (s.heap.push (newSet w)).get? q = some { cls := .type "tuple", dict := odict, data := .seq ys nl, slots := oslots } := Heap.get?_push_of_some _ hol
        have hsls := PySem.F.sub_tuple_set
        have hslf := PySem.F.sub_tuple_frozenset
        have hne : (Value.type "tuple" == Value.type "dict") = false := by decide
        have hl1 : (s.heap.push (newSet w)).IsTuple q ys := ⟨_, hol', rfl, nl, rfl⟩
        unfold Builtin.«set.__init__» noKeywords Builtin.Frozenset.updateFrom
        generalize hPI : pyIter = PI
        wp_walk
        subst hPI
        refine wpAny_pyIter_tuple hl1 (wpAny_bind (wpAny_runValue ?_))
        have qS : q < s.heap.objs.size := Heap.lt_size hol
        have calm3 : A.in1.in1.in1.handled = none := by simp [calm]
        have z1 : (s.heap.push (newSet w)).objs.size = s.heap.objs.size + 1 := Heap.size_push ..
        have qI : q ≠ (s.heap.push (newSet w)).objs.size := by
          rw [z1]; exact Nat.ne_of_lt (Nat.lt_succ_of_lt qS)
        have away : s.heap.objs.size ∉ [(s.heap.push (newSet w)).objs.size, q] := by
          rw [z1]; simp only [List.mem_cons, List.mem_singleton, List.not_mem_nil, or_false, not_or]
          exact ⟨Nat.ne_of_lt (Nat.lt_succ_self _), Nat.ne_of_gt qS⟩
        have sz : xs.length = ys.size := by rw [← StrsAre.len_eq hx, Array.length_toList]
        have rd : ∀ (i : Nat) (v : Value), ys[i]? = some v → ∃ t x, xs[i]? = some x ∧ v = .str x t := fun i v hv => by
          obtain ⟨t, e⟩ := SS.strs_at hx i v (by rw [Array.getElem?_toList]; exact hv)
          have hi : i < xs.length := by rw [sz]; exact (Array.getElem?_eq_some_iff.mp hv).1
          exact ⟨t, xs[i], List.getElem?_eq_getElem hi, by rw [e, List.getD_eq_getElem?_getD, List.getElem?_eq_getElem hi]; rfl⟩
        refine put_texts ((Walks.tuple calm3 _ q qI ys).toS) s.heap.objs.size
          away xs sz (by omega) rd (ys.size - 0) 0 0 _ rfl (Nat.zero_le _) (Nat.zero_le _)
          ⟨⟨_, Heap.get?_push_size _ rfl, rfl, rfl⟩, (hl1.push _)⟩ ?start ?end_
        case start =>
          exact (SetTx.congr (newSet_tx w) (fun k => by simp [hasT]) rfl).at fun o e => Heap.get?_push_of_some _ e
        case end_ =>
          intro s' m hm hle hS'
          obtain ⟨h', g', d', tk', os'⟩ := s'
          cases (show g' = s.gens from hm.gens)
          cases (show d' = s.drawn from hm.drawn)
          cases (show os' = s.os from hm.os)
          show wpAny _ _ _ _ _ _
          refine wpAny_pure ?_
          show wpAny _ _ (ret Value.none) _ _ _
          refine wpAny_pure ⟨rfl, h', tk', m, rfl, by rw [sz]; exact hle, hS', fun b o hb e => ?_⟩
          have b1 : b ≠ s.heap.objs.size := Nat.ne_of_lt hb
          have b2 : b ≠ (s.heap.push (newSet w)).objs.size := by
            rw [z1]; exact Nat.ne_of_lt (Nat.lt_succ_of_lt hb)
          exact hm.heap b o (by simp only [List.mem_cons, List.mem_singleton, List.not_mem_nil, or_false, not_or]; exact ⟨b1, b2⟩) (Heap.get?_push_of_some _ (Heap.get?_push_of_some _ e))
      · cases r₂ with
        | error e => exact hr₂
        | ok fl₂ =>
          cases fl₂ with
          | ret r =>
            obtain ⟨rfl, h', tk, m, rfl, hle, hS', keep⟩ := hr₂
            repeat (any_goals (first | assumption | wp_step))
            exact k _ _ m hle hS' keep
          | _ => exact hr₂.elim
    | _ => exact hr.elim
end
end My
set_option maxHeartbeats 4000000
namespace My
open PySem PySem.Spec PyProof.Rows L2
/-! ### sorted(a set of texts), len of it -/
def textIn : Value → Str | .str x _ => x | _ => Str.empty
theorem each_text : ∀ l : List Value, (∀ v ∈ l, ∃ k tk, v = Value.str k tk) → PySem.W.EachIs (fun v b => ∃ t, v = Value.str b t) l (l.map textIn)
  | [], _ => .nil
  | v :: l, h => by
    obtain ⟨k, tk, rfl⟩ := h v List.mem_cons_self
    exact .cons ⟨tk, rfl⟩ (each_text l fun u hu => h u (List.mem_cons_of_mem _ hu))
theorem vals_text : ∀ {out : List Value} {M : List Str}, PySem.W.EachIs (fun v b => ∃ t, v = Value.str b t) out M → Vals (M.map V.str) out
  | _, _, .nil => .nil
  | _, _, .cons h t => .cons (show RelV _ _ from h) (vals_text t)
section
variable {P : Program} {w : World} {A : Around} {E : Value → Shared → Prop} {s : Shared} {a : Addr} {S : Str → Bool} {n : Nat}
theorem sorted_texts {Q : Value → Shared → Prop} (R : SetTx w s.heap a S n) (calm : A.handled = none) (small : n ≤ 100000) (hu : A.units + 64 < cLine)
    (hQ : ∀ s' p (out : Array Value) (c : Nat) (M : List Str), (∀ b o, s.heap.get? b = some o → s'.heap.get? b = some o) → s'.gens = s.gens → s'.os = s.os → s.heap.objs.size ≤ p →
      s'.heap.get? p = some (seqObj "list" out c) → Vals (M.map V.str) out.toList → M.Pairwise sLt → (∀ k, k ∈ M ↔ S k = true) → M.length = n → Q (.ref p) s') :
    wpAny (model P w) A (call (.builtin "sorted") [.ref a]) Q E s := by
  obtain ⟨o, es, ep, t, ho, hex, hd, g, nd, hm, ⟨hb, hf, hn⟩, hr, hl⟩ := R
  have line : n ≤ sizeLine := Nat.le_trans small (by decide)
  refine Calls.call_function_entry kind_sorted plain_sorted entry_sorted (args_sorted1 _) ?_
  unfold Builtin.«sorted»
  refine wpAny_bind (m := checkCount "sorted" 1 1 _) (wpAny_pure ?_)
  refine wpAny_bind (collect_set (A := A.in1) calm ⟨o, ho, hex.1, hd⟩ hf hb hr hl fun s1 vs k1 hz g1 o1 pm => ?_)
  have many : vs.length = n := by rw [pm.length_eq, List.length_map, Array.length_toList]; exact hn
  have each := each_text vs fun v hv => by
    obtain ⟨e, he, q⟩ := List.mem_map.mp (pm.mem_iff.mp hv)
    obtain ⟨k, tk, h1, _⟩ := g e he
    exact ⟨k, tk, by rw [← q]; exact h1⟩
  have pk : (vs.map textIn).Perm (es.toList.map txtOf) := by
    have q := pm.map textIn
    rw [List.map_map] at q
    exact q
  have nd2 : (vs.map textIn).Nodup := pk.nodup_iff.mpr nd
  refine wpAny_bind (wpAny_newList ?_ (by rw [many]; exact line))
  have laid : (s1.heap.push (seqObj "list" vs.toArray 0)).get? s1.heap.objs.size = some (seqObj "list" vs.toArray 0) := Heap.get?_push_size _ rfl
  refine wpAny_bind (wpAny_holding (PySem.W.list_sort_data (s := { s1 with heap := s1.heap.push (seqObj "list" vs.toArray 0) }) (enc := PyData.str) (bs := vs.map textIn) laid each (each.mono fun v b ⟨t, e⟩ => ⟨[], by rw [e]; exact .str _ _, by simp⟩) ?_ ?_ ?_ ?_ fun out len outs => ?_))
  · intro d hd d' hd'
    obtain ⟨x, _, rfl⟩ := List.mem_map.mp hd
    obtain ⟨y, _, rfl⟩ := List.mem_map.mp hd'
    rfl
  · exact .others (enc := PyData.str) fun b => ⟨fun z => (by cases z), fun xs z => (by cases z)⟩
  · rw [List.length_map, many]; exact line
  · intro b _
    show A.units + 1 + 1 + 0 < cLine
    omega
  · obtain ⟨c, hc⟩ := sortedHeap_at (vs := vs) (out := out.toArray) laid
    rw [show PySem.W.dataLe false PyData.str = leS from dataLe_s] at outs
    have pn : ((vs.map textIn).mergeSort leS).Perm (es.toList.map txtOf) := (List.mergeSort_perm _ _).trans pk
    refine wpAny_pure ⟨_, rfl, hQ _ s1.heap.objs.size out.toArray c ((vs.map textIn).mergeSort leS) (fun b u e => ?_) g1 o1 hz hc (by simpa using vals_text outs) (texts_of nd2) (fun k => by rw [pn.mem_iff, ← hm k]) ?_⟩
    · have q := k1 b u e
      have hlt := Heap.lt_size q
      show (sortedHeap (s1.heap.push (seqObj "list" vs.toArray 0)) s1.heap.objs.size vs out.toArray).get? b = some u
      rw [sortedHeap_old (Nat.ne_of_lt hlt) (by rw [size_push']; exact Nat.lt_succ_of_lt hlt)]
      exact Heap.get?_push_of_some _ q
    · rw [pn.length_eq, List.length_map, Array.length_toList]; exact hn
end
/-- a set of texts in the heap -/
def TxO (w : World) (a : Addr) (S : Str → Bool) (n : Nat) : HO := .ext fun h => SetTx w h a S n
section
variable {X : Cx}
theorem txO_new {w : World} {P : Program} {H : Hp} {h : Heap} {a : Addr} {S : Str → Bool} {n : Nat} (R : SetTx w h a S n) : ObjOk P w H h a (TxO w a S n) := by
  have ⟨o, _, _, _, ho, _⟩ := R
  exact ⟨R, ⟨o, ho⟩, fun _ _ p k => SetTx.at p k⟩
theorem txO_get {pins : List (Addr × Obj)} {σ : L2.St} {H : Hp} {s : Shared} {a : Addr} {S : Str → Bool} {n : Nat} (I : Inv X pins σ H s) (ha : H a = some (TxO X.w a S n)) : SetTx X.w s.heap a S n := (I.hok a _ ha).1
/-- sorted(found) -/
def rSortTx (w : World) : List V → Hp → VK → Prop := fun vs H Q => ∃ (a : Addr) (S : Str → Bool) (n : Nat), vs = [V.ref a] ∧ H a = some (TxO w a S n) ∧ n ≤ 100000 ∧
  ∀ (M : List Str) (p : Addr), M.Pairwise sLt → (∀ k : Str, k ∈ M ↔ S k = true) → M.length = n → H p = none → Q (.ref p) (upd H p (.lst (M.map V.str)))
theorem cr_sortTx (hc : X.calm = true) (hu : X.A.units + 64 < cLine) : CallR X (.builtin "sorted") (rSortTx X.w) := by
  intro pins s σ H vs us Q I r h
  obtain ⟨a, S, n, rfl, ha, small, q⟩ := h
  have R := txO_get I ha
  rw [Vals.ref1 r]
  refine sorted_texts R (I.ok.hd hc) small hu fun s' p out c M k g o hp hg hv hs hm hl => ?_
  have line : (M.map V.str).length ≤ sizeLine := by rw [List.length_map, hl]; exact Nat.le_trans small (by decide)
  have free : H p = none := I.hok.fresh hp
  have J : Inv X pins σ (upd H p (.lst (M.map V.str))) { s with heap := s'.heap, gens := s'.gens, drawn := s'.drawn, toks := s'.toks } :=
    I.call (ch := []) (Un.laid k hp free) (I.hok.laid k hp ⟨line, out.toList, c, hv, hg⟩) (by rw [g]; exact I.bare) (fun _ z => nomatch z)
  have same : s' = { s with heap := s'.heap, gens := s'.gens, drawn := s'.drawn, toks := s'.toks } := by
    cases s'
    cases s
    cases o
    rfl
  rw [same]
  exact ⟨.ref p, _, J, rfl, q M p hs hm hl free⟩
/-- len(found) -/
theorem cr_lenTx : CallR X (.builtin "len") (fun vs H Q => ∃ (a : Addr) (S : Str → Bool) (n : Nat), vs = [V.ref a] ∧ H a = some (TxO X.w a S n) ∧ n ≤ 100000 ∧ Q (.int (n : Int)) H) := by
  intro pins s σ H vs us Q I r h
  obtain ⟨a, S, n, rfl, ha, small, q⟩ := h
  obtain ⟨o, es, ep, t, ho, hex, hd, _, _, _, ⟨_, hf, hn⟩, _⟩ := txO_get I ha
  rw [Vals.ref1 r]
  exact call_len_set ho hex hd hf (by rw [hn]; omega) ⟨.int (n : Int), H, I.tok _, ⟨_, by rw [hn]⟩, q⟩
end
end My
set_option maxHeartbeats 4000000
namespace My
open PySem PySem.Spec PyProof.Rows L2
theorem tx_many {w : World} {h : Heap} {a : Addr} {xs : List Str} {n : Nat} (R : SetTx w h a (hasT xs) n) (D : List Str) (hD : D.Nodup) (hm : ∀ k, k ∈ D ↔ k ∈ xs) : D.length = n := by
  obtain ⟨o, es, ep, t, _, _, _, _, nd, hS, ⟨_, _, hn⟩, _⟩ := R
  have p : D.Perm (es.toList.map txtOf) := (List.perm_ext_iff_of_nodup hD nd).mpr fun k => by
    rw [hm, ← hS k]
    unfold hasT
    rw [decide_eq_true_iff]
  rw [p.length_eq, List.length_map, Array.length_toList, hn]
section
variable {X : Cx}
/-- set(texts) -/
def rSetTx (K : PySem.W.Frag) (w : World) : List V → Hp → VK → Prop := fun vs H Q => ∃ (l : Addr) (xs : List Str), vs = [V.ref l] ∧ (SqL K H l (xs.map V.str) ∨ SqT K H l (xs.map V.str)) ∧ xs.length ≤ 1000 ∧
  ∀ (p : Addr) (n : Nat), (∀ D : List Str, D.Nodup → (∀ k, k ∈ D ↔ k ∈ xs) → D.length = n) → n ≤ xs.length → H p = none → Q (.ref p) (upd H p (TxO w p (hasT xs) n))
theorem cr_setTx (hc : X.calm = true) : CallR X (.type "set") (rSetTx X.K X.w) := by
  intro pins s σ H vs us Q I r h
  obtain ⟨l, xs, rfl, hq, small, q⟩ := h
  rw [Vals.ref1 r]
  have few : xs.length + 1 < scanBound := by unfold scanBound; omega
  have fin : ∀ (h' : Heap) (tk m : Nat), m ≤ xs.length → SetTx X.w h' s.heap.objs.size (hasT xs) m → (∀ b o, b < s.heap.objs.size → s.heap.get? b = some o → h'.get? b = some o) →
      EP X pins σ Q (.ref s.heap.objs.size) { s with heap := h', toks := tk } := fun h' tk m hle R keep =>
    ⟨.ref _, upd H s.heap.objs.size (TxO X.w s.heap.objs.size (hasT xs) m), I.laid (t' := tk) (fun b u e => keep b u (Heap.lt_size e) e) (Nat.le_refl _) (txO_new R), rfl, q _ m (tx_many R) hle (I.hok.fresh (Nat.le_refl _))⟩
  rcases hq with hq | hq
  · obtain ⟨its, rv, pl, hz⟩ := I.list hq
    exact set_of_list (I.ok.hd hc) pl.isList (by simpa using L2.strsAre_of rv) few fin
  · obtain ⟨its, rv, pl, hz⟩ := I.tuple hq
    exact set_of_tuple (I.ok.hd hc) pl (by simpa using L2.strsAre_of rv) few fin
end
end My
set_option maxHeartbeats 4000000
namespace My
open PySem PySem.Spec PyProof.Rows L2
/-! ### sorted(a list or a tuple of texts) -/
theorem textIn_of : ∀ {xs : List Str} {us : List Value}, Vals (xs.map V.str) us → (∀ v ∈ us, ∃ k tk, v = Value.str k tk) ∧ us.map textIn = xs
  | [], _, .nil => ⟨fun v hv => by simp at hv, rfl⟩
  | x :: xs, _, .cons r t => by
    obtain ⟨h1, h2⟩ := textIn_of (xs := xs) t
    obtain ⟨tk, rfl⟩ := r
    refine ⟨fun v hv => ?_, by rw [List.map_cons, h2]; rfl⟩
    rcases List.mem_cons.mp hv with z | z
    · exact ⟨x, tk, z⟩
    · exact h1 v z
section
variable {P : Program} {w : World} {A : Around} {E : Value → Shared → Prop} {s : Shared} {a : Addr}
theorem gather {Q : List Value → Shared → Prop} (q : Addr) {T : String} {o : Obj} {ys : Array Value} {n : Nat} (hT : T = "list" ∨ T = "tuple")
    (ho : s.heap.get? q = some o) (hc : o.cls = .type T) (hd : o.data = .seq ys n) (line : ys.size ≤ sizeLine)
    (hQ : ∀ h', (∀ b o', s.heap.get? b = some o' → h'.get? b = some o') → s.heap.objs.size ≤ h'.objs.size → Q ys.toList { s with heap := h' }) :
    wpAny (model P w) A (collect (.ref q)) Q E s := by
  unfold collect
  refine wpAny_bind (wpAny_runValue (codeAny_builtin PySem.F.entry_proto_collect ?_))
  rw [Around.under_plainId PySem.F.plain_proto_collect _]
  show wpAny _ A.in1 (newList [] >>= fun l => again (.builtin "list.__iadd__" ⟨[l, .ref q], []⟩)) _ _ s
  refine wpAny_bind (wpAny_newObj_type ?_)
  refine wpAny_pure ⟨plainId_quiet PySem.F.plain_list_iadd _, codeAny_builtin PySem.F.entry_list_iadd ?_⟩
  rw [Around.under_plainId PySem.F.plain_list_iadd _]
  show wpAny _ A.in1 (Builtin.List.listExtendWith (.ref s.heap.objs.size) (.ref q) (.ref s.heap.objs.size)) _ _ _
  have new1 : (s.heap.push { cls := .type "list", data := .seq ([] : List Value).toArray }).get? s.heap.objs.size = some { cls := .type "list", data := .seq #[] 0 } := Heap.get?_push_size _ rfl
  have new2 := Heap.get?_update_self (Obj.mapSeq (· ++ ys)) new1 rfl
  have told_ : wpAny (model P w) A (match Value.ref s.heap.objs.size with
      | Value.ref a => do
        match (← load a).data with
          | Data.seq xs _ => pure xs.toList
          | _ => unsupported "internal:collect"
      | _ => unsupported "internal:collect") Q E { s with heap := (s.heap.push { cls := .type "list", data := .seq ([] : List Value).toArray }).update s.heap.objs.size (Obj.mapSeq (· ++ ys)) } := by
    show wpAny _ A (load s.heap.objs.size >>= _) _ _ _
    refine wpAny_bind (wpAny_load new2 (wpAny_pure ?_))
    show Q ((#[] : Array Value) ++ ys).toList _
    rw [show ((#[] : Array Value) ++ ys).toList = ys.toList by simp]
    refine hQ _ (fun b o' hb => (Heap.get?_update_other _ _ (Nat.ne_of_gt (Heap.lt_size hb))).trans (Heap.get?_push_of_some _ hb)) ?_
    exact Nat.le_of_lt (Heap.lt_size new2)
  refine wpAny_mono (wpAny_extend_seq (hsz := line) (A := A) (R := fun r s' => r = .ok (.ret (.ref s.heap.objs.size)) ∧ s' = { s with heap := (s.heap.push { cls := .type "list", data := .seq ([] : List Value).toArray }).update s.heap.objs.size (Obj.mapSeq (· ++ ys)) })
    (s := { s with heap := s.heap.push { cls := .type "list", data := .seq ([] : List Value).toArray } }) _ q _ 0 hT new1 (Heap.get?_push_of_some _ ho) hc hd ⟨rfl, rfl⟩) (fun fin s' h => ?_) (fun e s' h => ?_)
  · cases fin with
    | done f =>
      obtain ⟨e, rfl⟩ := h
      cases e
      exact told_
    | again c' => exact ⟨h.1, codeAny_mono h.2 fun r s'' hr => by obtain ⟨rfl, rfl⟩ := hr; exact told_⟩
  · exact absurd h.1 (by simp)
theorem sorted_seq {Q : Value → Shared → Prop} {T : String} {o : Obj} {ys : Array Value} {n : Nat} {xs : List Str} (hT : T = "list" ∨ T = "tuple") (ho : s.heap.get? a = some o) (hc : o.cls = .type T) (hd : o.data = .seq ys n)
    (rv : Vals (xs.map V.str) ys.toList) (small : xs.length ≤ 100000) (hu : A.units + 64 < cLine)
    (hQ : ∀ s' p (out : Array Value) (c : Nat), (∀ b o, s.heap.get? b = some o → s'.heap.get? b = some o) → s'.gens = s.gens → s'.os = s.os → s.heap.objs.size ≤ p →
      s'.heap.get? p = some (seqObj "list" out c) → Vals ((xs.mergeSort leS).map V.str) out.toList → Q (.ref p) s') :
    wpAny (model P w) A (call (.builtin "sorted") [.ref a]) Q E s := by
  obtain ⟨each0, eM⟩ := textIn_of rv
  have many : ys.toList.length = xs.length := by rw [← vals_len rv, List.length_map]
  have line : ys.size ≤ sizeLine := by rw [← Array.length_toList, many]; exact Nat.le_trans small (by decide)
  refine Calls.call_function_entry kind_sorted plain_sorted entry_sorted (args_sorted1 _) ?_
  unfold Builtin.«sorted»
  refine wpAny_bind (m := checkCount "sorted" 1 1 _) (wpAny_pure ?_)
  refine wpAny_bind (gather (A := A.in1) a hT ho hc hd line fun h1 k1 hz => ?_)
  have each := each_text ys.toList each0
  refine wpAny_bind (wpAny_newList ?_ (by rw [many]; exact Nat.le_trans small (by decide)))
  have laid : (h1.push (seqObj "list" ys.toList.toArray 0)).get? h1.objs.size = some (seqObj "list" ys.toList.toArray 0) := Heap.get?_push_size _ rfl
  refine wpAny_bind (wpAny_holding (PySem.W.list_sort_data (s := { s with heap := h1.push (seqObj "list" ys.toList.toArray 0) }) (enc := PyData.str) (bs := ys.toList.map textIn) laid each (each.mono fun v b ⟨t, e⟩ => ⟨[], by rw [e]; exact .str _ _, by simp⟩) ?_ ?_ ?_ ?_ fun out len outs => ?_))
  · intro d hd d' hd'
    obtain ⟨x, _, rfl⟩ := List.mem_map.mp hd
    obtain ⟨y, _, rfl⟩ := List.mem_map.mp hd'
    rfl
  · exact .others (enc := PyData.str) fun b => ⟨fun z => (by cases z), fun xs z => (by cases z)⟩
  · rw [List.length_map, many]; exact Nat.le_trans small (by decide)
  · intro b _
    show A.units + 1 + 1 + 0 < cLine
    omega
  · obtain ⟨c, hc⟩ := sortedHeap_at (vs := ys.toList) (out := out.toArray) laid
    rw [show PySem.W.dataLe false PyData.str = leS from dataLe_s, eM] at outs
    refine wpAny_pure ⟨_, rfl, hQ _ h1.objs.size out.toArray c (fun b u e => ?_) rfl rfl hz hc (by simpa using vals_text outs)⟩
    have q := k1 b u e
    have hlt := Heap.lt_size q
    show (sortedHeap (h1.push (seqObj "list" ys.toList.toArray 0)) h1.objs.size ys.toList out.toArray).get? b = some u
    rw [sortedHeap_old (Nat.ne_of_lt hlt) (by rw [size_push']; exact Nat.lt_succ_of_lt hlt)]
    exact Heap.get?_push_of_some _ q
end
section
variable {X : Cx}
def rSortSq (K : PySem.W.Frag) : List V → Hp → VK → Prop := fun vs H Q => ∃ (a : Addr) (xs : List Str), vs = [V.ref a] ∧ (SqL K H a (xs.map V.str) ∨ SqT K H a (xs.map V.str)) ∧ xs.length ≤ 100000 ∧
  ∀ (p : Addr), H p = none → Q (.ref p) (upd H p (.lst ((xs.mergeSort leS).map V.str)))
theorem cr_sortSq (hu : X.A.units + 64 < cLine) : CallR X (.builtin "sorted") (rSortSq X.K) := by
  intro pins s σ H vs us Q I r h
  obtain ⟨a, xs, rfl, hq, small, q⟩ := h
  rw [Vals.ref1 r]
  have line : ((xs.mergeSort leS).map V.str).length ≤ sizeLine := by rw [List.length_map, List.length_mergeSort]; exact Nat.le_trans small (by decide)
  have fin : ∀ s' p (out : Array Value) (c : Nat), (∀ b o, s.heap.get? b = some o → s'.heap.get? b = some o) → s'.gens = s.gens → s'.os = s.os → s.heap.objs.size ≤ p →
      s'.heap.get? p = some (seqObj "list" out c) → Vals ((xs.mergeSort leS).map V.str) out.toList → EP X pins σ Q (.ref p) s' := fun s' p out c k g o hp hg hv => by
    have free : H p = none := I.hok.fresh hp
    have J : Inv X pins σ (upd H p (.lst ((xs.mergeSort leS).map V.str))) { s with heap := s'.heap, gens := s'.gens, drawn := s'.drawn, toks := s'.toks } :=
      I.call (ch := []) (Un.laid k hp free) (I.hok.laid k hp ⟨line, out.toList, c, hv, hg⟩) (by rw [g]; exact I.bare) (fun _ z => nomatch z)
    have same : s' = { s with heap := s'.heap, gens := s'.gens, drawn := s'.drawn, toks := s'.toks } := by
      cases s'
      cases s
      cases o
      rfl
    rw [same]
    exact ⟨.ref p, _, J, rfl, q p free⟩
  rcases hq with hq | hq
  · obtain ⟨its, rv, pl, hz⟩ := I.list hq
    obtain ⟨o, ho, hc, n, hd⟩ := pl.isList
    exact sorted_seq (.inl rfl) ho hc hd (by simpa using rv) small hu fin
  · obtain ⟨its, rv, pl, hz⟩ := I.tuple hq
    obtain ⟨o, ho, hc, n, hd⟩ := pl
    exact sorted_seq (.inr rfl) ho hc hd (by simpa using rv) small hu fin
end
end My
set_option maxHeartbeats 4000000
namespace My
open PySem PySem.Spec PyProof.Rows L2
/-! ### sets of whole numbers -/
def inI (xs : List Int) : Int → Bool := fun j => decide (j ∈ xs)
section
variable {prog : Program} {w : World} {A : Around} {E : Value → Shared → Prop} {s : Shared}
theorem set_of_ints {q : Addr} {ys : Array Value} {xs : List Int} {Q : Value → Shared → Prop}
    (calm : A.handled = none) (hq : s.heap.IsList q ys) (hx : PyProof.Rows.IntsAre ys.toList xs) (few : xs.length + 1 < scanBound)
    (k : ∀ (h' : Heap) (tk m : Nat), m ≤ xs.length → SetR w h' s.heap.objs.size (inI xs) m →
      (∀ b o, b < s.heap.objs.size → s.heap.get? b = some o → h'.get? b = some o) → Q (.ref s.heap.objs.size) { s with heap := h', toks := tk }) :
    wpAny (model prog w) A (call (.type "set") [.ref q]) Q E s := by
  obtain ⟨c, tl, hmro⟩ := PySem.F.called_set.mro
  have hmade := PySem.F.called_set.made
  have hsub := PySem.F.called_set.sub
  refine wpAny_call (codeAny_of_tree ?_)
  show wpAny _ _ (callAny (.type "set") _) _ _ _
  refine wpAny_pure ⟨Code.quiet_builtin _ (by decide +kernel), codeAny_builtin PySem.F.entry_type_call ?_⟩
  rw [Around.under_plain (weight_type_call_type "set" [.ref q] []) rfl]
  have h1 := PySem.F.called_set.notType
  have h2 := PySem.F.called_set.canCreate
  have hct := PySem.F.typeCall_set_1 (.ref q)
  repeat (any_goals (first | assumption | wp_step))
  refine codeAny_mono (set_made (w := w) (.ref q) (E := E) (Q₁ := fun obj s₁ => obj = .ref s.heap.objs.size ∧ s₁ = { s with heap := s.heap.push (newSet w) }) ⟨rfl, rfl⟩) fun r s₁ hr => ?_
  cases r with
  | error e => exact hr
  | ok fl =>
    cases fl with
    | ret obj =>
      obtain ⟨rfl, rfl⟩ := hr
      have hS : (s.heap.push (newSet w)).get? s.heap.objs.size = some (newSet w) := Heap.get?_push_size _ rfl
      have hT : Shared.TypeIs { s with heap := s.heap.push (newSet w) } (.ref s.heap.objs.size) "set" := ⟨_, hS, rfl⟩
      have hli := PySem.F.called_set.init.lookup
      have hbi := PySem.F.called_set.init.bind (.ref s.heap.objs.size)
      repeat (any_goals (first | assumption | wp_step))
      refine codeAny_mono (codeAny_call_builtin (R := wants (fun r s₂ => r = .none ∧ ∃ h' tk m, s₂ = { s with heap := h', toks := tk } ∧ m ≤ xs.length ∧
          SetR w h' s.heap.objs.size (inI xs) m ∧
          (∀ b o, b < s.heap.objs.size → s.heap.get? b = some o → h'.get? b = some o)) E) PySem.F.called_set.init.plain PySem.F.entry_set_init (check_set_init_1 hT ?_)) fun r₂ s₂ hr₂ => ?_
      · obtain ⟨ol, hol, hcl, nl, hdl⟩ := hq
        obtain ⟨ocls, odict, odata, oslots⟩ := ol
        simp only at hcl hdl
        subst hcl; subst hdl
        have hol' : (s.heap.push (newSet w)).get? q = some { cls := .type "list", dict := odict, data := .seq ys nl, slots := oslots } := Heap.get?_push_of_some _ hol
        have hsls := PySem.F.sub_list_set
        have hslf := PySem.F.sub_list_frozenset
        have hne : (Value.type "list" == Value.type "dict") = false := by decide
        have hl1 : (s.heap.push (newSet w)).IsList q ys := ⟨_, hol', rfl, nl, rfl⟩
        unfold Builtin.«set.__init__» noKeywords Builtin.Frozenset.updateFrom
        generalize hPI : pyIter = PI
        wp_walk
        subst hPI
        refine wpAny_pyIter_list hl1 (wpAny_bind (wpAny_runValue ?_))
        have qS : q < s.heap.objs.size := Heap.lt_size hol
        have calm3 : A.in1.in1.in1.handled = none := by simp [calm]
        have z1 : (s.heap.push (newSet w)).objs.size = s.heap.objs.size + 1 := Heap.size_push ..
        have qI : q ≠ (s.heap.push (newSet w)).objs.size := by
          rw [z1]; exact Nat.ne_of_lt (Nat.lt_succ_of_lt qS)
        have away : s.heap.objs.size ∉ [(s.heap.push (newSet w)).objs.size, q] := by
          rw [z1]; simp only [List.mem_cons, List.mem_singleton, List.not_mem_nil, or_false, not_or]
          exact ⟨Nat.ne_of_lt (Nat.lt_succ_self _), Nat.ne_of_gt qS⟩
        have sz : ys.size = xs.length := by
          have q := PyProof.Rows.IntsAre.length hx
          rw [Array.length_toList] at q
          exact q
        have rd : ∀ (i : Nat) (v : Value), ys[i]? = some v → ∃ k t, xs[i]? = some k ∧ v = .int k t := fun i v hv => by
          have hi : i < xs.length := by rw [← sz]; exact (Array.getElem?_eq_some_iff.mp hv).1
          obtain ⟨t, e⟩ := PyProof.Rows.IntsAre.int_at hx i v (by rw [Array.getElem?_toList]; exact hv)
          refine ⟨xs[i], t, List.getElem?_eq_getElem hi, ?_⟩
          rw [e, List.getD_eq_getElem?_getD, List.getElem?_eq_getElem hi] <;> rfl
        refine L2.set_update_ints ((Walks.list calm3 _ q qI ys).toS) s.heap.objs.size
          away xs sz few rd (ys.size - 0) 0 _ (by omega) (Nat.zero_le _)
          ⟨⟨_, Heap.get?_push_size _ rfl, rfl, rfl⟩, (hl1.push _)⟩ ?start ?end_
        case start =>
          exact ⟨0, Nat.le_refl 0, setR_new_at (Heap.get?_push_of_some _ hS)⟩
        case end_ =>
          intro s' m hm hle hS'
          obtain ⟨h', g', d', tk', os'⟩ := s'
          cases (show g' = s.gens from hm.gens)
          cases (show d' = s.drawn from hm.drawn)
          cases (show os' = s.os from hm.os)
          show wpAny _ _ _ _ _ _
          refine wpAny_pure ?_
          show wpAny _ _ (ret Value.none) _ _ _
          refine wpAny_pure ⟨rfl, h', tk', m, rfl, by rw [← sz]; exact hle, hS', fun b o hb e => ?_⟩
          have b1 : b ≠ s.heap.objs.size := Nat.ne_of_lt hb
          have b2 : b ≠ (s.heap.push (newSet w)).objs.size := by
            rw [z1]; exact Nat.ne_of_lt (Nat.lt_succ_of_lt hb)
          exact hm.heap b o (by simp only [List.mem_cons, List.mem_singleton, List.not_mem_nil, or_false, not_or]; exact ⟨b1, b2⟩) (Heap.get?_push_of_some _ (Heap.get?_push_of_some _ e))
      · cases r₂ with
        | error e => exact hr₂
        | ok fl₂ =>
          cases fl₂ with
          | ret r =>
            obtain ⟨rfl, h', tk, m, rfl, hle, hS', keep⟩ := hr₂
            repeat (any_goals (first | assumption | wp_step))
            exact k _ _ m hle hS' keep
          | _ => exact hr₂.elim
    | _ => exact hr.elim
set_option maxHeartbeats 3200000 in

theorem ints_many {w : World} {h : Heap} {a : Addr} {xs : List Int} {n : Nat} (R : SetR w h a (inI xs) n) (D : List Int) (hD : D.Nodup) (hm : ∀ k, k ∈ D ↔ k ∈ xs) : D.length = n := by
  obtain ⟨o, es, ep, t, _, _, _, _, nd, hS, _, _, hn, _⟩ := R
  have p : D.Perm (es.toList.map keyOf) := (List.perm_ext_iff_of_nodup hD nd).mpr fun k => by
    rw [hm, ← hS k]
    unfold inI
    rw [decide_eq_true_iff]
  rw [p.length_eq, List.length_map, Array.length_toList, hn]
end
def InO (w : World) (a : Addr) (S : Int → Bool) (n : Nat) : HO := .ext fun h => SetR w h a S n
section
variable {X : Cx}
theorem inO_new {w : World} {P : Program} {H : Hp} {h : Heap} {a : Addr} {S : Int → Bool} {n : Nat} (R : SetR w h a S n) : ObjOk P w H h a (InO w a S n) := by
  have ⟨o, _, _, _, ho, _⟩ := R
  exact ⟨R, ⟨o, ho⟩, fun _ _ p k => SetR.at p k⟩
theorem inO_get {pins : List (Addr × Obj)} {σ : L2.St} {H : Hp} {s : Shared} {a : Addr} {S : Int → Bool} {n : Nat} (I : Inv X pins σ H s) (ha : H a = some (InO X.w a S n)) : SetR X.w s.heap a S n := (I.hok a _ ha).1
def rSetIn (K : PySem.W.Frag) (w : World) : List V → Hp → VK → Prop := fun vs H Q => ∃ (l : Addr) (xs : List Int), vs = [V.ref l] ∧ SqL K H l (xs.map V.int) ∧ xs.length ≤ 1000 ∧
  ∀ (p : Addr) (n : Nat), (∀ D : List Int, D.Nodup → (∀ k, k ∈ D ↔ k ∈ xs) → D.length = n) → n ≤ xs.length → H p = none → Q (.ref p) (upd H p (InO w p (inI xs) n))
theorem cr_setIn (hc : X.calm = true) : CallR X (.type "set") (rSetIn X.K X.w) := by
  intro pins s σ H vs us Q I r h
  obtain ⟨l, xs, rfl, hq, small, q⟩ := h
  rw [Vals.ref1 r]
  have few : xs.length + 1 < scanBound := by unfold scanBound; omega
  obtain ⟨its, rv, pl, hz⟩ := I.list hq
  exact set_of_ints (I.ok.hd hc) pl.isList (by simpa using ints_of_vals rv) few fun h' tk m hle R keep =>
    ⟨.ref _, upd H s.heap.objs.size (InO X.w s.heap.objs.size (inI xs) m), I.laid (t' := tk) (fun b u e => keep b u (Heap.lt_size e) e) (Nat.le_refl _) (inO_new R), rfl, q _ m (ints_many R) hle (I.hok.fresh (Nat.le_refl _))⟩
def rSortIn (w : World) : List V → Hp → VK → Prop := fun vs H Q => ∃ (a : Addr) (S : Int → Bool) (n : Nat), vs = [V.ref a] ∧ H a = some (InO w a S n) ∧ n < 64 ∧
  ∀ (M : List Int) (p : Addr), M.Pairwise (· < ·) → (∀ k : Int, k ∈ M ↔ S k = true) → M.length = n → H p = none → Q (.ref p) (upd H p (.lst (M.map V.int)))
theorem cr_sortIn (hc : X.calm = true) : CallR X (.builtin "sorted") (rSortIn X.w) := by
  intro pins s σ H vs us Q I r h
  obtain ⟨a, S, n, rfl, ha, small, q⟩ := h
  have R := inO_get I ha
  rw [Vals.ref1 r]
  refine L2.sorted_set R (I.ok.hd hc) small fun s' p out c M k g o hp hg hv hs hm hl => ?_
  have line : (M.map V.int).length ≤ sizeLine := by rw [List.length_map, hl]; exact Nat.le_trans (Nat.le_of_lt small) (by decide)
  have free : H p = none := I.hok.fresh hp
  have J : Inv X pins σ (upd H p (.lst (M.map V.int))) { s with heap := s'.heap, gens := s'.gens, drawn := s'.drawn, toks := s'.toks } :=
    I.call (ch := []) (Un.laid k hp free) (I.hok.laid k hp ⟨line, out.toList, c, vals_of_ints hv, hg⟩) (by rw [g]; exact I.bare) (fun _ z => nomatch z)
  have same : s' = { s with heap := s'.heap, gens := s'.gens, drawn := s'.drawn, toks := s'.toks } := by
    cases s'
    cases s
    cases o
    rfl
  rw [same]
  exact ⟨.ref p, _, J, rfl, q M p hs hm hl free⟩
theorem cr_lenIn : CallR X (.builtin "len") (fun vs H Q => ∃ (a : Addr) (S : Int → Bool) (n : Nat), vs = [V.ref a] ∧ H a = some (InO X.w a S n) ∧ n ≤ 100000 ∧ Q (.int (n : Int)) H) := by
  intro pins s σ H vs us Q I r h
  obtain ⟨a, S, n, rfl, ha, small, q⟩ := h
  obtain ⟨o, es, ep, t, ho, hex, hd, _, _, _, _, hf, hn, _⟩ := inO_get I ha
  rw [Vals.ref1 r]
  exact call_len_set ho hex hd hf (by rw [hn]; omega) ⟨.int (n : Int), H, I.tok _, ⟨_, by rw [hn]⟩, q⟩
end
end My
namespace My
open PySem PySem.Spec PyProof.Rows L2
section
variable {X : Cx}
theorem kit_noL {K : PySem.W.Frag} {C : Addr} (h1 : PySem.W.isClsIn K C = true) (h2 : PySem.W.typeIn K (.ref C) = some (.type "type")) (h3 : PySem.W.subIn K (.type "list") (.ref C) = some false) : PySem.W.kitOne K (.type "list") (.ref C) = some false := by
  unfold PySem.W.kitOne
  rw [if_neg (by simp)]
  show (if ((PySem.W.clsIn K C).isSome && PySem.W.typeIn K (.ref C) == some (.type "type")) = true then PySem.W.subIn K (.type "list") (.ref C) else none) = some false
  have h1' : (PySem.W.clsIn K C).isSome = true := h1
  rw [h1', h2, if_pos (by simp)]
  exact h3
/-- == of an instance with an own __eq__ and a list -/
theorem op_eqLst {CX : CXT} {k : Nat} {C f : Addr} {fd : FuncData} {ps : List Str} {sp : Sp} {E : XK} (F : FnOk X.prog X.w X.K X.mg X.base CX k f fd ps sp) (hr : Room k X.A)
    (hs : PySem.W.findIn X.K (.ref C) "__eq__" = some (some (.ref f))) (hf : PySem.W.isFn X.K (.ref f) = true) (hnf : PySem.W.notFirst X.K C (.type "list") = true) (hb : Binds X.K fd ps []) (hx : Passes CX X E) :
    OpR X (compareOp .Eq) (fun x y H Q => ∃ a d dx fs xs, x = .ref a ∧ y = .ref d ∧ H a = some (.ins C dx fs) ∧ H d = some (.lst xs) ∧ sp [x, y] H (fun v H' => ∃ c, v = .bl c ∧ Q (.bl c) H') E) := by
  intro pins s σ H x y v u Q I rx ry h
  obtain ⟨a, b, dx, fs, xs, rfl, rfl, ha, hb', hsp⟩ := h
  cases rx
  cases ry
  show wpAny (model X.prog X.w) X.A (richCompare .Eq (.ref a) (.ref b)) (EP X pins σ Q) X.xe s
  obtain ⟨_, J, _⟩ := ins_get I.hok ha
  obtain ⟨_, J, _⟩ := J.look
  obtain ⟨_, its, _, _, e⟩ := (show ObjOk X.prog X.w H s.heap b (.lst xs) from I.hok b _ hb')
  have hty : PySem.W.Looks (model X.prog X.w) s.heap (typeOf (.ref b)) (.type "list") := (PySem.W.Looks.ld e).andThen .now
  obtain ⟨m, hF⟩ := I.fr
  refine PySem.W.cmp_K (op := .Eq) (tb := .type "list") hr.units0 hF I.ok.mod.kin J hty hnf hs hf ?_
  have vals : Vals [V.ref a, V.ref b] [Value.ref a, Value.ref b] := .cons rfl (.cons rfl .nil)
  have e0 : Env0 X.prog X.w X.K X.mg X.base X.A X.stack s H := I.env0
  have hl := F.len _ _ _ _ hsp
  refine wpAny_call (codeAny_mono (F.run X.A X.stack s H ⟨[.ref a, .ref b], []⟩ [.ref a, .ref b] [.ref a, .ref b] _ E hr e0 (by
    have bd := hb s [.ref a, .ref b] I.kIn (by simpa using hl)
    simpa using bd) vals hsp) fun r s' hq => ?_)
  cases r with
  | error e => exact hx pins σ H s e s' I hq
  | ok fl =>
    cases fl with
    | ret w =>
      obtain ⟨z, H', I', rz, c, ez, qz⟩ := I.after hq
      subst ez
      cases rz
      exact ⟨.bl c, H', I', rfl, qz⟩
    | next => exact False.elim hq
    | brk => exact False.elim hq
    | cont => exact False.elim hq
end
end My
namespace My
open PySem L2 PyProof.Rows
def topS (i : Nat) : Stmt := PySem.Challenge.pw_suretexts_k27_whole_rings_are_rounds.main.body.getD i (.Pass ⟨0, 0, 0, 0⟩)
abbrev s_wall : Stmt := topS 0
theorem sc_wall : FnScope ["k"] ["k"] (defScope s_wall) := ⟨rfl, rfl, rfl, by decide +kernel, rfl, by decide +kernel, by decide +kernel⟩
abbrev sis_integer : Stmt := topS 13
theorem scis_integer : FnScope ["value"] ["value"] (defScope sis_integer) := ⟨rfl, rfl, rfl, by decide +kernel, rfl, by decide +kernel, by decide +kernel⟩
abbrev sis_count : Stmt := topS 14
theorem scis_count : FnScope ["value"] ["value"] (defScope sis_count) := ⟨rfl, rfl, rfl, by decide +kernel, rfl, by decide +kernel, by decide +kernel⟩
abbrev sis_between : Stmt := topS 15
theorem scis_between : FnScope ["value", "least", "most"] ["value", "least", "most"] (defScope sis_between) := ⟨rfl, rfl, rfl, by decide +kernel, rfl, by decide +kernel, by decide +kernel⟩
abbrev sis_below : Stmt := topS 16
theorem scis_below : FnScope ["value", "limit"] ["value", "limit"] (defScope sis_below) := ⟨rfl, rfl, rfl, by decide +kernel, rfl, by decide +kernel, by decide +kernel⟩
abbrev sis_size : Stmt := topS 17
theorem scis_size : FnScope ["value"] ["value"] (defScope sis_size) := ⟨rfl, rfl, rfl, by decide +kernel, rfl, by decide +kernel, by decide +kernel⟩
abbrev sis_listed : Stmt := topS 18
theorem scis_listed : FnScope ["value"] ["value"] (defScope sis_listed) := ⟨rfl, rfl, rfl, by decide +kernel, rfl, by decide +kernel, by decide +kernel⟩
abbrev sis_letter : Stmt := topS 19
theorem scis_letter : FnScope ["sign"] ["sign"] (defScope sis_letter) := ⟨rfl, rfl, rfl, by decide +kernel, rfl, by decide +kernel, by decide +kernel⟩
abbrev sleast_start : Stmt := topS 21
theorem scleast_start : FnScope ["cycle", "size", "one", "two", "alike", "near", "far"] ["cycle"] (defScope sleast_start) := ⟨rfl, rfl, rfl, by decide +kernel, rfl, by decide +kernel, by decide +kernel⟩
abbrev sis_text : Stmt := topS 24
theorem scis_text : FnScope ["value", "sign"] ["value"] (defScope sis_text) := ⟨rfl, rfl, rfl, by decide +kernel, rfl, by decide +kernel, by decide +kernel⟩
abbrev sis_ring : Stmt := topS 25
theorem scis_ring : FnScope ["value"] ["value"] (defScope sis_ring) := ⟨rfl, rfl, rfl, by decide +kernel, rfl, by decide +kernel, by decide +kernel⟩
abbrev sneed_ring : Stmt := topS 26
theorem scneed_ring : FnScope ["ring"] ["ring"] (defScope sneed_ring) := ⟨rfl, rfl, rfl, by decide +kernel, rfl, by decide +kernel, by decide +kernel⟩
abbrev s_turned_to : Stmt := topS 27
theorem sc_turned_to : FnScope ["ring", "place"] ["ring", "place"] (defScope s_turned_to) := ⟨rfl, rfl, rfl, by decide +kernel, rfl, by decide +kernel, by decide +kernel⟩
abbrev snormal : Stmt := topS 28
theorem scnormal : FnScope ["ring"] ["ring"] (defScope snormal) := ⟨rfl, rfl, rfl, by decide +kernel, rfl, by decide +kernel, by decide +kernel⟩
abbrev sread_on : Stmt := topS 29
theorem scread_on : FnScope ["ring", "place", "many", "k"] ["ring", "place", "many"] (defScope sread_on) := ⟨rfl, rfl, rfl, by decide +kernel, rfl, by decide +kernel, by decide +kernel⟩
abbrev swords_of : Stmt := topS 33
theorem scwords_of : FnScope ["pieces", "piece"] ["pieces"] (defScope swords_of) := ⟨rfl, rfl, rfl, by decide +kernel, rfl, by decide +kernel, by decide +kernel⟩
abbrev sare_pieces : Stmt := topS 34
theorem scare_pieces : FnScope ["value", "piece"] ["value"] (defScope sare_pieces) := ⟨rfl, rfl, rfl, by decide +kernel, rfl, by decide +kernel, by decide +kernel⟩
abbrev sneed_pieces : Stmt := topS 35
theorem scneed_pieces : FnScope ["pieces"] ["pieces"] (defScope sneed_pieces) := ⟨rfl, rfl, rfl, by decide +kernel, rfl, by decide +kernel, by decide +kernel⟩
abbrev sopened : Stmt := topS 36
theorem scopened : FnScope ["ring", "size", "place"] ["ring", "size", "place"] (defScope sopened) := ⟨rfl, rfl, rfl, by decide +kernel, rfl, by decide +kernel, by decide +kernel⟩
abbrev spieces_along : Stmt := topS 37
theorem scpieces_along : FnScope ["text", "size", "place"] ["text", "size"] (defScope spieces_along) := ⟨rfl, rfl, rfl, by decide +kernel, rfl, by decide +kernel, by decide +kernel⟩
abbrev shas_just : Stmt := topS 38
theorem schas_just : FnScope ["ring", "pieces", "size"] ["ring", "pieces"] (defScope shas_just) := ⟨rfl, rfl, rfl, by decide +kernel, rfl, by decide +kernel, by decide +kernel⟩
abbrev sare_ties : Stmt := topS 43
theorem scare_ties : FnScope ["places", "value", "tie"] ["places", "value"] (defScope sare_ties) := ⟨rfl, rfl, rfl, by decide +kernel, rfl, by decide +kernel, by decide +kernel⟩
abbrev sneed_web : Stmt := topS 45
theorem scneed_web : FnScope ["web"] ["web"] (defScope sneed_web) := ⟨rfl, rfl, rfl, by decide +kernel, rfl, by decide +kernel, by decide +kernel⟩
abbrev sare_numbers : Stmt := topS 46
theorem scare_numbers : FnScope ["web", "value", "tie"] ["web", "value"] (defScope sare_numbers) := ⟨rfl, rfl, rfl, by decide +kernel, rfl, by decide +kernel, by decide +kernel⟩
abbrev s_go_on : Stmt := topS 47
theorem sc_go_on : FnScope ["web", "value", "longest", "ties", "at"] ["web", "value", "longest"] (defScope s_go_on) := ⟨rfl, rfl, rfl, by decide +kernel, rfl, by decide +kernel, by decide +kernel⟩
abbrev sis_round : Stmt := topS 48
theorem scis_round : FnScope ["web", "value", "ties"] ["web", "value"] (defScope sis_round) := ⟨rfl, rfl, rfl, by decide +kernel, rfl, by decide +kernel, by decide +kernel⟩
abbrev sneed_tour : Stmt := topS 49
theorem scneed_tour : FnScope ["web", "tour"] ["web", "tour"] (defScope sneed_tour) := ⟨rfl, rfl, rfl, by decide +kernel, rfl, by decide +kernel, by decide +kernel⟩
abbrev scovers : Stmt := topS 50
theorem sccovers : FnScope ["web", "tour"] ["web", "tour"] (defScope scovers) := ⟨rfl, rfl, rfl, by decide +kernel, rfl, by decide +kernel, by decide +kernel⟩
abbrev scopied_web : Stmt := topS 51
theorem sccopied_web : FnScope ["web"] ["web"] (defScope scopied_web) := ⟨rfl, rfl, rfl, by decide +kernel, rfl, by decide +kernel, by decide +kernel⟩
abbrev sweb_steps : Stmt := topS 52
theorem scweb_steps : FnScope ["web", "tie", "near", "far"] ["web"] (defScope sweb_steps) := ⟨rfl, rfl, rfl, by decide +kernel, rfl, by decide +kernel, by decide +kernel⟩
abbrev s_web_of : Stmt := topS 54
theorem sc_web_of : FnScope ["words", "pieces", "places", "place", "word", "piece"] ["words", "pieces"] (defScope s_web_of) := ⟨rfl, rfl, rfl, by decide +kernel, rfl, by decide +kernel, by decide +kernel⟩
abbrev s_need_letters : Stmt := topS 55
theorem sc_need_letters : FnScope ["many"] ["many"] (defScope s_need_letters) := ⟨rfl, rfl, rfl, by decide +kernel, rfl, by decide +kernel, by decide +kernel⟩
abbrev sneed_pieceweb : Stmt := topS 57
theorem scneed_pieceweb : FnScope ["pieceweb"] ["pieceweb"] (defScope sneed_pieceweb) := ⟨rfl, rfl, rfl, by decide +kernel, rfl, by decide +kernel, by decide +kernel⟩
abbrev sexplains : Stmt := topS 58
theorem scexplains : FnScope ["pieceweb", "ring"] ["pieceweb", "ring"] (defScope sexplains) := ⟨rfl, rfl, rfl, by decide +kernel, rfl, by decide +kernel, by decide +kernel⟩
abbrev sparts_in_turn : Stmt := topS 60
theorem scparts_in_turn : FnScope ["points", "steps", "ahead", "behind", "near", "far", "_", "left", "seen", "point", "parts"] ["points", "steps"] (defScope sparts_in_turn) := ⟨rfl, rfl, rfl, by decide +kernel, rfl, by decide +kernel, by decide +kernel⟩
abbrev s_left_from : Stmt := topS 61
theorem sc_left_from : FnScope ["ends", "point", "seen", "left", "trail", "here", "at", "end"] ["ends", "point", "seen"] (defScope s_left_from) := ⟨rfl, rfl, rfl, by decide +kernel, rfl, by decide +kernel, by decide +kernel⟩
abbrev sparts_of : Stmt := topS 63
theorem scparts_of : FnScope ["web"] ["web"] (defScope sparts_of) := ⟨rfl, rfl, rfl, by decide +kernel, rfl, by decide +kernel, by decide +kernel⟩
abbrev sis_close : Stmt := topS 64
theorem scis_close : FnScope ["web"] ["web"] (defScope sis_close) := ⟨rfl, rfl, rfl, by decide +kernel, rfl, by decide +kernel, by decide +kernel⟩
abbrev s_law_pot : Stmt := topS 66
theorem sc_law_pot : FnScope ["_law_script", "_law_k", "_law_cell", "_law_mixed"] ["_law_script", "_law_k"] (defScope s_law_pot) := ⟨rfl, rfl, rfl, by decide +kernel, rfl, by decide +kernel, by decide +kernel⟩
abbrev s_law_draw : Stmt := topS 67
theorem sc_law_draw : FnScope ["_law_pot_here", "_law_size", "_law_digit"] ["_law_pot_here", "_law_size"] (defScope s_law_draw) := ⟨rfl, rfl, rfl, by decide +kernel, rfl, by decide +kernel, by decide +kernel⟩
abbrev s_law_pick : Stmt := topS 68
theorem sc_law_pick : FnScope ["_law_pot_here", "_law_some"] ["_law_pot_here", "_law_some"] (defScope s_law_pick) := ⟨rfl, rfl, rfl, by decide +kernel, rfl, by decide +kernel, by decide +kernel⟩
abbrev s_law_pieces_drawn : Stmt := topS 69
theorem sc_law_pieces_drawn : FnScope ["_law_pot_here", "_law_size", "_law_most", "_law_letters", "_law_found", "_law_turn", "_law_piece", "_law_at"] ["_law_pot_here", "_law_size", "_law_most"] (defScope s_law_pieces_drawn) := ⟨rfl, rfl, rfl, by decide +kernel, rfl, by decide +kernel, by decide +kernel⟩
abbrev s_law_words : Stmt := topS 70
theorem sc_law_words : FnScope ["_law_pieces", "_law_piece"] ["_law_pieces"] (defScope s_law_words) := ⟨rfl, rfl, rfl, by decide +kernel, rfl, by decide +kernel, by decide +kernel⟩
abbrev s_law_ties : Stmt := topS 71
theorem sc_law_ties : FnScope ["_law_pieces", "_law_words_here", "_law_piece"] ["_law_pieces"] (defScope s_law_ties) := ⟨rfl, rfl, rfl, by decide +kernel, rfl, by decide +kernel, by decide +kernel⟩
abbrev s_law_turnings : Stmt := topS 72
theorem sc_law_turnings : FnScope ["_law_ring_here", "_law_at"] ["_law_ring_here"] (defScope s_law_turnings) := ⟨rfl, rfl, rfl, by decide +kernel, rfl, by decide +kernel, by decide +kernel⟩
abbrev s_law_read : Stmt := topS 73
theorem sc_law_read : FnScope ["_law_ring_here", "_law_size", "_law_whole", "_law_at"] ["_law_ring_here", "_law_size"] (defScope s_law_read) := ⟨rfl, rfl, rfl, by decide +kernel, rfl, by decide +kernel, by decide +kernel⟩
abbrev s_law_ring : Stmt := topS 74
theorem sc_law_ring : FnScope ["_law_pot_here", "_law_most", "_law_letters", "_law_found", "_law_turn"] ["_law_pot_here", "_law_most"] (defScope s_law_ring) := ⟨rfl, rfl, rfl, by decide +kernel, rfl, by decide +kernel, by decide +kernel⟩
abbrev s_law_rings : Stmt := topS 75
theorem sc_law_rings : FnScope ["_law_pot_here", "_law_ring_here", "_law_at", "_law_found"] ["_law_pot_here", "_law_ring_here"] (defScope s_law_rings) := ⟨rfl, rfl, rfl, by decide +kernel, rfl, by decide +kernel, by decide +kernel⟩
abbrev s_law_round : Stmt := topS 76
theorem sc_law_round : FnScope ["_law_pieces", "_law_ring_here", "_law_read_here", "_law_piece"] ["_law_pieces", "_law_ring_here"] (defScope s_law_round) := ⟨rfl, rfl, rfl, by decide +kernel, rfl, by decide +kernel, by decide +kernel⟩
abbrev s_law_is_close : Stmt := topS 77
theorem sc_law_is_close : FnScope ["_law_pieces", "_law_words_here", "_law_ties_here", "_law_begin", "_law_met", "_law_turn", "_law_near", "_law_far"] ["_law_pieces"] (defScope s_law_is_close) := ⟨rfl, rfl, rfl, by decide +kernel, rfl, by decide +kernel, by decide +kernel⟩
abbrev s_law_one_right : Stmt := topS 78
theorem sc_law_one_right : FnScope ["_law_pot_here", "_law_web", "_law_pieces", "_law_ring_here", "_law_due", "_law_is_so", "_law_inner", "_law_at", "_law_least", "_law_turned"] ["_law_pot_here", "_law_web", "_law_pieces", "_law_ring_here"] (defScope s_law_one_right) := ⟨rfl, rfl, rfl, by decide +kernel, rfl, by decide +kernel, by decide +kernel⟩
abbrev s_law_right : Stmt := topS 79
theorem sc_law_right : FnScope ["_law_pot_here", "_law_size", "_law_ring_here", "_law_pieces", "_law_way", "_law_spot", "_law_web", "_law_one"] ["_law_pot_here"] (defScope s_law_right) := ⟨rfl, rfl, rfl, by decide +kernel, rfl, by decide +kernel, by decide +kernel⟩
abbrev slaw : Stmt := topS 80
theorem sclaw : FnScope ["_law_script"] ["_law_script"] (defScope slaw) := ⟨rfl, rfl, rfl, by decide +kernel, rfl, by decide +kernel, by decide +kernel⟩
abbrev sWeb___init__ : Stmt := inClass (topS 44) 0
theorem scWeb___init__ : FnScope ["self", "places", "ties", "tie", "ends", "_"] ["self", "places", "ties"] (defScope sWeb___init__) := ⟨rfl, rfl, rfl, by decide +kernel, rfl, by decide +kernel, by decide +kernel⟩
abbrev sWeb___eq__ : Stmt := inClass (topS 44) 1
theorem scWeb___eq__ : FnScope ["self", "other"] ["self", "other"] (defScope sWeb___eq__) := ⟨rfl, rfl, rfl, by decide +kernel, rfl, by decide +kernel, by decide +kernel⟩
abbrev sWeb_places : Stmt := inClass (topS 44) 2
theorem scWeb_places : FnScope ["self"] ["self"] (defScope sWeb_places) := ⟨rfl, rfl, rfl, by decide +kernel, rfl, by decide +kernel, by decide +kernel⟩
abbrev sWeb_many : Stmt := inClass (topS 44) 3
theorem scWeb_many : FnScope ["self"] ["self"] (defScope sWeb_many) := ⟨rfl, rfl, rfl, by decide +kernel, rfl, by decide +kernel, by decide +kernel⟩
abbrev sWeb_ties : Stmt := inClass (topS 44) 4
theorem scWeb_ties : FnScope ["self"] ["self"] (defScope sWeb_ties) := ⟨rfl, rfl, rfl, by decide +kernel, rfl, by decide +kernel, by decide +kernel⟩
abbrev sWeb_ties_from : Stmt := inClass (topS 44) 5
theorem scWeb_ties_from : FnScope ["self", "place"] ["self", "place"] (defScope sWeb_ties_from) := ⟨rfl, rfl, rfl, by decide +kernel, rfl, by decide +kernel, by decide +kernel⟩
abbrev sWeb_ties_to : Stmt := inClass (topS 44) 6
theorem scWeb_ties_to : FnScope ["self", "place"] ["self", "place"] (defScope sWeb_ties_to) := ⟨rfl, rfl, rfl, by decide +kernel, rfl, by decide +kernel, by decide +kernel⟩
abbrev sPieceWeb___init__ : Stmt := inClass (topS 56) 0
theorem scPieceWeb___init__ : FnScope ["self", "pieces"] ["self", "pieces"] (defScope sPieceWeb___init__) := ⟨rfl, rfl, rfl, by decide +kernel, rfl, by decide +kernel, by decide +kernel⟩
abbrev sPieceWeb___eq__ : Stmt := inClass (topS 56) 1
theorem scPieceWeb___eq__ : FnScope ["self", "other"] ["self", "other"] (defScope sPieceWeb___eq__) := ⟨rfl, rfl, rfl, by decide +kernel, rfl, by decide +kernel, by decide +kernel⟩
abbrev sPieceWeb_size : Stmt := inClass (topS 56) 2
theorem scPieceWeb_size : FnScope ["self"] ["self"] (defScope sPieceWeb_size) := ⟨rfl, rfl, rfl, by decide +kernel, rfl, by decide +kernel, by decide +kernel⟩
abbrev sPieceWeb_web : Stmt := inClass (topS 56) 3
theorem scPieceWeb_web : FnScope ["self"] ["self"] (defScope sPieceWeb_web) := ⟨rfl, rfl, rfl, by decide +kernel, rfl, by decide +kernel, by decide +kernel⟩
abbrev sPieceWeb_pieces : Stmt := inClass (topS 56) 4
theorem scPieceWeb_pieces : FnScope ["self"] ["self"] (defScope sPieceWeb_pieces) := ⟨rfl, rfl, rfl, by decide +kernel, rfl, by decide +kernel, by decide +kernel⟩
abbrev sPieceWeb_words : Stmt := inClass (topS 56) 5
theorem scPieceWeb_words : FnScope ["self"] ["self"] (defScope sPieceWeb_words) := ⟨rfl, rfl, rfl, by decide +kernel, rfl, by decide +kernel, by decide +kernel⟩
abbrev sPieceWeb_word_at : Stmt := inClass (topS 56) 6
theorem scPieceWeb_word_at : FnScope ["self", "place"] ["self", "place"] (defScope sPieceWeb_word_at) := ⟨rfl, rfl, rfl, by decide +kernel, rfl, by decide +kernel, by decide +kernel⟩
abbrev sPieceWeb_letter_of : Stmt := inClass (topS 56) 7
theorem scPieceWeb_letter_of : FnScope ["self", "tie"] ["self", "tie"] (defScope sPieceWeb_letter_of) := ⟨rfl, rfl, rfl, by decide +kernel, rfl, by decide +kernel, by decide +kernel⟩
abbrev sPieceWeb_text_of : Stmt := inClass (topS 56) 8
theorem scPieceWeb_text_of : FnScope ["self", "walk"] ["self", "walk"] (defScope sPieceWeb_text_of) := ⟨rfl, rfl, rfl, by decide +kernel, rfl, by decide +kernel, by decide +kernel⟩
abbrev sPieceWeb_ring_of : Stmt := inClass (topS 56) 9
theorem scPieceWeb_ring_of : FnScope ["self", "tour"] ["self", "tour"] (defScope sPieceWeb_ring_of) := ⟨rfl, rfl, rfl, by decide +kernel, rfl, by decide +kernel, by decide +kernel⟩
abbrev sPieceWeb_walk_of : Stmt := inClass (topS 56) 10
theorem scPieceWeb_walk_of : FnScope ["self", "text"] ["self", "text"] (defScope sPieceWeb_walk_of) := ⟨rfl, rfl, rfl, by decide +kernel, rfl, by decide +kernel, by decide +kernel⟩
abbrev sPieceWeb_round_of : Stmt := inClass (topS 56) 11
theorem scPieceWeb_round_of : FnScope ["self", "ring"] ["self", "ring"] (defScope sPieceWeb_round_of) := ⟨rfl, rfl, rfl, by decide +kernel, rfl, by decide +kernel, by decide +kernel⟩
abbrev sPieceWeb__letters_of : Stmt := inClass (topS 56) 12
theorem scPieceWeb__letters_of : FnScope ["self", "ties", "tie"] ["self", "ties"] (defScope sPieceWeb__letters_of) := ⟨rfl, rfl, rfl, by decide +kernel, rfl, by decide +kernel, by decide +kernel⟩
abbrev sPieceWeb__ties_along : Stmt := inClass (topS 56) 13
theorem scPieceWeb__ties_along : FnScope ["self", "text", "numbers", "tie", "piece", "read"] ["self", "text"] (defScope sPieceWeb__ties_along) := ⟨rfl, rfl, rfl, by decide +kernel, rfl, by decide +kernel, by decide +kernel⟩
structure Bs (mg : Str → Option Value) : Prop where
  isinstance : mg "isinstance" = none
  int : mg "int" = none
  bool : mg "bool" = none
  str : mg "str" = none
  list : mg "list" = none
  tuple : mg "tuple" = none
  len : mg "len" = none
  range : mg "range" = none
  abs : mg "abs" = none
  max : mg "max" = none
  min : mg "min" = none
  divmod : mg "divmod" = none
  enumerate : mg "enumerate" = none
  all : mg "all" = none
  sorted : mg "sorted" = none
  set : mg "set" = none
  repr : mg "repr" = none
structure Glo (mg : Str → Option Value) : Prop where
  MOST_PLACES : ∃ t, mg "MOST_PLACES" = some (.int 60 t)
  MOST_TIES : ∃ t, mg "MOST_TIES" = some (.int 80 t)
  LONGEST_ROUND : ∃ t, mg "LONGEST_ROUND" = some (.int 200000 t)
  MOST_LETTERS : ∃ t, mg "MOST_LETTERS" = some (.int 400 t)
  MOST_PIECES : ∃ t, mg "MOST_PIECES" = some (.int 80 t)
  MOST_WORDS : ∃ t, mg "MOST_WORDS" = some (.int 60 t)
structure WebK (K : PySem.W.Frag) (mg : Str → Option Value) (C : Addr) : Prop where
  cl : Cls K C
  nP : NoAttr K C "_places"
  nT : NoAttr K C "_ties"
  nF : NoAttr K C "_ties_from"
  nO : NoAttr K C "_ties_to"
  mgC : mg "Web" = some (.ref C)
  i1 : PySem.W.findIn K (.ref C) "__class__" = some (some (.builtin "object.__class__"))
  i2 : PySem.W.specialIn K (.builtin "object.__class__") "__get__" = some (some (.builtin "getset_descriptor.__get__"))
  i3 : PySem.W.takesIn K (.builtin "object.__class__") = some true
  i4 : PySem.W.mroIn K C (.type "object") = some true
  i5 : PySem.W.kitOne K (.ref C) (.ref C) = some true
  ne : PySem.W.findIn K (.ref C) "__ne__" = some (some (.builtin "object.__ne__"))
structure PieceK (K : PySem.W.Frag) (mg : Str → Option Value) (C : Addr) : Prop where
  cl : Cls K C
  nP : NoAttr K C "_pieces"
  nW : NoAttr K C "_words"
  nB : NoAttr K C "_web"
  mgC : mg "PieceWeb" = some (.ref C)
  i1 : PySem.W.findIn K (.ref C) "__class__" = some (some (.builtin "object.__class__"))
  i2 : PySem.W.specialIn K (.builtin "object.__class__") "__get__" = some (some (.builtin "getset_descriptor.__get__"))
  i3 : PySem.W.takesIn K (.builtin "object.__class__") = some true
  i4 : PySem.W.mroIn K C (.type "object") = some true
  i5 : PySem.W.kitOne K (.ref C) (.ref C) = some true
  ne : PySem.W.findIn K (.ref C) "__ne__" = some (some (.builtin "object.__ne__"))
  nl : PySem.W.notFirst K C (.type "list") = true
  kl : PySem.W.kitOne K (.type "list") (.ref C) = some false
abbrev iv (L : List Nat) : List V := L.map fun n : Nat => V.int (n : Int)
theorem same_new {H : Hp} {p : Addr} (h : H p = none) (o : HO) : Same H (upd H p o) := fun b u q => by rw [upd_ne (ne_of_none q h)]; exact q
theorem iteNo {c A B : Prop} [Decidable c] (h : ¬ c) (b : B) : if decide c = true then A else B := by
  rw [decide_eq_false h]
  exact iteF b
theorem iteNot {c A B : Prop} [Decidable c] (h : ¬ c) (a : A) : if (!decide c) = true then A else B := by
  rw [decide_eq_false h]
  exact iteT a
theorem iteNot' {c A B : Prop} [Decidable c] (h : c) (b : B) : if (!decide c) = true then A else B := by
  rw [decide_eq_true h]
  exact iteF b
theorem iteNN {c A B : Prop} [Decidable c] (h : ¬ c) (b : B) : if (!!decide c) = true then A else B := by
  rw [decide_eq_false h]
  exact iteF b
theorem iv_at {L : List Nat} {j b : Nat} (h : L[j]? = some b) : atI (iv L) (j : Int) = some (.int (b : Int)) := by
  refine atI_nat ?_
  rw [iv, List.getElem?_map, h]
  rfl
theorem iv_app (L : List Nat) (n : Nat) : iv (L ++ [n]) = iv L ++ [V.int (n : Int)] := by
  unfold iv
  rw [List.map_append]
  rfl
theorem same_upd {H H' : Hp} {p : Addr} {o : HO} (h : Same H H') (np : H p = none) : Same H (upd H' p o) := fun b u q => by
  rw [upd_ne (ne_of_none q np)]
  exact h b u q
theorem iteYes {c A B : Prop} [Decidable c] (h : c) (a : A) : if decide c = true then A else B := by
  rw [decide_eq_true h]
  exact iteT a
theorem bl_true {c : Prop} [Decidable c] {Q : VK} {H : Hp} (h : c) (q : Q (.bl true) H) : Q (.bl (decide c)) H := by
  rw [decide_eq_true h]
  exact q
theorem int_eq {a b : Int} : V.int a = V.int b ↔ a = b := ⟨fun h => V.int.inj h, fun h => by rw [h]⟩
/-! ### lists of ints compared -/
abbrev iz (L : List Int) : List V := L.map V.int
theorem iv_iz (L : List Nat) : iv L = iz (L.map fun n : Nat => (n : Int)) := by
  unfold iv iz
  rw [List.map_map]
  rfl
abbrev dz (L : List Int) : PyData := .list (L.map PyData.int)
theorem dpAll_iz {K : PySem.W.Frag} {H : Hp} : ∀ L : List Int, DpAll K H (iz L) (L.map PyData.int)
  | [] => .nil
  | n :: r => .cons (.int n) (dpAll_iz r)
theorem dp_iz {K : PySem.W.Frag} {H : Hp} {p : Addr} {L : List Int} (h : H p = some (.lst (iz L))) : Dp K H (.ref p) (dz L) := .lst (SqL.of h) (dpAll_iz L)
theorem layAll_iz : ∀ L : List Int, PyData.canLayAll0 (L.map PyData.int) = true
  | [] => rfl
  | n :: r => by
    show (PyData.canLay0 (.int n) && PyData.canLayAll0 (r.map PyData.int)) = true
    rw [layAll_iz r]
    rfl
theorem depthAll_iz : ∀ L : List Int, PyData.depthAll (L.map PyData.int) = 0
  | [] => rfl
  | n :: r => by
    show max (PyData.depth (.int n)) (PyData.depthAll (r.map PyData.int)) = 0
    rw [depthAll_iz r]
    rfl
theorem shaped_iz (L : List Int) : SeqAt.shaped (dz L) = true := by
  unfold SeqAt.shaped
  have h1 : PyData.canLay0 (dz L) = true := by
    show PyData.canLay0 (.list (L.map PyData.int)) = true
    unfold PyData.canLay0
    exact layAll_iz L
  have h2 : PyData.depth (dz L) = 1 := by
    show PyData.depth (.list (L.map PyData.int)) = 1
    unfold PyData.depth
    rw [depthAll_iz]
  rw [h1, h2]
  rfl
theorem eqv_same (L : List Int) : PyData.eqv (dz L) (dz L) = true := by
  have h1 : PyData.canLay0 (dz L) = true := by
    show PyData.canLay0 (.list (L.map PyData.int)) = true
    unfold PyData.canLay0
    exact layAll_iz L
  exact SeqAt.eqv_refl _ h1
theorem eqv_empty (L : List Int) : PyData.eqv (dz L) (dz []) = decide (L = []) := by
  cases L with
  | nil => rfl
  | cons n r => rfl
theorem iteNb {x : Bool} {A B : Prop} (h : x = true) (b : B) : if (!x) = true then A else B := by
  rw [h]
  exact iteF b
theorem bl_is {x : Bool} {Q : VK} {H : Hp} (h : x = true) (q : Q (.bl true) H) : Q (.bl x) H := by
  rw [h]
  exact q
/-! ### webs in the heap -/
def Kept (a : Addr) (H H' : Hp) : Prop := ∀ b o, H b = some o → b ≠ a → H' b = some o
theorem Kept.trans {a : Addr} {H H1 H2 : Hp} (h : Kept a H H1) (h2 : Kept a H1 H2) : Kept a H H2 := fun b o e n => h2 b o (h b o e n) n
theorem Same.kept {a : Addr} {H H' : Hp} (h : Same H H') : Kept a H H' := fun b o e _ => h b o e
theorem paired_get {α β : Type} {F : α → β → Prop} : ∀ {l1 : List α} {l2 : List β} {i : Nat} {a : α}, Paired F l1 l2 → l1[i]? = some a → ∃ b, l2[i]? = some b ∧ F a b
  | _, _, _, _, .nil, h => by simp at h
  | _, _, 0, _, .cons r _, h => ⟨_, rfl, by cases h; exact r⟩
  | _, _, i + 1, _, .cons _ t, h => by
    obtain ⟨b, h1, h2⟩ := paired_get (i := i) t (by simpa using h)
    exact ⟨b, by simpa using h1, h2⟩
theorem paired_mono {α β : Type} {F G : α → β → Prop} (h : ∀ a b, F a b → G a b) : ∀ {l1 : List α} {l2 : List β}, Paired F l1 l2 → Paired G l1 l2
  | _, _, .nil => .nil
  | _, _, .cons a r => .cons (h _ _ a) (paired_mono h r)
theorem paired_len {α β : Type} {F : α → β → Prop} : ∀ {l1 : List α} {l2 : List β}, Paired F l1 l2 → l1.length = l2.length
  | _, _, .nil => rfl
  | _, _, .cons _ r => congrArg Nat.succ (paired_len r)
def TupAt (H : Hp) (p : Addr) (e : Nat × Nat) : Prop := H p = some (.tup [.int (e.1 : Int), .int (e.2 : Int)])
def TiesAt (H : Hp) (t : Addr) (ts : List (Nat × Nat)) : Prop := ∃ tas : List Addr, H t = some (.lst (tas.map V.ref)) ∧ Paired (TupAt H) tas ts
theorem TiesAt.same {H H' : Hp} {t : Addr} {ts : List (Nat × Nat)} (h : TiesAt H t ts) (s : Same H H') : TiesAt H' t ts := by
  obtain ⟨tas, h1, h2⟩ := h
  exact ⟨tas, s _ _ h1, paired_mono (fun p e hp => s _ _ hp) h2⟩
structure OkWeb (N : Nat) (ts : List (Nat × Nat)) : Prop where
  n0 : 0 < N
  n1 : N ≤ 60
  m : ts.length ≤ 80
  ok : ∀ e ∈ ts, e.1 < N ∧ e.2 < N
section
variable {P : Program} {w : World} {K : PySem.W.Frag} {mg : Str → Option Value} {base : Heap} {C C2 : Addr}
def spis_integer (_ : PySem.W.Frag) (_ _ : Addr) : Sp := fun vs H Q _ => ∃ n : Int, vs = [.int n] ∧ Q (.bl true) H
theorem okis_integer (D : Def K mg "is_integer" sis_integer ["value"]) (B : Bs mg) (Glb : Glo mg) (WK : WebK K mg C) (PK : PieceK K mg C2) :
    Good P w K mg base "is_integer" sis_integer ["value"] 1 (spis_integer K C C2) := by
  refine D.good fun f fd F => ?_
  refine F.ok scis_integer (fun vs H Q E h => ?_) (fun cdv A outer s H vs Q E hr h => ?_)
  · obtain ⟨n, rfl, q⟩ := h
    first | rfl | (rcases h with ⟨_, _, rfl, _⟩ | ⟨_, rfl, _⟩ <;> rfl)
  obtain ⟨n, rfl, q⟩ := h
  refine ⟨_, (pss_one (ps_ret (pe_and (pe_callB call_isi (by rfl) B.isinstance (by decide +kernel) (pa_cons (pv 0) (pa_cons (pe_bltn (v := .ty "int") (by rfl) B.int (by decide +kernel) rfl) pa_nil))) (pe_one (pe_not (pe_callB call_isi (by rfl) B.isinstance (by decide +kernel) (pa_cons (pv 0) (pa_cons (pe_bltn (v := .ty "bool") (by rfl) B.bool (by decide +kernel) rfl) pa_nil)))))))), ?_⟩
  exact ⟨_, rfl, _, _, _, _, true, rfl, .ty _, .base (.int n), kit_ty (by decide +kernel), _, rfl, iteT ⟨_, rfl, _, _, _, _, false, rfl, .ty _, .base (.int n), kit_ty (by decide +kernel), _, rfl, q⟩⟩
def spis_count (_ : PySem.W.Frag) (_ _ : Addr) : Sp := fun vs H Q _ => ∃ n : Nat, vs = [.int (n : Int)] ∧ Q (.bl true) H
theorem okis_count (D : Def K mg "is_count" sis_count ["value"]) (B : Bs mg) (Glb : Glo mg) (WK : WebK K mg C) (PK : PieceK K mg C2)
    (his_integer : Good P w K mg base "is_integer" sis_integer ["value"] 1 (spis_integer K C C2)) :
    Good P w K mg base "is_count" sis_count ["value"] 2 (spis_count K C C2) := by
  refine D.good fun f fd F => ?_
  obtain ⟨fis_integer, dis_integer, Ois_integer, mis_integer, kis_integer, bis_integer, Fis_integer⟩ := his_integer
  refine F.ok scis_count (fun vs H Q E h => ?_) (fun cdv A outer s H vs Q E hr h => ?_)
  · obtain ⟨n, rfl, q⟩ := h
    first | rfl | (rcases h with ⟨_, _, rfl, _⟩ | ⟨_, rfl, _⟩ <;> rfl)
  obtain ⟨n, rfl, q⟩ := h
  refine ⟨_, (pss_one (ps_ret (pe_and (pe_call Ois_integer hr rfl mis_integer kis_integer bis_integer .nil pass0 (pa_cons (pv 0) pa_nil)) (pe_one (pe_cmpR op_ge (pv 0) pe_int (nomark _)))))), ?_⟩
  exact ⟨_, rfl, n, rfl, _, rfl, iteT ⟨_, rfl, _, _, rfl, rfl, bl_true (by omega) q⟩⟩
def spis_between (_ : PySem.W.Frag) (_ _ : Addr) : Sp := fun vs H Q _ => ∃ n a b : Int, vs = [.int n, .int a, .int b] ∧ a ≤ n ∧ n ≤ b ∧ Q (.bl true) H
theorem okis_between (D : Def K mg "is_between" sis_between ["value", "least", "most"]) (B : Bs mg) (Glb : Glo mg) (WK : WebK K mg C) (PK : PieceK K mg C2)
    (his_integer : Good P w K mg base "is_integer" sis_integer ["value"] 1 (spis_integer K C C2)) :
    Good P w K mg base "is_between" sis_between ["value", "least", "most"] 2 (spis_between K C C2) := by
  refine D.good fun f fd F => ?_
  obtain ⟨fis_integer, dis_integer, Ois_integer, mis_integer, kis_integer, bis_integer, Fis_integer⟩ := his_integer
  refine F.ok scis_between (fun vs H Q E h => ?_) (fun cdv A outer s H vs Q E hr h => ?_)
  · obtain ⟨n, a, b, rfl, h1, h2, q⟩ := h
    first | rfl | (rcases h with ⟨_, _, rfl, _⟩ | ⟨_, rfl, _⟩ <;> rfl)
  obtain ⟨n, a, b, rfl, h1, h2, q⟩ := h
  refine ⟨_, (pss_one (ps_ret (pe_and (pe_call Ois_integer hr rfl mis_integer kis_integer bis_integer .nil pass0 (pa_cons (pv 0) pa_nil)) (pe_one (pe_chain op_le op_le (pv 1) (pv 0) (pv 2)))))), ?_⟩
  exact ⟨_, rfl, n, rfl, _, rfl, iteT ⟨_, rfl, _, rfl, _, _, rfl, rfl, _, rfl, iteYes h1 ⟨_, rfl, _, _, rfl, rfl, bl_true h2 q⟩⟩⟩
def spis_below (_ : PySem.W.Frag) (_ _ : Addr) : Sp := fun vs H Q _ => ∃ n : Nat, ∃ m : Int, vs = [.int (n : Int), .int m] ∧ (n : Int) < m ∧ Q (.bl true) H
theorem okis_below (D : Def K mg "is_below" sis_below ["value", "limit"]) (B : Bs mg) (Glb : Glo mg) (WK : WebK K mg C) (PK : PieceK K mg C2)
    (his_count : Good P w K mg base "is_count" sis_count ["value"] 2 (spis_count K C C2)) :
    Good P w K mg base "is_below" sis_below ["value", "limit"] 3 (spis_below K C C2) := by
  refine D.good fun f fd F => ?_
  obtain ⟨fis_count, dis_count, Ois_count, mis_count, kis_count, bis_count, Fis_count⟩ := his_count
  refine F.ok scis_below (fun vs H Q E h => ?_) (fun cdv A outer s H vs Q E hr h => ?_)
  · obtain ⟨n, m, rfl, h1, q⟩ := h
    first | rfl | (rcases h with ⟨_, _, rfl, _⟩ | ⟨_, rfl, _⟩ <;> rfl)
  obtain ⟨n, m, rfl, h1, q⟩ := h
  refine ⟨_, (pss_one (ps_ret (pe_and (pe_call Ois_count hr rfl mis_count kis_count bis_count .nil pass0 (pa_cons (pv 0) pa_nil)) (pe_one (pe_cmpR op_lt (pv 0) (pv 1) (nomark _)))))), ?_⟩
  exact ⟨_, rfl, n, rfl, _, rfl, iteT ⟨_, rfl, _, rfl, _, _, rfl, rfl, bl_true h1 q⟩⟩
def spis_listed (_ : PySem.W.Frag) (_ _ : Addr) : Sp := fun vs H Q _ => ∃ a, vs = [.ref a] ∧ ((∃ xs, H a = some (.lst xs)) ∨ (∃ xs, H a = some (.tup xs))) ∧ ∀ H', Same H H' → Q (.bl true) H'
theorem okis_listed (D : Def K mg "is_listed" sis_listed ["value"]) (B : Bs mg) (Glb : Glo mg) (WK : WebK K mg C) (PK : PieceK K mg C2) :
    Good P w K mg base "is_listed" sis_listed ["value"] 1 (spis_listed K C C2) := by
  refine D.good fun f fd F => ?_
  refine F.ok scis_listed (fun vs H Q E h => ?_) (fun cdv A outer s H vs Q E hr h => ?_)
  · obtain ⟨a, rfl, ha, q⟩ := h
    first | rfl | (rcases h with ⟨_, _, rfl, _⟩ | ⟨_, rfl, _⟩ <;> rfl)
  obtain ⟨a, rfl, ha, q⟩ := h
  refine ⟨_, (pss_one (ps_ret (pe_callB call_isiT (by rfl) B.isinstance (by decide +kernel) (pa_cons (pv 0) (pa_cons (pe_tup (pa_cons (pe_bltn (v := .ty "list") (by rfl) B.list (by decide +kernel) rfl) (pa_cons (pe_bltn (v := .ty "tuple") (by rfl) B.tuple (by decide +kernel) rfl) pa_nil))) pa_nil))))), ?_⟩
  refine ⟨_, rfl, (by show 2 ≤ sizeLine; decide), fun tp ntp => ?_⟩
  rcases ha with ⟨xs, ha⟩ | ⟨xs, ha⟩
  · exact ⟨_, tp, [.ty "list", .ty "tuple"], .type "list", [.type "list", .type "tuple"], true, rfl, upd_same, .cons (.ty _) (.cons (.ty _) .nil), .base (.lst (same_new ntp _ _ _ ha)), kitAny_cons (b := true) (kit_ty (by decide +kernel)) (fun h => by cases h) (fun _ => rfl), q _ (same_new ntp _)⟩
  · exact ⟨_, tp, [.ty "list", .ty "tuple"], .type "tuple", [.type "list", .type "tuple"], true, rfl, upd_same, .cons (.ty _) (.cons (.ty _) .nil), .base (.tup (same_new ntp _ _ _ ha)), kitAny_cons (b := false) (kit_ty (by decide +kernel)) (fun _ => kitAny_cons (b := true) (kit_ty (by decide +kernel)) (fun h => by cases h) (fun _ => rfl)) (fun h => by cases h), q _ (same_new ntp _)⟩
def spare_ties (_ : PySem.W.Frag) (_ _ : Addr) : Sp := fun vs H Q _ => ∃ N : Nat, ∃ t ts, vs = [.int (N : Int), .ref t] ∧ OkWeb N ts ∧ TiesAt H t ts ∧ ∀ H', Same H H' → Q (.bl true) H'
theorem okare_ties (D : Def K mg "are_ties" sare_ties ["places", "value"]) (B : Bs mg) (Glb : Glo mg) (WK : WebK K mg C) (PK : PieceK K mg C2)
    (his_listed : Good P w K mg base "is_listed" sis_listed ["value"] 1 (spis_listed K C C2))
    (his_below : Good P w K mg base "is_below" sis_below ["value", "limit"] 3 (spis_below K C C2)) :
    Good P w K mg base "are_ties" sare_ties ["places", "value"] 4 (spare_ties K C C2) := by
  refine D.good fun f fd F => ?_
  obtain ⟨fis_listed, dis_listed, Ois_listed, mis_listed, kis_listed, bis_listed, Fis_listed⟩ := his_listed
  obtain ⟨fis_below, dis_below, Ois_below, mis_below, kis_below, bis_below, Fis_below⟩ := his_below
  refine F.ok scare_ties (fun vs H Q E h => ?_) (fun cdv A outer s H vs Q E hr h => ?_)
  · obtain ⟨N, t, ts, rfl, ho, ⟨tas, ht, hP⟩, q⟩ := h
    first | rfl | (rcases h with ⟨_, _, rfl, _⟩ | ⟨_, rfl, _⟩ <;> rfl)
  obtain ⟨N, t, ts, rfl, ho, ⟨tas, ht, hP⟩, q⟩ := h
  refine ⟨_, (pss_cons (ps_if (PW.pt (pw_or (pt_not (pt_val (pe_call Ois_listed (hr.mono (by decide)) rfl mis_listed kis_listed bis_listed .nil pass0 (pa_cons (pv 1) pa_nil)))) (pw_or1 (pt_cmpR op_gt (pe_callB call_len_seq (by rfl) B.len (by decide +kernel) (pa_cons (pv 1) pa_nil)) (pe_globI Glb.MOST_TIES) (nomark _)))))
    (pss_one (ps_ret pe_bl)) pss_nil)
  (pss_cons (ps_for PassesOwn.never rfl (pi_list (pv 1)) (pg_name (i := 2) scare_ties.nd rfl (by first | exact Or.inl rfl | exact Or.inr rfl))
    (pss_cons (ps_if (PW.pt (pw_or (pt_not (pt_val (pe_callB call_isi (by rfl) B.isinstance (by decide +kernel) (pa_cons (pv 2) (pa_cons (pe_bltn (v := .ty "tuple") (by rfl) B.tuple (by decide +kernel) rfl) pa_nil))))) (pw_or1 (pt_cmpR op_ne (pe_callB call_len_seq (by rfl) B.len (by decide +kernel) (pa_cons (pv 2) pa_nil)) pe_int (nomark _)))))
    (pss_one (ps_ret pe_bl)) pss_nil)
  (pss_one (ps_if (PW.pt (pw_or (pt_not (pt_val (pe_call Ois_below hr rfl mis_below kis_below bis_below .nil pass0 (pa_cons (pe_ix ix_tup (pv 2) pe_int (fun _ _ => rfl)) (pa_cons (pv 0) pa_nil))))) (pw_or1 (pt_not (pt_val (pe_call Ois_below hr rfl mis_below kis_below bis_below .nil pass0 (pa_cons (pe_ix ix_tup (pv 2) pe_int (fun _ _ => rfl)) (pa_cons (pv 0) pa_nil))))))))
    (pss_one (ps_ret pe_bl)) pss_nil))))
  (pss_one (ps_ret pe_bl)))), ?_⟩
  have hlen := paired_len hP
  have hm := ho.m
  refine ⟨_, rfl, t, rfl, .inl ⟨_, ht⟩, fun H1 hS1 => ⟨_, rfl, iteF ⟨_, rfl, _, _, rfl, .inl (SqL.of (hS1 _ _ ht)), _, _, rfl, rfl, _, rfl, iteNo (by rw [List.length_map]; omega) ?_⟩⟩⟩
  refine ⟨_, rfl, t, rfl, ⟨_, SqL.of (hS1 _ _ ht)⟩, for_list (K := K) (a := t) (xs := tas.map V.ref) (fun i σ H' => Same H H' ∧ ∃ v, σ = [some (.int (N : Int)), some (.ref t), v]) ⟨hS1, none, rfl⟩ (fun i σ H' _ ⟨hS', _⟩ => SqL.of (hS' _ _ ht)) ?_ ?_⟩
  · rintro i x σ H2 hx ⟨hS2, v, rfl⟩
    rw [List.getElem?_map] at hx
    obtain ⟨p, hp, rfl⟩ : ∃ p, tas[i]? = some p ∧ x = V.ref p := by
      cases e : tas[i]? with
      | none => rw [e] at hx; cases hx
      | some p => rw [e] at hx; exact ⟨p, rfl, (Option.some.inj hx).symm⟩
    obtain ⟨⟨u, v⟩, he, hpe⟩ := paired_get hP hp
    have hp2 : H2 p = some (.tup [.int (u : Int), .int (v : Int)]) := hS2 _ _ hpe
    obtain ⟨hu, hv⟩ := ho.ok _ (List.mem_of_getElem? he)
    refine ⟨_, rfl, _, _, _, _, true, rfl, .ty _, .base (.tup hp2), kit_ty (by decide +kernel), _, rfl, iteF ⟨_, rfl, _, _, rfl, .inr (SqT.of hp2), rfl, _, rfl, iteNS rfl ?_⟩⟩
    refine ⟨_, rfl, _, _, _, .int (u : Int), rfl, rfl, SqT.of hp2, rfl, _, rfl, u, N, rfl, by omega, _, rfl, iteF ⟨_, rfl, _, _, _, .int (v : Int), rfl, rfl, SqT.of hp2, rfl, _, rfl, v, N, rfl, by omega, _, rfl, iteF ?_⟩⟩
    exact ⟨hS2, _, rfl⟩
  · rintro σ H2 ⟨hS2, v, rfl⟩
    exact q H2 hS2
end
end My
namespace My
open PySem L2 PyProof.Rows
/-! ### numbers of ties from a place -/
def frmN (ts : List (Nat × Nat)) (p : Nat) : Nat → List Nat
  | 0 => []
  | i + 1 => if (ts[i]?.map Prod.fst) = some p then frmN ts p i ++ [i] else frmN ts p i
abbrev frm (ts : List (Nat × Nat)) (p : Nat) : List Nat := frmN ts p ts.length
theorem frmN_len (ts : List (Nat × Nat)) (p : Nat) : ∀ i, (frmN ts p i).length ≤ i
  | 0 => by simp [frmN]
  | i + 1 => by
    have := frmN_len ts p i
    unfold frmN
    split
    · simp; omega
    · omega
theorem frmN_mem (ts : List (Nat × Nat)) (p x : Nat) : ∀ i, x ∈ frmN ts p i ↔ x < i ∧ ts[x]?.map Prod.fst = some p
  | 0 => by simp [frmN]
  | i + 1 => by
    have ih := frmN_mem ts p x i
    unfold frmN
    split
    · rename_i c
      rw [List.mem_append, ih, List.mem_singleton]
      constructor
      · rintro (⟨h1, h2⟩ | rfl)
        · exact ⟨by omega, h2⟩
        · exact ⟨by omega, c⟩
      · rintro ⟨h1, h2⟩
        by_cases z : x = i
        · exact .inr z
        · exact .inl ⟨by omega, h2⟩
    · rename_i c
      rw [ih]
      constructor
      · rintro ⟨h1, h2⟩
        exact ⟨by omega, h2⟩
      · rintro ⟨h1, h2⟩
        refine ⟨?_, h2⟩
        by_cases z : x = i
        · subst z; exact absurd h2 c
        · omega
theorem nodup_get {α : Type} {L : List α} {j k : Nat} {x : α} (hn : L.Nodup) (h1 : L[j]? = some x) (h2 : L[k]? = some x) : j = k :=
  (List.getElem?_inj (List.getElem?_eq_some_iff.mp h1).1 hn).mp (h1.trans h2.symm)
/-! ### new empty lists -/
def Fresh (H1 : Hp) (D : Addr) (n : Nat) (H' : Hp) : Prop := ∃ fas : List Addr, fas.length = n ∧ fas.Nodup ∧ (∀ x ∈ fas, H1 x = none ∧ x ≠ D) ∧ Same H1 H' ∧ H' D = some (.lst (fas.map V.ref)) ∧ ∀ x ∈ fas, H' x = some (.lst [])
theorem Fresh.zero {H1 : Hp} {D : Addr} (h : H1 D = none) : Fresh H1 D 0 (upd H1 D (.lst [])) :=
  ⟨[], rfl, by simp, fun x h => by simp at h, same_new h _, upd_same, fun x h => by simp at h⟩
theorem Fresh.step {H1 H2 : Hp} {D p : Addr} {n : Nat} (h : Fresh H1 D n H2) (nD : H1 D = none) (hn : n < 1000) (np : H2 p = none) :
    ∃ acc, upd H2 p (.lst []) D = some (.lst acc) ∧ acc.length < sizeLine ∧ Fresh H1 D (n + 1) (upd (upd H2 p (.lst [])) D (.lst (acc ++ [.ref p]))) := by
  obtain ⟨fas, h1, h2, h3, h4, h5, h6⟩ := h
  have hpD : D ≠ p := ne_of_none h5 np
  refine ⟨fas.map V.ref, by rw [upd_ne hpD]; exact h5, by rw [List.length_map, h1]; exact Nat.lt_trans hn (by decide), fas ++ [p], by simp [h1], ?_, ?_, ?_, by rw [upd_same, List.map_append]; rfl, ?_⟩
  · rw [List.nodup_append]
    refine ⟨h2, by simp, fun x hx y hy => ?_⟩
    rw [List.mem_singleton.mp hy]
    rintro rfl
    rw [h6 _ hx] at np
    cases np
  · intro x hx
    rcases List.mem_append.mp hx with z | z
    · exact h3 x z
    · rw [List.mem_singleton.mp z]
      exact ⟨h4.free np, hpD.symm⟩
  · intro b o e
    rw [upd_ne (ne_of_none e nD), upd_ne (ne_of_none (h4 _ _ e) np)]
    exact h4 _ _ e
  · intro x hx
    rcases List.mem_append.mp hx with z | z
    · rw [upd_ne (h3 x z).2, upd_ne (ne_of_none (h6 x z) np)]
      exact h6 x z
    · rw [List.mem_singleton.mp z, upd_ne hpD.symm, upd_same]
/-- rows: heaps that keep what H held, but for these lists -/
def KeptR (R : List Addr) (H H' : Hp) : Prop := ∀ b o, H b = some o → b ∉ R → H' b = some o
theorem KeptR.refl (R : List Addr) (H : Hp) : KeptR R H H := fun _ _ h _ => h
theorem KeptR.new {R : List Addr} {H H' : Hp} {p : Addr} {o : HO} (h : KeptR R H H') (np : H' p = none) : KeptR R H (upd H' p o) := fun b u e n => by
  have := h b u e n
  rw [upd_ne (ne_of_none this np)]
  exact this
theorem KeptR.put {R : List Addr} {H H' : Hp} {p : Addr} {o : HO} (h : KeptR R H H') (hp : p ∈ R) : KeptR R H (upd H' p o) := fun b u e n => by
  rw [upd_ne (fun z => n (by rw [z]; exact hp))]
  exact h b u e n
/-! ### webs -/
def wf (N : Nat) (tl fl ol : Addr) : List (Str × V) := putF "_ties_to" (.ref ol) (putF "_ties_from" (.ref fl) (putF "_ties" (.ref tl) (putF "_places" (.int (N : Int)) [])))
theorem wf_P (N : Nat) (tl fl ol : Addr) : (wf N tl fl ol).lookup ("_places" : Str) = some (.int (N : Int)) := by
  unfold wf
  rw [lookup_putF, if_neg (by decide +kernel), lookup_putF, if_neg (by decide +kernel), lookup_putF, if_neg (by decide +kernel), lookup_putF, if_pos rfl]
theorem wf_T (N : Nat) (tl fl ol : Addr) : (wf N tl fl ol).lookup ("_ties" : Str) = some (.ref tl) := by
  unfold wf
  rw [lookup_putF, if_neg (by decide +kernel), lookup_putF, if_neg (by decide +kernel), lookup_putF, if_pos rfl]
theorem wf_F (N : Nat) (tl fl ol : Addr) : (wf N tl fl ol).lookup ("_ties_from" : Str) = some (.ref fl) := by
  unfold wf
  rw [lookup_putF, if_neg (by decide +kernel), lookup_putF, if_pos rfl]
theorem wf_O (N : Nat) (tl fl ol : Addr) : (wf N tl fl ol).lookup ("_ties_to" : Str) = some (.ref ol) := by
  unfold wf
  rw [lookup_putF, if_pos rfl]
theorem wf_no (N : Nat) (tl fl ol : Addr) {m : Str} (h1 : ¬ m = "_ties_to") (h2 : ¬ m = "_ties_from") (h3 : ¬ m = "_ties") (h4 : ¬ m = "_places") : (wf N tl fl ol).lookup m = none := by
  unfold wf
  rw [lookup_putF, if_neg h1, lookup_putF, if_neg h2, lookup_putF, if_neg h3, lookup_putF, if_neg h4]
  all_goals rfl
theorem putF_len (f : Str) (v : V) : ∀ l : List (Str × V), (putF f v l).length ≤ l.length + 1
  | [] => by simp [putF]
  | (g, x) :: r => by
    have := putF_len f v r
    unfold putF
    split
    · simp
    · simp; omega
def RowsAt (H : Hp) (p : Addr) (N : Nat) (f : Nat → List Nat) : Prop := ∃ fas : List Addr, H p = some (.lst (fas.map V.ref)) ∧ fas.length = N ∧ ∀ j x, fas[j]? = some x → H x = some (.lst (iv (f j)))
theorem RowsAt.same {H H' : Hp} {p : Addr} {N : Nat} {f : Nat → List Nat} (h : RowsAt H p N f) (s : Same H H') : RowsAt H' p N f := by
  obtain ⟨fas, h1, h2, h3⟩ := h
  exact ⟨fas, s _ _ h1, h2, fun j x e => s _ _ (h3 j x e)⟩
theorem RowsAt.get {H : Hp} {p : Addr} {N : Nat} {f : Nat → List Nat} (h : RowsAt H p N f) {j : Nat} (hj : j < N) : ∃ x xs, H p = some (.lst xs) ∧ atI xs (j : Int) = some (.ref x) ∧ H x = some (.lst (iv (f j))) := by
  obtain ⟨fas, h1, h2, h3⟩ := h
  have e : fas[j]? = some (fas[j]'(by omega)) := List.getElem?_eq_getElem _
  refine ⟨_, _, h1, atI_nat ?_, h3 j _ e⟩
  rw [List.getElem?_map, e]
  rfl
def WebAt (C a : Addr) (N : Nat) (ts : List (Nat × Nat)) (H : Hp) : Prop := ∃ dx tl fl ol, H a = some (.ins C dx (wf N tl fl ol)) ∧ TiesAt H tl ts ∧ RowsAt H fl N (frm ts)
theorem WebAt.same {C a : Addr} {N : Nat} {ts : List (Nat × Nat)} {H H' : Hp} (h : WebAt C a N ts H) (s : Same H H') : WebAt C a N ts H' := by
  obtain ⟨dx, tl, fl, ol, h1, h2, h3⟩ := h
  exact ⟨dx, tl, fl, ol, s _ _ h1, h2.same s, h3.same s⟩
/-- what is new in H' or a tuple, and what stands at a -/
noncomputable def Sub (H H' : Hp) (a : Addr) : Hp := fun b => by
  classical
  exact if H b = none ∨ b = a ∨ ∃ xs, H' b = some (.tup xs) then H' b else none
theorem Sub.of {H H' : Hp} {a b : Addr} {o : HO} (h : H' b = some o) (k : H b = none ∨ b = a ∨ ∃ xs, H' b = some (.tup xs)) : Sub H H' a b = some o := by
  unfold Sub
  rw [if_pos k]
  exact h
theorem Sub.same {H H' : Hp} {a : Addr} : Same (Sub H H' a) H' := fun b o e => by
  unfold Sub at e
  split at e
  · exact e
  · cases e
theorem Sub.none {H H' : Hp} {a b : Addr} {xs : List V} (h : H b = some (.lst xs)) (n : b ≠ a) (k : H' b = some (.lst xs)) : Sub H H' a b = Option.none := by
  unfold Sub
  rw [if_neg]
  rintro (z | z | ⟨ys, z⟩)
  · rw [h] at z; cases z
  · exact n z
  · rw [k] at z; cases z
section
variable {P : Program} {w : World} {K : PySem.W.Frag} {mg : Str → Option Value} {base : Heap} {C C2 : Addr}
def spWeb___init__ (_ : PySem.W.Frag) (C _ : Addr) : Sp := fun vs H Q _ => ∃ a dx N t ts, vs = [.ref a, .int ((N : Nat) : Int), .ref t] ∧ OkWeb N ts ∧ TiesAt H t ts ∧ H a = some (.ins C dx []) ∧ ∀ H', Kept a H H' → WebAt C a N ts (Sub H H' a) → Q .non H'
theorem okWeb___init__ (D : DefI K C "__init__" "Web.__init__" sWeb___init__ ["self", "places", "ties"]) (B : Bs mg) (Glb : Glo mg) (WK : WebK K mg C) (PK : PieceK K mg C2)
    (his_between : Good P w K mg base "is_between" sis_between ["value", "least", "most"] 2 (spis_between K C C2))
    (hare_ties : Good P w K mg base "are_ties" sare_ties ["places", "value"] 4 (spare_ties K C C2)) :
    GoodI P w K mg base C "__init__" "Web.__init__" sWeb___init__ ["self", "places", "ties"] 5 (spWeb___init__ K C C2) := by
  refine D.good fun f fd F => ?_
  obtain ⟨fis_between, dis_between, Ois_between, mis_between, kis_between, bis_between, Fis_between⟩ := his_between
  obtain ⟨fare_ties, dare_ties, Oare_ties, mare_ties, kare_ties, bare_ties, Fare_ties⟩ := hare_ties
  refine F.ok scWeb___init__ (fun vs H Q E h => ?_) (fun cdv A outer s H vs Q E hr h => ?_)
  · obtain ⟨a, dx, N, t, ts, rfl, ho, ht, ha, q⟩ := h
    first | rfl | (rcases h with ⟨_, _, rfl, _⟩ | ⟨_, rfl, _⟩ <;> rfl)
  obtain ⟨a, dx, N, t, ts, rfl, ho, ht, ha, q⟩ := h
  refine ⟨_, (pss_cons (ps_if (pt_not (pt_val (pe_call Ois_between (hr.mono (by decide)) rfl mis_between kis_between bis_between .nil pass0 (pa_cons (pv 1) (pa_cons pe_int (pa_cons (pe_globI Glb.MOST_PLACES) pa_nil))))))
    (pss_one ps_never) pss_nil)
  (pss_cons (ps_if (pt_not (pt_val (pe_call Oare_ties hr rfl mare_ties kare_ties bare_ties .nil pass0 (pa_cons (pv 1) (pa_cons (pv 2) pa_nil)))))
    (pss_one ps_never) pss_nil)
  (pss_cons (ps_fld (pv 0) (pv 1) rfl)
  (pss_cons (ps_fld (pv 0) (pe_callTy call_list_of (by rfl) B.list (by decide +kernel) (pa_cons (pv 2) pa_nil)) rfl)
  (pss_cons (ps_fld (pv 0) (pe_lc (own := [("_", 5)]) (g := gName 5) (by rfl) scWeb___init__.nd (pi_range1 (by rfl) B.range (pa_cons (pv 1) pa_nil)) (blkOk_by (own := [("_", 5)]) (N := ["self", "places", "ties", "tie", "ends", "_"]) (sc := defScope sWeb___init__) (by decide +kernel)) (fun _ _ _ _ _ => (pg_name (i := 5) scWeb___init__.nd rfl (by first | exact Or.inl rfl | exact Or.inr rfl))) (fun _ _ _ _ _ => pts_nil) (fun _ _ _ _ _ => (pe_lst pa_nil))) rfl)
  (pss_cons (ps_fld (pv 0) (pe_lc (own := [("_", 5)]) (g := gName 5) (by rfl) scWeb___init__.nd (pi_range1 (by rfl) B.range (pa_cons (pv 1) pa_nil)) (blkOk_by (own := [("_", 5)]) (N := ["self", "places", "ties", "tie", "ends", "_"]) (sc := defScope sWeb___init__) (by decide +kernel)) (fun _ _ _ _ _ => (pg_name (i := 5) scWeb___init__.nd rfl (by first | exact Or.inl rfl | exact Or.inr rfl))) (fun _ _ _ _ _ => pts_nil) (fun _ _ _ _ _ => (pe_lst pa_nil))) rfl)
  (pss_one (ps_for PassesOwn.never rfl (pi_enum (by rfl) B.enumerate (pa_cons (pe_fld (pv 0) rfl) pa_nil)) (pg_tup rfl (pgs_cons (pg_name (i := 3) scWeb___init__.nd rfl (by first | exact Or.inl rfl | exact Or.inr rfl)) (pgs_cons (pg_name (i := 4) scWeb___init__.nd rfl (by first | exact Or.inl rfl | exact Or.inr rfl)) pgs_nil)))
    (pss_cons (ps_expr (pe_bm PySem.F.plainAttrs_list PySem.F.slot_list_append PySem.F.type_list_append mt_append (pe_ix ix_list (pe_fld (pv 0) rfl) (pe_ix ix_tup (pv 4) pe_int (fun _ _ => rfl)) (fun _ _ => rfl)) (pa_cons (pv 3) pa_nil)))
  (pss_one (ps_expr (pe_bm PySem.F.plainAttrs_list PySem.F.slot_list_append PySem.F.type_list_append mt_append (pe_ix ix_list (pe_fld (pv 0) rfl) (pe_ix ix_tup (pv 4) pe_int (fun _ _ => rfl)) (fun _ _ => rfl)) (pa_cons (pv 3) pa_nil))))))))))))), ?_⟩
  refine ⟨_, rfl, (N : Int), 1, 60, rfl, by have := ho.n0; omega, by have := ho.n1; omega, _, rfl, iteF ?_⟩
  refine ⟨_, rfl, _, rfl, N, t, ts, rfl, ho, ht, fun H1 hS1 => ⟨_, rfl, iteF ?_⟩⟩
  have ha1 := hS1 _ _ ha
  obtain ⟨tas, ht1, hP1⟩ := ht.same hS1
  have nat : t ≠ a := ne_of ht1 ha1 (by intro q; cases q)
  have nta : ∀ p e, TupAt H1 p e → p ≠ a := fun p e hp => ne_of hp ha1 (by intro q; cases q)
  refine ⟨_, rfl, _, rfl, a, C, dx, [], rfl, ha1, WK.cl, WK.nP, (by decide), ?_⟩
  refine ⟨_, rfl, t, _, rfl, .inl (SqL.of (by rw [upd_ne nat]; exact ht1)), fun tl ntl => ?_⟩
  have natl : a ≠ tl := ne_of_none upd_same ntl
  have ntl1 : H1 tl = none := by rw [upd_ne natl.symm] at ntl; exact ntl
  refine ⟨_, rfl, a, C, dx, _, rfl, (by rw [upd_ne natl]; exact upd_same), WK.cl, WK.nT, Nat.lt_of_le_of_lt (putF_len _ _ _) (by decide), ?_⟩
  generalize e4 : upd (upd (upd H1 a (.ins C dx (putF "_places" (.int (N : Int)) []))) tl (.lst (tas.map V.ref))) a (.ins C dx (putF "_ties" (.ref tl) (putF "_places" (.int (N : Int)) []))) = H4
  have k4 : Kept a H1 H4 := fun b o e n => by rw [← e4, upd_ne n, upd_ne (ne_of_none e ntl1), upd_ne n]; exact e
  have ha4 : H4 a = some (.ins C dx (putF "_ties" (.ref tl) (putF "_places" (.int (N : Int)) []))) := by rw [← e4]; exact upd_same
  have htl4 : H4 tl = some (.lst (tas.map V.ref)) := by rw [← e4, upd_ne natl.symm]; exact upd_same
  have hN := ho.n1
  refine ⟨_, rfl, _, rfl, by omega, by omega, fun D1 nD1 => ?_⟩
  refine lc_range (lo := 0) (n := N) (fun i H' => Fresh H4 D1 i H') (Fresh.zero nD1) ?_ ?_
  · intro i H' hi hf
    exact ⟨rfl, Nat.zero_le _, fun p np => hf.step nD1 (by omega) np⟩
  rintro H5 ⟨fas, f1, f2, f3, f4, f5, f6⟩
  have ha5 := f4 _ _ ha4
  have fa : ∀ x ∈ fas, x ≠ a := fun x hx z => by
    have := (f3 x hx).1
    rw [z, ha4] at this
    cases this
  have naD1 : D1 ≠ a := fun z => by rw [z, ha4] at nD1; cases nD1
  refine ⟨_, rfl, a, C, dx, _, rfl, ha5, WK.cl, WK.nF, Nat.lt_of_le_of_lt (putF_len _ _ _) (Nat.lt_of_le_of_lt (Nat.succ_le_succ (putF_len _ _ _)) (by decide)), ?_⟩
  generalize e6 : upd H5 a (.ins C dx (putF "_ties_from" (.ref D1) (putF "_ties" (.ref tl) (putF "_places" (.int (N : Int)) [])))) = H6
  have k6 : Kept a H5 H6 := fun b o e n => by rw [← e6, upd_ne n]; exact e
  have ha6 : H6 a = some (.ins C dx (putF "_ties_from" (.ref D1) (putF "_ties" (.ref tl) (putF "_places" (.int (N : Int)) [])))) := by rw [← e6]; exact upd_same
  refine ⟨_, rfl, _, rfl, by omega, by omega, fun D2 nD2 => ?_⟩
  refine lc_range (lo := 0) (n := N) (fun i H' => Fresh H6 D2 i H') (Fresh.zero nD2) ?_ ?_
  · intro i H' hi hf
    exact ⟨rfl, Nat.zero_le _, fun p np => hf.step nD2 (by omega) np⟩
  rintro H7 ⟨os, g1, g2, g3, g4, g5, g6⟩
  have ha7 := g4 _ _ ha6
  refine ⟨_, rfl, a, C, dx, _, rfl, ha7, WK.cl, WK.nO, Nat.lt_of_le_of_lt (putF_len _ _ _) (Nat.lt_of_le_of_lt (Nat.succ_le_succ (putF_len _ _ _)) (Nat.lt_of_le_of_lt (Nat.succ_le_succ (Nat.succ_le_succ (putF_len _ _ _))) (by decide))), ?_⟩
  generalize e8 : upd H7 a (.ins C dx (putF "_ties_to" (.ref D2) (putF "_ties_from" (.ref D1) (putF "_ties" (.ref tl) (putF "_places" (.int (N : Int)) []))))) = H8
  have k8 : Kept a H7 H8 := fun b o e n => by rw [← e8, upd_ne n]; exact e
  have ha8 : H8 a = some (.ins C dx (wf N tl D1 D2)) := by rw [← e8]; exact upd_same
  have oa : ∀ x ∈ os, x ≠ a := fun x hx z => by
    have := (g3 x hx).1
    rw [z, ha6] at this
    cases this
  have naD2 : D2 ≠ a := fun z => by rw [z, ha6] at nD2; cases nD2
  have fo : ∀ x ∈ fas, x ∉ os := fun x hx z => by
    have h := (g3 x z).1
    rw [k6 _ _ (f6 x hx) (fa x hx)] at h
    cases h
  -- what stands before the lists is none of them
  have old : ∀ b o, H4 b = some o → b ≠ a → H8 b = some o ∧ b ∉ fas ∧ b ∉ os := fun b o e n => by
    have h5 := f4 _ _ e
    have h6 := k6 _ _ h5 n
    refine ⟨k8 _ _ (g4 _ _ h6) n, fun z => ?_, fun z => ?_⟩
    · rw [(f3 b z).1] at e; cases e
    · rw [(g3 b z).1] at h6; cases h6
  have ntla : tl ≠ a := natl.symm
  have oldA : a ∉ fas ∧ a ∉ os := ⟨fun z => fa a z rfl, fun z => oa a z rfl⟩
  have oldT := old _ _ htl4 ntla
  have oldE : ∀ p e, TupAt H1 p e → TupAt H8 p e ∧ p ∉ fas ∧ p ∉ os := fun p e hp => old _ _ (k4 _ _ hp (nta p e hp)) (nta p e hp)
  have f58 : H8 D1 = some (.lst (fas.map V.ref)) := k8 _ _ (g4 _ _ (k6 _ _ f5 naD1)) naD1
  have D1f : D1 ∉ fas := fun z => (f3 D1 z).2 rfl
  have D1o : D1 ∉ os := fun z => by
    have h := (g3 D1 z).1
    rw [k6 _ _ f5 naD1] at h
    cases h
  have g58 : H8 D2 = some (.lst (os.map V.ref)) := k8 _ _ g5 naD2
  have D2o : D2 ∉ os := fun z => (g3 D2 z).2 rfl
  have D2f : D2 ∉ fas := fun z => by
    have h := k6 _ _ (f6 D2 z) (fa D2 z)
    rw [nD2] at h
    cases h
  have fe8 : ∀ x ∈ fas, H8 x = some (.lst []) := fun x hx => k8 _ _ (g4 _ _ (k6 _ _ (f6 x hx) (fa x hx))) (fa x hx)
  have oe8 : ∀ x ∈ os, H8 x = some (.lst []) := fun x hx => k8 _ _ (g6 x hx) (oa x hx)
  have nin : ∀ {b : Addr}, b ∉ fas → b ∉ os → b ∉ fas ++ os := fun h1 h2 z => (List.mem_append.mp z).elim h1 h2
  refine ⟨_, rfl, a, C, dx, _, _, rfl, ha8, WK.cl, WK.nT, wf_T _ _ _ _, tl, _, rfl, SqL.of oldT.1, ?_⟩
  refine for_it (walk_enum (K := K) (a := tl) (xs := tas.map V.ref)) (fun i σ H' => ∃ v3 v4 v5 : Option V, σ = [some (.ref a), some (.int (N : Int)), some (.ref t), v3, v4, v5] ∧ KeptR (fas ++ os) H8 H' ∧ (∀ (j : Nat) (x : Addr), fas[j]? = some x → H' x = some (.lst (iv (frmN ts j i)))) ∧ (∀ (j : Nat) (x : Addr), os[j]? = some x → ∃ L : List V, H' x = some (.lst L) ∧ L.length ≤ i)) ?_ ?_ ?_ ?_
  · exact ⟨_, _, _, rfl, .refl _ _, fun j x e => fe8 x (List.mem_of_getElem? e), fun j x e => ⟨[], oe8 x (List.mem_of_getElem? e), Nat.zero_le _⟩⟩
  · rintro i σ H' hi ⟨v3, v4, v5, rfl, hk, _, _⟩
    exact SqL.of (hk _ _ oldT.1 (nin oldT.2.1 oldT.2.2))
  · rintro i x σ H9 H10 hi ⟨v3, v4, v5, rfl, hk, hf, hos⟩ ⟨T0, x1, x2, rfl, nT0, rfl, e1, e2⟩
    cases e1
    rw [List.length_map] at hi
    replace e2 : (tas.map V.ref)[i]? = some x2 := e2
    rw [List.getElem?_map, List.getElem?_eq_getElem hi] at e2
    cases e2
    obtain ⟨⟨u, v⟩, he, hpe⟩ := paired_get hP1 (List.getElem?_eq_getElem hi)
    obtain ⟨hu, hv⟩ := ho.ok _ (List.mem_of_getElem? he)
    have hp8 := oldE _ _ hpe
    have hp9 : H9 tas[i] = some (.tup [.int (u : Int), .int (v : Int)]) := hk _ _ hp8.1 (nin hp8.2.1 hp8.2.2)
    have hkN : KeptR (fas ++ os) H8 (upd H9 T0 (.tup [.int (i : Int), .ref tas[i]])) := hk.new nT0
    generalize e10 : upd H9 T0 (.tup [.int (i : Int), .ref tas[i]]) = H10
    rw [e10] at hkN
    have hT10 : H10 T0 = some (.tup [.int (i : Int), .ref tas[i]]) := by rw [← e10]; exact upd_same
    have hS10 : Same H9 H10 := by rw [← e10]; exact same_new nT0 _
    have hp10 := hS10 _ _ hp9
    have ha10 := hkN _ _ ha8 (nin oldA.1 oldA.2)
    have hfl10 := hkN _ _ f58 (nin D1f D1o)
    obtain ⟨xu, eu⟩ : ∃ x, fas[u]? = some x := ⟨fas[u]'(by omega), List.getElem?_eq_getElem _⟩
    obtain ⟨xv, ev⟩ : ∃ x, os[v]? = some x := ⟨os[v]'(by omega), List.getElem?_eq_getElem _⟩
    have mu := List.mem_of_getElem? eu
    have mv := List.mem_of_getElem? ev
    have hxu := hS10 _ _ (hf u xu eu)
    obtain ⟨Lv, hxv, hLv⟩ := hos v xv ev
    have nxu : ∀ {b : Addr}, b ∉ fas → b ≠ xu := fun h z => h (by rw [z]; exact mu)
    have nxv : ∀ {b : Addr}, b ∉ os → b ≠ xv := fun h z => h (by rw [z]; exact mv)
    have htl := ho.m
    have htsl : i < ts.length := by rw [← paired_len hP1]; exact hi
    refine ⟨T0, _, rfl, SqT.of hT10, rfl, _, _, rfl, _, _, rfl, rfl, ?_⟩
    refine ⟨_, rfl, a, C, dx, _, _, rfl, ha10, WK.cl, WK.nF, wf_F _ _ _ _, _, rfl, _, _, _, .int (u : Int), rfl, rfl, SqT.of hp10, rfl, _, _, _, .ref xu, rfl, rfl, SqL.of hfl10, atI_nat (by rw [List.getElem?_map, eu]; rfl), .inl ⟨rfl, _, SqL.of hxu⟩, _, rfl, xu, _, _, rfl, rfl, hxu, ?_, ?_⟩
    · rw [List.length_map]
      exact Nat.lt_of_le_of_lt (frmN_len ts u i) (Nat.lt_trans (by omega : i < 1000) (by decide))
    generalize e11 : upd H10 xu (.lst (iv (frmN ts u i) ++ [.int (i : Int)])) = H11
    have hk11 : KeptR (fas ++ os) H8 H11 := by rw [← e11]; exact hkN.put (List.mem_append_left _ mu)
    have ha11 := hk11 _ _ ha8 (nin oldA.1 oldA.2)
    have hol11 := hk11 _ _ g58 (nin D2f D2o)
    have hp11 : H11 tas[i] = some (.tup [.int (u : Int), .int (v : Int)]) := hk11 _ _ hp8.1 (nin hp8.2.1 hp8.2.2)
    have hxv11 : H11 xv = some (.lst Lv) := by
      rw [← e11, upd_ne (fun z => fo xu mu (by rw [← z]; exact mv))]
      exact hS10 _ _ hxv
    refine ⟨_, rfl, a, C, dx, _, _, rfl, ha11, WK.cl, WK.nO, wf_O _ _ _ _, _, rfl, _, _, _, .int (v : Int), rfl, rfl, SqT.of hp11, rfl, _, _, _, .ref xv, rfl, rfl, SqL.of hol11, atI_nat (by rw [List.getElem?_map, ev]; rfl), .inl ⟨rfl, _, SqL.of hxv11⟩, _, rfl, xv, _, _, rfl, rfl, hxv11, Nat.lt_of_le_of_lt hLv (Nat.lt_trans (by omega : i < 1000) (by decide)), ?_⟩
    refine ⟨_, _, _, rfl, hk11.put (List.mem_append_right _ mv), fun j x e => ?_, fun j x e => ?_⟩
    · have nx : x ≠ xv := fun z => fo x (List.mem_of_getElem? e) (by rw [z]; exact mv)
      rw [upd_ne nx]
      have eti : ts[i]?.map Prod.fst = some u := by rw [he]; rfl
      by_cases c : x = xu
      · have ej : j = u := nodup_get f2 e (by rw [c]; exact eu)
        subst ej
        rw [c, ← e11, upd_same, show frmN ts j (i + 1) = frmN ts j i ++ [i] from if_pos eti, iv_app]
      · have ej : ¬ (ts[i]?.map Prod.fst) = some j := fun z => by
          rw [eti] at z
          cases z
          rw [eu] at e
          exact c (Option.some.inj e).symm
        rw [← e11, upd_ne c, show frmN ts j (i + 1) = frmN ts j i from if_neg ej]
        exact hS10 _ _ (hf j x e)
    · by_cases c : x = xv
      · exact ⟨_, by rw [c]; exact upd_same, by rw [List.length_append, List.length_singleton]; omega⟩
      · obtain ⟨L, h1, h2⟩ := hos j x e
        refine ⟨L, ?_, by omega⟩
        rw [upd_ne c, ← e11, upd_ne (fun z => fo xu mu (by rw [← z]; exact List.mem_of_getElem? e))]
        exact hS10 _ _ h1
  · rintro σ H9 ⟨v3, v4, v5, rfl, hk, hf, hos⟩
    have hlen : (tas.map V.ref).length = ts.length := by rw [List.length_map]; exact paired_len hP1
    rw [hlen] at hf
    have to9 : ∀ b o, H4 b = some o → b ≠ a → H9 b = some o := fun b o e n => by
      have h := old b o e n
      exact hk _ _ h.1 (nin h.2.1 h.2.2)
    have g0 : ∀ b, b ≠ a → H4 b = none → H b = none := fun b n e => by
      cases e2 : H b with
      | none => rfl
      | some o =>
        rw [k4 _ _ (hS1 _ _ e2) n] at e
        cases e
    refine q H9 (fun b o e n => to9 b o (k4 _ _ (hS1 _ _ e) n) n) ⟨dx, tl, D1, D2, Sub.of (hk _ _ ha8 (nin oldA.1 oldA.2)) (.inr (.inl rfl)), ⟨tas, Sub.of (to9 _ _ htl4 ntla) (.inl (hS1.free ntl1)), ?_⟩, ⟨fas, Sub.of (hk _ _ f58 (nin D1f D1o)) (.inl (g0 _ naD1 nD1)), f1, fun j x e => Sub.of (hf j x e) (.inl ?_)⟩⟩
    · refine paired_mono (fun p e hp => ?_) hP1
      have hp9 := to9 _ _ (k4 _ _ hp (nta p e hp)) (nta p e hp)
      exact Sub.of hp9 (.inr (.inr ⟨_, hp9⟩))
    · have hm := List.mem_of_getElem? e
      exact g0 x (fa x hm) (f3 x hm).1
def spWeb_places (_ : PySem.W.Frag) (C _ : Addr) : Sp := fun vs H Q _ => ∃ a N ts, vs = [.ref a] ∧ WebAt C a N ts H ∧ Q (.int (N : Int)) H
theorem okWeb_places (D : DefP K C "places" "Web.places" sWeb_places ["self"]) (B : Bs mg) (Glb : Glo mg) (WK : WebK K mg C) (PK : PieceK K mg C2) :
    GoodP P w K mg base C "places" "Web.places" sWeb_places ["self"] 1 (spWeb_places K C C2) := by
  refine D.good fun f fd F => ?_
  refine F.ok scWeb_places (fun vs H Q E h => ?_) (fun cdv A outer s H vs Q E hr h => ?_)
  · obtain ⟨a, N, ts, rfl, ⟨dx, tl, fl, ol, h1, h2, h3⟩, q⟩ := h
    first | rfl | (rcases h with ⟨_, _, rfl, _⟩ | ⟨_, rfl, _⟩ <;> rfl)
  obtain ⟨a, N, ts, rfl, ⟨dx, tl, fl, ol, h1, h2, h3⟩, q⟩ := h
  refine ⟨_, (pss_one (ps_ret (pe_fld (pv 0) rfl))), ?_⟩
  exact ⟨_, rfl, a, C, dx, _, _, rfl, h1, WK.cl, WK.nP, wf_P _ _ _ _, q⟩
def spWeb_many (_ : PySem.W.Frag) (C _ : Addr) : Sp := fun vs H Q _ => ∃ a N ts, vs = [.ref a] ∧ WebAt C a N ts H ∧ Q (.int (ts.length : Int)) H
theorem okWeb_many (D : DefP K C "many" "Web.many" sWeb_many ["self"]) (B : Bs mg) (Glb : Glo mg) (WK : WebK K mg C) (PK : PieceK K mg C2) :
    GoodP P w K mg base C "many" "Web.many" sWeb_many ["self"] 1 (spWeb_many K C C2) := by
  refine D.good fun f fd F => ?_
  refine F.ok scWeb_many (fun vs H Q E h => ?_) (fun cdv A outer s H vs Q E hr h => ?_)
  · obtain ⟨a, N, ts, rfl, ⟨dx, tl, fl, ol, h1, ⟨tas, ht, hP⟩, h3⟩, q⟩ := h
    first | rfl | (rcases h with ⟨_, _, rfl, _⟩ | ⟨_, rfl, _⟩ <;> rfl)
  obtain ⟨a, N, ts, rfl, ⟨dx, tl, fl, ol, h1, ⟨tas, ht, hP⟩, h3⟩, q⟩ := h
  refine ⟨_, (pss_one (ps_ret (pe_callB call_len_seq (by rfl) B.len (by decide +kernel) (pa_cons (pe_fld (pv 0) rfl) pa_nil)))), ?_⟩
  refine ⟨_, rfl, a, C, dx, _, _, rfl, h1, WK.cl, WK.nT, wf_T _ _ _ _, _, _, rfl, .inl (SqL.of ht), ?_⟩
  rw [List.length_map, paired_len hP]
  exact q
def spWeb_ties (_ : PySem.W.Frag) (C _ : Addr) : Sp := fun vs H Q _ => ∃ a N ts, vs = [.ref a] ∧ WebAt C a N ts H ∧ ∀ H' l, H l = none → Same H H' → TiesAt H' l ts → Q (.ref l) H'
theorem okWeb_ties (D : DefM K C "ties" "Web.ties" sWeb_ties ["self"]) (B : Bs mg) (Glb : Glo mg) (WK : WebK K mg C) (PK : PieceK K mg C2) :
    GoodM P w K mg base C "ties" "Web.ties" sWeb_ties ["self"] 1 (spWeb_ties K C C2) := by
  refine D.good fun f fd F => ?_
  refine F.ok scWeb_ties (fun vs H Q E h => ?_) (fun cdv A outer s H vs Q E hr h => ?_)
  · obtain ⟨a, N, ts, rfl, ⟨dx, tl, fl, ol, h1, ⟨tas, ht, hP⟩, h3⟩, q⟩ := h
    first | rfl | (rcases h with ⟨_, _, rfl, _⟩ | ⟨_, rfl, _⟩ <;> rfl)
  obtain ⟨a, N, ts, rfl, ⟨dx, tl, fl, ol, h1, ⟨tas, ht, hP⟩, h3⟩, q⟩ := h
  refine ⟨_, (pss_one (ps_ret (pe_callTy call_list_of (by rfl) B.list (by decide +kernel) (pa_cons (pe_fld (pv 0) rfl) pa_nil)))), ?_⟩
  exact ⟨_, rfl, a, C, dx, _, _, rfl, h1, WK.cl, WK.nT, wf_T _ _ _ _, _, _, rfl, .inl (SqL.of ht), fun l nl => q _ l nl (same_new nl _) ⟨tas, upd_same, paired_mono (fun p e hp => same_new nl _ _ _ hp) hP⟩⟩
def spneed_web (_ : PySem.W.Frag) (C _ : Addr) : Sp := fun vs H Q _ => ∃ a N ts, vs = [.ref a] ∧ WebAt C a N ts H ∧ Q .non H
theorem okneed_web (D : Def K mg "need_web" sneed_web ["web"]) (B : Bs mg) (Glb : Glo mg) (WK : WebK K mg C) (PK : PieceK K mg C2) :
    Good P w K mg base "need_web" sneed_web ["web"] 3 (spneed_web K C C2) := by
  refine D.good fun f fd F => ?_
  refine F.ok scneed_web (fun vs H Q E h => ?_) (fun cdv A outer s H vs Q E hr h => ?_)
  · obtain ⟨a, N, ts, rfl, hw, q⟩ := h
    first | rfl | (rcases h with ⟨_, _, rfl, _⟩ | ⟨_, rfl, _⟩ <;> rfl)
  obtain ⟨a, N, ts, rfl, hw, q⟩ := h
  refine ⟨_, (pss_one (ps_if (pt_not (pt_val (pe_callB call_isi (by rfl) B.isinstance (by decide +kernel) (pa_cons (pv 0) (pa_cons (pe_glob (v := .ref C) (by rfl) WK.mgC rfl) pa_nil)))))
    (pss_one ps_never) pss_nil)), ?_⟩
  obtain ⟨dx, tl, fl, ol, h1, h2, h3⟩ := id hw
  exact ⟨_, rfl, _, _, _, _, true, rfl, .own C, .base (.ins h1 WK.cl WK.i1 WK.i2 WK.i3 WK.i4), WK.i5, _, rfl, iteF q⟩
/-- a list or a tuple of ints -/
def SeqAt (H : Hp) (s : Addr) (W : List Nat) : Prop := H s = some (.lst (iv W)) ∨ H s = some (.tup (iv W))
theorem SeqAt.same {H H' : Hp} {s : Addr} {W : List Nat} (h : SeqAt H s W) (hs : Same H H') : SeqAt H' s W := h.imp (hs _ _) (hs _ _)
def spare_numbers (_ : PySem.W.Frag) (C _ : Addr) : Sp := fun vs H Q _ => ∃ a N ts s W, vs = [.ref a, .ref s] ∧ WebAt C a N ts H ∧ SeqAt H s W ∧ (∀ x ∈ W, x < ts.length) ∧ ∀ H', Same H H' → Q (.bl true) H'
theorem okare_numbers (D : Def K mg "are_numbers" sare_numbers ["web", "value"]) (B : Bs mg) (Glb : Glo mg) (WK : WebK K mg C) (PK : PieceK K mg C2)
    (his_listed : Good P w K mg base "is_listed" sis_listed ["value"] 1 (spis_listed K C C2))
    (his_below : Good P w K mg base "is_below" sis_below ["value", "limit"] 3 (spis_below K C C2))
    (hWeb_many : GoodP P w K mg base C "many" "Web.many" sWeb_many ["self"] 1 (spWeb_many K C C2)) :
    Good P w K mg base "are_numbers" sare_numbers ["web", "value"] 4 (spare_numbers K C C2) := by
  refine D.good fun f fd F => ?_
  obtain ⟨fis_listed, dis_listed, Ois_listed, mis_listed, kis_listed, bis_listed, Fis_listed⟩ := his_listed
  obtain ⟨fis_below, dis_below, Ois_below, mis_below, kis_below, bis_below, Fis_below⟩ := his_below
  obtain ⟨qWeb_many, fWeb_many, dWeb_many, OWeb_many, pWeb_many, bWeb_many⟩ := hWeb_many
  refine F.ok scare_numbers (fun vs H Q E h => ?_) (fun cdv A outer s H vs Q E hr h => ?_)
  · obtain ⟨a, N, ts, s, W, rfl, hw, hs, hW, q⟩ := h
    first | rfl | (rcases h with ⟨_, _, rfl, _⟩ | ⟨_, rfl, _⟩ <;> rfl)
  obtain ⟨a, N, ts, s, W, rfl, hw, hs, hW, q⟩ := h
  refine ⟨_, (pss_cons (ps_if (pt_not (pt_val (pe_call Ois_listed (hr.mono (by decide)) rfl mis_listed kis_listed bis_listed .nil pass0 (pa_cons (pv 1) pa_nil))))
    (pss_one (ps_ret pe_bl)) pss_nil)
  (pss_cons (ps_for PassesOwn.never rfl (pi_or (pi_list (pv 1)) (pi_tup (pv 1))) (pg_name (i := 2) scare_numbers.nd rfl (by first | exact Or.inl rfl | exact Or.inr rfl))
    (pss_one (ps_if (pt_not (pt_val (pe_call Ois_below hr rfl mis_below kis_below bis_below .nil pass0 (pa_cons (pv 2) (pa_cons (pe_prop (pv 0) WK.cl pWeb_many OWeb_many (hr.mono (by decide)) bWeb_many .nil pass0 (by rfl)) pa_nil)))))
    (pss_one (ps_ret pe_bl)) pss_nil)))
  (pss_one (ps_ret pe_bl)))), ?_⟩
  refine ⟨_, rfl, s, rfl, hs.imp (fun h => ⟨_, h⟩) (fun h => ⟨_, h⟩), fun H1 hS1 => ⟨_, rfl, iteF ?_⟩⟩
  have key : ∀ (i : Nat) (x : V) (H2 : Hp), (iv W)[i]? = some x → Same H1 H2 → ∃ n : Nat, x = .int (n : Int) ∧ n < ts.length ∧ WebAt C a N ts H2 := fun i x H2 hx hS2 => by
    rw [List.getElem?_map] at hx
    cases e : W[i]? with
    | none => rw [e] at hx; cases hx
    | some n =>
      rw [e] at hx
      exact ⟨n, (Option.some.inj hx).symm, hW n (List.mem_of_getElem? e), (hw.same hS1).same hS2⟩
  rcases hs.same hS1 with h | h
  · refine .inl ⟨_, rfl, s, rfl, ⟨_, SqL.of h⟩, for_list (K := K) (a := s) (xs := iv W) (fun i σ H' => Same H1 H' ∧ ∃ v, σ = [some (.ref a), some (.ref s), v]) ⟨fun _ _ e => e, none, rfl⟩ (fun i σ H' _ ⟨hS', _⟩ => SqL.of (hS' _ _ h)) ?_ ?_⟩
    · rintro i x σ H2 hx ⟨hS2, v, rfl⟩
      obtain ⟨n, rfl, hn, hw2⟩ := key i x H2 hx hS2
      obtain ⟨dx, tl, fl, ol, h1, _⟩ := id hw2
      exact ⟨_, rfl, _, rfl, a, dx, _, rfl, h1, a, N, ts, rfl, hw2, n, _, rfl, by omega, _, rfl, iteF ⟨hS2, _, rfl⟩⟩
    · rintro σ H2 ⟨hS2, v, rfl⟩
      exact q H2 (hS1.trans hS2)
  · refine .inr ⟨_, rfl, s, rfl, ⟨_, SqT.of h⟩, for_tup (K := K) (a := s) (xs := iv W) (fun i σ H' => Same H1 H' ∧ ∃ v, σ = [some (.ref a), some (.ref s), v]) ⟨fun _ _ e => e, none, rfl⟩ (fun i σ H' _ ⟨hS', _⟩ => SqT.of (hS' _ _ h)) ?_ ?_⟩
    · rintro i x σ H2 hx ⟨hS2, v, rfl⟩
      obtain ⟨n, rfl, hn, hw2⟩ := key i x H2 hx hS2
      obtain ⟨dx, tl, fl, ol, h1, _⟩ := id hw2
      exact ⟨_, rfl, _, rfl, a, dx, _, rfl, h1, a, N, ts, rfl, hw2, n, _, rfl, by omega, _, rfl, iteF ⟨hS2, _, rfl⟩⟩
    · rintro σ H2 ⟨hS2, v, rfl⟩
      exact q H2 (hS1.trans hS2)
end
end My
namespace My
open PySem L2 PyProof.Rows
theorem SeqAt.seq {K : PySem.W.Frag} {H : Hp} {s : Addr} {W : List Nat} (h : SeqAt H s W) : SqL K H s (iv W) ∨ SqT K H s (iv W) := h.imp SqL.of SqT.of
theorem SeqAt.ix {K : PySem.W.Frag} {H : Hp} {s : Addr} {W : List Nat} {i : Int} {b : Nat} {Q : VK} (h : SeqAt H s W) (e : atI (iv W) i = some (.int (b : Int))) (q : Q (.int (b : Int)) H) : rIx K (.ref s) (.int i) H Q := by
  rcases h with h | h
  · exact .inl ⟨_, _, _, _, rfl, rfl, SqL.of h, e, q⟩
  · exact .inr (.inl ⟨_, _, _, _, rfl, rfl, SqT.of h, e, q⟩)
theorem TiesAt.at_ {H : Hp} {l : Addr} {ts : List (Nat × Nat)} (h : TiesAt H l ts) {x : Nat} {e : Nat × Nat} (hx : ts[x]? = some e) : ∃ xs p, H l = some (.lst xs) ∧ atI xs (x : Int) = some (.ref p) ∧ H p = some (.tup [.int (e.1 : Int), .int (e.2 : Int)]) := by
  obtain ⟨tas, h1, h2⟩ := h
  have hl := paired_len h2
  have hx2 := (List.getElem?_eq_some_iff.mp hx).1
  have e1 : tas[x]? = some (tas[x]'(by omega)) := List.getElem?_eq_getElem _
  obtain ⟨f, hf, hp⟩ := paired_get h2 e1
  rw [hx] at hf
  cases hf
  refine ⟨_, _, h1, atI_nat ?_, hp⟩
  rw [List.getElem?_map, e1]
  rfl
theorem atI_back {α : Type} {xs : List α} {v : α} (h : xs[xs.length - 1]? = some v) : atI xs (-1) = some v := by
  have h0 := (List.getElem?_eq_some_iff.mp h).1
  unfold atI ixN
  rw [if_neg (by decide), if_pos (by omega)]
  show xs[((-1 : Int) + (xs.length : Int)).toNat]? = _
  rw [show ((-1 : Int) + (xs.length : Int)).toNat = xs.length - 1 by omega]
  exact h
theorem iv_back {L : List Nat} {b : Nat} (h : L[L.length - 1]? = some b) : atI (iv L) (-1) = some (.int (b : Int)) := by
  refine atI_back ?_
  rw [List.length_map, List.getElem?_map, h]
  rfl
/-! ### walks and rounds -/
structure Chain (ts : List (Nat × Nat)) (R : List Nat) : Prop where
  n0 : 0 < R.length
  num : ∀ x ∈ R, x < ts.length
  on : ∀ i, i + 1 < R.length → ∃ x y e f, R[i]? = some x ∧ R[i + 1]? = some y ∧ ts[x]? = some e ∧ ts[y]? = some f ∧ f.1 = e.2
structure Tour (ts : List (Nat × Nat)) (R : List Nat) : Prop where
  ch : Chain ts R
  n1 : R.length ≤ 1000
  back : ∃ x y e f, R[0]? = some x ∧ R[R.length - 1]? = some y ∧ ts[x]? = some e ∧ ts[y]? = some f ∧ e.1 = f.2
section
variable {P : Program} {w : World} {K : PySem.W.Frag} {mg : Str → Option Value} {base : Heap} {C C2 : Addr}
def sp_go_on (_ : PySem.W.Frag) (C _ : Addr) : Sp := fun vs H Q _ => ∃ a N ts s R, ∃ m : Int, vs = [.ref a, .ref s, .int m] ∧ WebAt C a N ts H ∧ SeqAt H s R ∧ Chain ts R ∧ (R.length : Int) ≤ m ∧ R.length ≤ 1000 ∧ ∀ H', Same H H' → Q (.bl true) H'
theorem ok_go_on (D : Def K mg "_go_on" s_go_on ["web", "value", "longest"]) (B : Bs mg) (Glb : Glo mg) (WK : WebK K mg C) (PK : PieceK K mg C2)
    (his_listed : Good P w K mg base "is_listed" sis_listed ["value"] 1 (spis_listed K C C2))
    (his_between : Good P w K mg base "is_between" sis_between ["value", "least", "most"] 2 (spis_between K C C2))
    (hare_numbers : Good P w K mg base "are_numbers" sare_numbers ["web", "value"] 4 (spare_numbers K C C2))
    (hWeb_ties : GoodM P w K mg base C "ties" "Web.ties" sWeb_ties ["self"] 1 (spWeb_ties K C C2)) :
    Good P w K mg base "_go_on" s_go_on ["web", "value", "longest"] 5 (sp_go_on K C C2) := by
  refine D.good fun f fd F => ?_
  obtain ⟨fis_listed, dis_listed, Ois_listed, mis_listed, kis_listed, bis_listed, Fis_listed⟩ := his_listed
  obtain ⟨fis_between, dis_between, Ois_between, mis_between, kis_between, bis_between, Fis_between⟩ := his_between
  obtain ⟨fare_numbers, dare_numbers, Oare_numbers, mare_numbers, kare_numbers, bare_numbers, Fare_numbers⟩ := hare_numbers
  obtain ⟨fWeb_ties, dWeb_ties, OWeb_ties, tWeb_ties, bWeb_ties, FWeb_ties⟩ := hWeb_ties
  refine F.ok sc_go_on (fun vs H Q E h => ?_) (fun cdv A outer s H vs Q E hr h => ?_)
  · obtain ⟨a, N, ts, s, R, m, rfl, hw, hs, hc, hm, h1, q⟩ := h
    first | rfl | (rcases h with ⟨_, _, rfl, _⟩ | ⟨_, rfl, _⟩ <;> rfl)
  obtain ⟨a, N, ts, s, R, m, rfl, hw, hs, hc, hm, h1, q⟩ := h
  refine ⟨_, (pss_cons (ps_if (PW.pt (pw_or (pt_not (pt_val (pe_call Ois_listed (hr.mono (by decide)) rfl mis_listed kis_listed bis_listed .nil pass0 (pa_cons (pv 1) pa_nil)))) (pw_or (pt_not (pt_val (pe_call Ois_between (hr.mono (by decide)) rfl mis_between kis_between bis_between .nil pass0 (pa_cons (pe_callB call_len_seq (by rfl) B.len (by decide +kernel) (pa_cons (pv 1) pa_nil)) (pa_cons pe_int (pa_cons (pv 2) pa_nil)))))) (pw_or1 (pt_not (pt_val (pe_call Oare_numbers hr rfl mare_numbers kare_numbers bare_numbers .nil pass0 (pa_cons (pv 0) (pa_cons (pv 1) pa_nil)))))))))
    (pss_one (ps_ret pe_bl)) pss_nil)
  (pss_cons (ps_set (i := 3) sc_go_on.nd rfl (by first | exact Or.inl rfl | exact Or.inr rfl) (pe_meth0 (pv 0) WK.cl tWeb_ties OWeb_ties (hr.mono (by decide)) bWeb_ties .nil pass0))
  (pss_cons (ps_for PassesOwn.never rfl (pi_range2 (by rfl) B.range (pa_cons pe_int (pa_cons (pe_callB call_len_seq (by rfl) B.len (by decide +kernel) (pa_cons (pv 1) pa_nil)) pa_nil))) (pg_name (i := 4) sc_go_on.nd rfl (by first | exact Or.inl rfl | exact Or.inr rfl))
    (pss_one (ps_if (pt_cmpR op_ne (pe_ix ix_tup (pe_ix ix_list (pv 3) (pe_ix ix_seq (pv 1) (pv 4) (fun _ _ => rfl)) (fun _ _ => rfl)) pe_int (fun _ _ => rfl)) (pe_ix ix_tup (pe_ix ix_list (pv 3) (pe_ix ix_seq (pv 1) (pe_op op_sub (pv 4) pe_int) (fun _ _ => rfl)) (fun _ _ => rfl)) pe_int (fun _ _ => rfl)) (nomark _))
    (pss_one (ps_ret pe_bl)) pss_nil)))
  (pss_one (ps_ret pe_bl))))), ?_⟩
  have h0 := hc.n0
  refine ⟨_, rfl, s, rfl, hs.imp (fun h => ⟨_, h⟩) (fun h => ⟨_, h⟩), fun H1 hS1 => ⟨_, rfl, iteF ?_⟩⟩
  refine ⟨_, rfl, s, _, rfl, (hs.same hS1).seq, _, rfl, (R.length : Int), 1, m, ?_, by omega, hm, _, rfl, iteF ?_⟩
  · rw [List.length_map]
    rfl
  refine ⟨_, rfl, _, rfl, a, N, ts, s, R, rfl, hw.same hS1, hs.same hS1, hc.num, fun H2 hS2 => ⟨_, rfl, iteF ?_⟩⟩
  have hw2 := (hw.same hS1).same hS2
  obtain ⟨dx, tl, fl, ol, g1, _⟩ := id hw2
  refine ⟨_, rfl, a, dx, _, rfl, g1, wf_no _ _ _ _ (by decide +kernel) (by decide +kernel) (by decide +kernel) (by decide +kernel), a, N, ts, rfl, hw2, fun H3 l nl hS3 hT => ?_⟩
  have hs3 := ((hs.same hS1).same hS2).same hS3
  refine ⟨_, rfl, s, _, rfl, hs3.seq, _, _, rfl, ⟨by omega, by omega, by omega, by rw [List.length_map]; omega⟩, ?_⟩
  rw [List.length_map, show ((R.length : Int) - 1).toNat = R.length - 1 by omega]
  refine for_range (lo := 1) (n := R.length - 1) (fun i σ H' => H' = H3 ∧ ∃ v, σ = [some (.ref a), some (.ref s), some (.int m), some (.ref l), v]) ⟨rfl, none, rfl⟩ ?_ ?_
  · rintro i σ H4 hi ⟨rfl, v, rfl⟩
    rw [show (1 : Int) + (i : Int) = ((i + 1 : Nat) : Int) by omega]
    obtain ⟨x, y, e, f, e1, e2, e3, e4, e5⟩ := hc.on i (by omega)
    obtain ⟨xs, p, k1, k2, k3⟩ := hT.at_ e4
    obtain ⟨xs', p', k1', k2', k3'⟩ := hT.at_ e3
    refine ⟨_, rfl, _, rfl, _, rfl, hs3.ix (iv_at e2) ⟨_, _, _, _, rfl, rfl, SqL.of k1, k2, _, _, _, _, rfl, rfl, SqT.of k3, rfl, ?_⟩⟩
    refine ⟨_, rfl, _, rfl, _, rfl, _, _, rfl, rfl, hs3.ix (by rw [show ((i + 1 : Nat) : Int) - 1 = (i : Int) by omega]; exact iv_at e1) ⟨_, _, _, _, rfl, rfl, SqL.of k1', k2', _, _, _, _, rfl, rfl, SqT.of k3', rfl, rfl, _, rfl, ?_⟩⟩
    refine iteNot' (by rw [e5]) ⟨rfl, _, rfl⟩
  · rintro σ H4 ⟨rfl, v, rfl⟩
    exact q H4 ((hS1.trans hS2).trans hS3)
def spis_round (_ : PySem.W.Frag) (C _ : Addr) : Sp := fun vs H Q _ => ∃ a N ts s R, vs = [.ref a, .ref s] ∧ WebAt C a N ts H ∧ SeqAt H s R ∧ Tour ts R ∧ ∀ H', Same H H' → Q (.bl true) H'
theorem okis_round (D : Def K mg "is_round" sis_round ["web", "value"]) (B : Bs mg) (Glb : Glo mg) (WK : WebK K mg C) (PK : PieceK K mg C2)
    (hneed_web : Good P w K mg base "need_web" sneed_web ["web"] 3 (spneed_web K C C2))
    (h_go_on : Good P w K mg base "_go_on" s_go_on ["web", "value", "longest"] 5 (sp_go_on K C C2))
    (hWeb_ties : GoodM P w K mg base C "ties" "Web.ties" sWeb_ties ["self"] 1 (spWeb_ties K C C2)) :
    Good P w K mg base "is_round" sis_round ["web", "value"] 6 (spis_round K C C2) := by
  refine D.good fun f fd F => ?_
  obtain ⟨fneed_web, dneed_web, Oneed_web, mneed_web, kneed_web, bneed_web, Fneed_web⟩ := hneed_web
  obtain ⟨f_go_on, d_go_on, O_go_on, m_go_on, k_go_on, b_go_on, F_go_on⟩ := h_go_on
  obtain ⟨fWeb_ties, dWeb_ties, OWeb_ties, tWeb_ties, bWeb_ties, FWeb_ties⟩ := hWeb_ties
  refine F.ok scis_round (fun vs H Q E h => ?_) (fun cdv A outer s H vs Q E hr h => ?_)
  · obtain ⟨a, N, ts, s, R, rfl, hw, hs, ht, q⟩ := h
    first | rfl | (rcases h with ⟨_, _, rfl, _⟩ | ⟨_, rfl, _⟩ <;> rfl)
  obtain ⟨a, N, ts, s, R, rfl, hw, hs, ht, q⟩ := h
  refine ⟨_, (pss_cons (ps_expr (pe_call Oneed_web (hr.mono (by decide)) rfl mneed_web kneed_web bneed_web .nil pass0 (pa_cons (pv 0) pa_nil)))
  (pss_cons (ps_if (pt_not (pt_val (pe_call O_go_on hr rfl m_go_on k_go_on b_go_on .nil pass0 (pa_cons (pv 0) (pa_cons (pv 1) (pa_cons (pe_globI Glb.LONGEST_ROUND) pa_nil))))))
    (pss_one (ps_ret pe_bl)) pss_nil)
  (pss_cons (ps_set (i := 2) scis_round.nd rfl (by first | exact Or.inl rfl | exact Or.inr rfl) (pe_meth0 (pv 0) WK.cl tWeb_ties OWeb_ties (hr.mono (by decide)) bWeb_ties .nil pass0))
  (pss_one (ps_ret (pe_cmpR op_eq (pe_ix ix_tup (pe_ix ix_list (pv 2) (pe_ix ix_seq (pv 1) pe_int (fun _ _ => rfl)) (fun _ _ => rfl)) pe_int (fun _ _ => rfl)) (pe_ix ix_tup (pe_ix ix_list (pv 2) (pe_ix ix_seq (pv 1) (pe_un un_neg pe_int) (fun _ _ => rfl)) (fun _ _ => rfl)) pe_int (fun _ _ => rfl)) (nomark _))))))), ?_⟩
  have h0 := ht.ch.n0
  have h1 := ht.n1
  refine ⟨_, rfl, a, N, ts, rfl, hw, _, rfl, _, rfl, a, N, ts, s, R, 200000, rfl, hw, hs, ht.ch, by omega, h1, fun H1 hS1 => ⟨_, rfl, iteF ?_⟩⟩
  have hw2 := hw.same hS1
  obtain ⟨dx, tl, fl, ol, g1, _⟩ := id hw2
  refine ⟨_, rfl, a, dx, _, rfl, g1, wf_no _ _ _ _ (by decide +kernel) (by decide +kernel) (by decide +kernel) (by decide +kernel), a, N, ts, rfl, hw2, fun H3 l nl hS3 hT => ?_⟩
  have hs3 := (hs.same hS1).same hS3
  obtain ⟨x, y, e, f, e1, e2, e3, e4, e5⟩ := ht.back
  obtain ⟨xs, p, k1, k2, k3⟩ := hT.at_ e3
  obtain ⟨xs', p', k1', k2', k3'⟩ := hT.at_ e4
  refine ⟨_, rfl, _, rfl, hs3.ix (iv_at (j := 0) e1) ⟨_, _, _, _, rfl, rfl, SqL.of k1, k2, _, _, _, _, rfl, rfl, SqT.of k3, rfl, ?_⟩⟩
  refine ⟨_, rfl, _, rfl, _, rfl, hs3.ix (b := y) ?_ ⟨_, _, _, _, rfl, rfl, SqL.of k1', k2', _, _, _, _, rfl, rfl, SqT.of k3', rfl, rfl, ?_⟩⟩
  · exact iv_back e2
  · exact bl_true (by rw [e5]) (q H3 (hS1.trans hS3))
def spneed_tour (_ : PySem.W.Frag) (C _ : Addr) : Sp := fun vs H Q _ => ∃ a N ts s R, vs = [.ref a, .ref s] ∧ WebAt C a N ts H ∧ SeqAt H s R ∧ Tour ts R ∧ ∀ H', Same H H' → Q .non H'
theorem okneed_tour (D : Def K mg "need_tour" sneed_tour ["web", "tour"]) (B : Bs mg) (Glb : Glo mg) (WK : WebK K mg C) (PK : PieceK K mg C2)
    (his_round : Good P w K mg base "is_round" sis_round ["web", "value"] 6 (spis_round K C C2)) :
    Good P w K mg base "need_tour" sneed_tour ["web", "tour"] 7 (spneed_tour K C C2) := by
  refine D.good fun f fd F => ?_
  obtain ⟨fis_round, dis_round, Ois_round, mis_round, kis_round, bis_round, Fis_round⟩ := his_round
  refine F.ok scneed_tour (fun vs H Q E h => ?_) (fun cdv A outer s H vs Q E hr h => ?_)
  · obtain ⟨a, N, ts, s, R, rfl, hw, hs, ht, q⟩ := h
    first | rfl | (rcases h with ⟨_, _, rfl, _⟩ | ⟨_, rfl, _⟩ <;> rfl)
  obtain ⟨a, N, ts, s, R, rfl, hw, hs, ht, q⟩ := h
  refine ⟨_, (pss_one (ps_if (pt_not (pt_val (pe_call Ois_round hr rfl mis_round kis_round bis_round .nil pass0 (pa_cons (pv 0) (pa_cons (pv 1) pa_nil)))))
    (pss_one ps_never) pss_nil)), ?_⟩
  exact ⟨_, rfl, _, rfl, a, N, ts, s, R, rfl, hw, hs, ht, fun H1 hS1 => ⟨_, rfl, iteF (q H1 hS1)⟩⟩
end
end My
namespace My
open PySem L2 PyProof.Rows
theorem of_a : Str.ofString "a" = ⟨#[97]⟩ := by decide +kernel
theorem of_z : Str.ofString "z" = ⟨#[122]⟩ := by decide +kernel
theorem not_lt_one {a b : Nat} (h : b ≤ a) : ¬ ((⟨#[a]⟩ : Str).cps.toList < (⟨#[b]⟩ : Str).cps.toList) := by
  show ¬ ([a] < [b])
  rw [List.cons_lt_cons_iff]
  rintro (z | ⟨_, z⟩)
  · omega
  · exact absurd z (List.lt_irrefl [])
/-- a text -/
structure OkT (x : Str) : Prop where
  len : x.length ≤ 400
  let_ : ∀ c ∈ x.cps.toList, 97 ≤ c ∧ c ≤ 122
theorem line400 {n : Nat} (h : n ≤ 400) : n ≤ sizeLine := Nat.le_trans h (by decide)
theorem ref_at {ts : List Addr} {i : Nat} {v : V} (h : (ts.map V.ref)[i]? = some v) : ∃ p, ts[i]? = some p ∧ v = .ref p := by
  rw [List.getElem?_map] at h
  cases e : ts[i]? with
  | none => rw [e] at h; cases h
  | some p => rw [e] at h; exact ⟨p, rfl, (Option.some.inj h).symm⟩
theorem str_at {xs : List Str} {i : Nat} {v : V} (h : (xs.map V.str)[i]? = some v) : ∃ x, xs[i]? = some x ∧ v = .str x := by
  rw [List.getElem?_map] at h
  cases e : xs[i]? with
  | none => rw [e] at h; cases h
  | some p => rw [e] at h; exact ⟨p, rfl, (Option.some.inj h).symm⟩
theorem take_snoc {α : Type} {L : List α} {i : Nat} {e : α} (h : L[i]? = some e) : L.take (i + 1) = L.take i ++ [e] := by rw [List.take_succ, h]; rfl
abbrev pc (x : Str) (s p : Nat) : Str := cutS x (some (p : Int)) (some ((p : Int) + (s : Int)))
def pcsN (x : Str) (s : Nat) : Nat → List Str
  | 0 => []
  | n + 1 => pcsN x s n ++ [pc x s n]
theorem pcsN_len (x : Str) (s : Nat) : ∀ n, (pcsN x s n).length = n
  | 0 => rfl
  | n + 1 => by unfold pcsN; rw [List.length_append, pcsN_len x s n]; rfl
abbrev pcs (x : Str) (s : Nat) : List Str := pcsN x s (x.length + 1 - s)
theorem T_len (l : List Nat) : (⟨l.toArray⟩ : Str).length = l.length := by simp [Str.length]
theorem T_line {l : List Nat} (h : l.length ≤ 1000) : (⟨l.toArray⟩ : Str).length ≤ sizeLine := by
  rw [T_len]
  exact Nat.le_of_lt (small1000 h)
theorem T_app (a b : List Nat) : (⟨a.toArray⟩ : Str) ++ (⟨b.toArray⟩ : Str) = ⟨(a ++ b).toArray⟩ := by
  exact congrArg Str.mk (show a.toArray ++ b.toArray = (a ++ b).toArray by simp)
theorem T_inj {a b : List Nat} : T a = T b ↔ a = b := by
  constructor
  · intro h
    have h2 : (⟨a.toArray⟩ : Str) = ⟨b.toArray⟩ := V.str.inj h
    have h3 : a.toArray = b.toArray := Str.mk.inj h2
    simpa using congrArg Array.toList h3
  · rintro rfl
    rfl
theorem T_nil : Str.ofString "" = ⟨([] : List Nat).toArray⟩ := by decide +kernel
theorem at_nat {l : List Nat} {i c : Nat} (h : l[i]? = some c) : atI (⟨l.toArray⟩ : Str).cps.toList (i : Int) = some c := by
  show atI l.toArray.toList (i : Int) = some c
  exact atI_nat (by simpa using h)
theorem cut_from {l : List Nat} {p : Nat} : cutS ⟨l.toArray⟩ (some (p : Int)) none = ⟨(l.drop p).toArray⟩ := by
  unfold cutS
  rw [T_len, HT.sIx_nat, HT.sIx_none]
  refine congrArg Str.mk ?_
  show ((l.toArray.toList.drop (min p l.length)).take (l.length - min p l.length)).toArray = _
  rw [List.toList_toArray]
  congr 1
  rw [List.take_of_length_le (by rw [List.length_drop]; omega)]
  rcases Nat.le_total p l.length with h | h
  · rw [Nat.min_eq_left h]
  · rw [Nat.min_eq_right h, List.drop_eq_nil_of_le h, List.drop_eq_nil_of_le (Nat.le_refl _)]
theorem cut_to {l : List Nat} {p : Nat} : cutS ⟨l.toArray⟩ none (some (p : Int)) = ⟨(l.take p).toArray⟩ := by
  unfold cutS
  rw [T_len, HT.sIx_nat, HT.sIx_none]
  refine congrArg Str.mk ?_
  show ((l.toArray.toList.drop 0).take (min p l.length - 0)).toArray = _
  rw [List.toList_toArray, List.drop_zero, Nat.sub_zero]
  congr 1
  rcases Nat.le_total p l.length with h | h
  · rw [Nat.min_eq_left h]
  · rw [Nat.min_eq_right h, List.take_of_length_le h, List.take_of_length_le (Nat.le_refl _)]
theorem join_T (l : List Nat) : Txt.join (Str.ofString "") (l.map fun c => (⟨#[c]⟩ : Str)) = ⟨l.toArray⟩ := by
  unfold Txt.join
  rw [PySem.StrLaws.glued_eq_join, T_nil]
  exact join_nil_signs ⟨l.toArray⟩
abbrev tS (l : List Nat) : Str := ⟨l.toArray⟩
theorem cutS_at (l : List Nat) (p s : Nat) : pc (tS l) s p = tS ((l.drop p).take s) := by
  unfold pc
  rw [show ((p : Int) + (s : Int)) = ((p + s : Nat) : Int) by omega]
  unfold cutS
  rw [T_len, HT.sIx_nat, HT.sIx_nat]
  refine congrArg Str.mk ?_
  show ((l.toArray.toList.drop (min p l.length)).take (min (p + s) l.length - min p l.length)).toArray = _
  rw [List.toList_toArray]
  congr 1
  rcases Nat.le_total p l.length with h | h
  · rw [Nat.min_eq_left h]
    rcases Nat.le_total (p + s) l.length with k | k
    · rw [Nat.min_eq_left k, show p + s - p = s by omega]
    · rw [Nat.min_eq_right k, List.take_of_length_le (by rw [List.length_drop]; exact Nat.le_refl _), List.take_of_length_le (by rw [List.length_drop]; omega)]
  · rw [Nat.min_eq_right h, List.drop_eq_nil_of_le h, List.drop_eq_nil_of_le (Nat.le_refl _)]
    simp
theorem pcsN_map (x : Str) (s : Nat) : ∀ n, pcsN x s n = (List.range n).map fun k => pc x s k
  | 0 => rfl
  | n + 1 => by
    unfold pcsN
    rw [pcsN_map x s n, List.range_succ, List.map_append]
    rfl
/-- the pieces of a ring, from place to place -/
theorem T_small {l : List Nat} (h : l.length ≤ 1000) : l.length ≤ sizeLine := Nat.le_trans h (by decide)
theorem tS_inj {a b : List Nat} (h : tS a = tS b) : a = b := by
  have := congrArg (fun v : Str => v.cps.toList) h
  simpa using this
theorem tS_lt {a b : List Nat} : sLt (tS a) (tS b) ↔ a < b := by
  unfold sLt
  simp
theorem cut_last (l : List Nat) : cutS (tS l) none (some (-1)) = tS l.dropLast := by
  unfold cutS
  rw [T_len, HT.sIx_none]
  refine congrArg Str.mk ?_
  have e : HT.sIx l.length l.length (some (-1)) = l.length - 1 := by
    show (if (-1 : Int) < 0 then ((-1 : Int) + (l.length : Int)).toNat else min (-1 : Int).toNat l.length) = _
    rw [if_pos (by decide)]
    omega
  rw [e]
  show ((l.toArray.toList.drop 0).take (l.length - 1 - 0)).toArray = _
  rw [List.toList_toArray, List.drop_zero, Nat.sub_zero, List.dropLast_eq_take]
/-- a list or a tuple of texts -/
def SqS (H : Hp) (l : Addr) (L : List Str) : Prop := H l = some (.lst (L.map V.str)) ∨ H l = some (.tup (L.map V.str))
theorem SqS.same {H H' : Hp} {l : Addr} {L : List Str} (h : SqS H l L) (s : Same H H') : SqS H' l L := h.imp (s _ _) (s _ _)
theorem SqS.seq {K : PySem.W.Frag} {H : Hp} {l : Addr} {L : List Str} (h : SqS H l L) : SqL K H l (L.map V.str) ∨ SqT K H l (L.map V.str) := h.imp SqL.of SqT.of
/-- the words of pieces: their beginnings and their ends -/
abbrev fst_ (x : Str) : Str := cutS x none (some (-1))
abbrev lst_ (x : Str) : Str := cutS x (some 1) none
def IsWords (L M : List Str) : Prop := M.Pairwise sLt ∧ ∀ k, k ∈ M ↔ k ∈ L.map fst_ ++ L.map lst_
theorem IsWords.unique {L M N : List Str} (h : IsWords L M) (k : IsWords L N) : M = N :=
  strict_ext (r := sLt) (fun a => sLt_irr a) (fun _ _ _ => sLt_trans) h.1 k.1 fun x => (h.2 x).trans (k.2 x).symm
def OkP (L : List Str) (s : Nat) : Prop := 1 ≤ L.length ∧ L.length ≤ 30 ∧ (∀ x ∈ L, OkT x ∧ x.length = s) ∧ 2 ≤ s ∧ s ≤ 8 ∧ L.Nodup
section
variable {P : Program} {w : World} {K : PySem.W.Frag} {mg : Str → Option Value} {base : Heap} {C C2 : Addr}
def spis_size (_ : PySem.W.Frag) (_ _ : Addr) : Sp := fun vs H Q _ => ∃ n : Nat, vs = [.int (n : Int)] ∧ 2 ≤ n ∧ n ≤ 8 ∧ Q (.bl true) H
theorem okis_size (D : Def K mg "is_size" sis_size ["value"]) (B : Bs mg) (Glb : Glo mg) (WK : WebK K mg C) (PK : PieceK K mg C2)
    (his_between : Good P w K mg base "is_between" sis_between ["value", "least", "most"] 2 (spis_between K C C2)) :
    Good P w K mg base "is_size" sis_size ["value"] 3 (spis_size K C C2) := by
  refine D.good fun f fd F => ?_
  obtain ⟨fis_between, dis_between, Ois_between, mis_between, kis_between, bis_between, Fis_between⟩ := his_between
  refine F.ok scis_size (fun vs H Q E h => ?_) (fun cdv A outer s H vs Q E hr h => ?_)
  · obtain ⟨n, rfl, h1, h2, q⟩ := h
    first | rfl | (rcases h with ⟨_, _, rfl, _⟩ | ⟨_, rfl, _⟩ <;> rfl)
  obtain ⟨n, rfl, h1, h2, q⟩ := h
  refine ⟨_, (pss_one (ps_ret (pe_call Ois_between hr rfl mis_between kis_between bis_between .nil pass0 (pa_cons (pv 0) (pa_cons pe_int (pa_cons pe_int pa_nil)))))), ?_⟩
  exact ⟨_, rfl, n, 2, 8, rfl, by omega, by omega, q⟩
def spis_letter (_ : PySem.W.Frag) (_ _ : Addr) : Sp := fun vs H Q _ => ∃ c : Nat, vs = [.str ⟨#[c]⟩] ∧ 97 ≤ c ∧ c ≤ 122 ∧ Q (.bl true) H
theorem okis_letter (D : Def K mg "is_letter" sis_letter ["sign"]) (B : Bs mg) (Glb : Glo mg) (WK : WebK K mg C) (PK : PieceK K mg C2) :
    Good P w K mg base "is_letter" sis_letter ["sign"] 1 (spis_letter K C C2) := by
  refine D.good fun f fd F => ?_
  refine F.ok scis_letter (fun vs H Q E h => ?_) (fun cdv A outer s H vs Q E hr h => ?_)
  · obtain ⟨c, rfl, h1, h2, q⟩ := h
    first | rfl | (rcases h with ⟨_, _, rfl, _⟩ | ⟨_, rfl, _⟩ <;> rfl)
  obtain ⟨c, rfl, h1, h2, q⟩ := h
  refine ⟨_, (pss_one (ps_ret (pe_chain op_le_str op_le_str pe_str (pv 0) pe_str))), ?_⟩
  have k1 : ¬ ((⟨#[c]⟩ : Str).cps.toList < (Str.ofString "a").cps.toList) := by
    rw [of_a]
    exact not_lt_one h1
  have k2 : ¬ ((Str.ofString "z").cps.toList < (⟨#[c]⟩ : Str).cps.toList) := by
    rw [of_z]
    exact not_lt_one h2
  refine ⟨_, rfl, _, _, rfl, rfl, _, rfl, iteNot k1 ⟨_, _, rfl, rfl, ?_⟩⟩
  show Q (.bl (!decide _)) _
  rw [decide_eq_false k2]
  exact q
def spis_text (_ : PySem.W.Frag) (_ _ : Addr) : Sp := fun vs H Q _ => ∃ x, vs = [.str x] ∧ OkT x ∧ Q (.bl true) H
theorem okis_text (D : Def K mg "is_text" sis_text ["value"]) (B : Bs mg) (Glb : Glo mg) (WK : WebK K mg C) (PK : PieceK K mg C2)
    (his_letter : Good P w K mg base "is_letter" sis_letter ["sign"] 1 (spis_letter K C C2)) :
    Good P w K mg base "is_text" sis_text ["value"] 2 (spis_text K C C2) := by
  refine D.good fun f fd F => ?_
  obtain ⟨fis_letter, dis_letter, Ois_letter, mis_letter, kis_letter, bis_letter, Fis_letter⟩ := his_letter
  refine F.ok scis_text (fun vs H Q E h => ?_) (fun cdv A outer s H vs Q E hr h => ?_)
  · obtain ⟨x, rfl, hl, q⟩ := h
    first | rfl | (rcases h with ⟨_, _, rfl, _⟩ | ⟨_, rfl, _⟩ <;> rfl)
  obtain ⟨x, rfl, hl, q⟩ := h
  refine ⟨_, (pss_cons (ps_if (PW.pt (pw_or (pt_not (pt_val (pe_callB call_isi (by rfl) B.isinstance (by decide +kernel) (pa_cons (pv 0) (pa_cons (pe_bltn (v := .ty "str") (by rfl) B.str (by decide +kernel) rfl) pa_nil))))) (pw_or1 (pt_cmpR op_gt (pe_callB call_len_str (by rfl) B.len (by decide +kernel) (pa_cons (pv 0) pa_nil)) (pe_globI Glb.MOST_LETTERS) (nomark _)))))
    (pss_one (ps_ret pe_bl)) pss_nil)
  (pss_one (ps_ret (pe_drop (pe_callB (cr_all rfl) (by rfl) B.all (by decide +kernel) (pa_cons (pe_lc (own := [("sign", 1)]) (g := gName 1) (by rfl) scis_text.nd (pi_str (pv 0)) (blkOk_by (own := [("sign", 1)]) (N := ["value", "sign"]) (sc := defScope sis_text) (by decide +kernel)) (fun _ _ _ _ _ => (pg_name (i := 1) scis_text.nd rfl (by first | exact Or.inl rfl | exact Or.inr rfl))) (fun _ _ _ _ _ => pts_nil) (fun _ _ _ _ _ => (pe_call Ois_letter hr rfl mis_letter kis_letter bis_letter .nil pass0 (pa_cons (pv 1) pa_nil)))) pa_nil)))))), ?_⟩
  have hlen := hl.len
  refine ⟨_, rfl, _, _, _, _, true, rfl, .ty _, .base (.str _), kit_ty (by decide +kernel), _, rfl, iteF ⟨_, rfl, _, rfl, line400 hlen, _, _, rfl, rfl, _, rfl, iteNo (by omega) ?_⟩⟩
  refine ⟨_, rfl, _, rfl, fun D nD => lc_it walk_str (fun i H' => H' = upd H D (.lst ((List.replicate i true).map V.bl))) rfl (fun _ _ _ _ => trivial) ?_ ?_⟩
  · rintro i y H1 H2 hi rfl ⟨rfl, c, hc, rfl⟩
    have hm := hl.let_ c (by
      have := Array.mem_of_getElem? hc
      simpa using this)
    refine ⟨rfl, _, rfl, c, rfl, hm.1, hm.2, _, upd_same, ?_, ?_⟩
    · rw [List.length_map, List.length_replicate]
      have hi2 : i < x.length := hi
      exact Nat.lt_of_lt_of_le (by omega : i < 1000) (by decide)
    · rw [upd_upd, List.replicate_succ', List.map_append]
      rfl
  · rintro H1 rfl
    refine ⟨D, _, rfl, SqL.of upd_same, D, _, H, rfl, nD, bl_is1 ?_ q⟩
    rw [List.all_eq_true]
    intro b hb
    rw [List.eq_of_mem_replicate hb]
    rfl
def sppieces_along (_ : PySem.W.Frag) (_ _ : Addr) : Sp := fun vs H Q _ => ∃ x s, vs = [.str x, .int ((s : Nat) : Int)] ∧ x.length ≤ 400 ∧ s ≤ 8 ∧ ∀ H' l, Same H H' → H l = none → H' l = some (.lst ((pcs x s).map V.str)) → Q (.ref l) H'
theorem okpieces_along (D : Def K mg "pieces_along" spieces_along ["text", "size"]) (B : Bs mg) (Glb : Glo mg) (WK : WebK K mg C) (PK : PieceK K mg C2) :
    Good P w K mg base "pieces_along" spieces_along ["text", "size"] 1 (sppieces_along K C C2) := by
  refine D.good fun f fd F => ?_
  refine F.ok scpieces_along (fun vs H Q E h => ?_) (fun cdv A outer s H vs Q E hr h => ?_)
  · obtain ⟨x, s, rfl, hx, hs, q⟩ := h
    first | rfl | (rcases h with ⟨_, _, rfl, _⟩ | ⟨_, rfl, _⟩ <;> rfl)
  obtain ⟨x, s, rfl, hx, hs, q⟩ := h
  refine ⟨_, (pss_one (ps_ret (pe_lc (own := [("place", 2)]) (g := gName 2) (by rfl) scpieces_along.nd (pi_range1 (by rfl) B.range (pa_cons (pe_op op_add (pe_op op_sub (pe_callB call_len_str (by rfl) B.len (by decide +kernel) (pa_cons (pv 0) pa_nil)) (pv 1)) pe_int) pa_nil)) (blkOk_by (own := [("place", 2)]) (N := ["text", "size", "place"]) (sc := defScope spieces_along) (by decide +kernel)) (fun _ _ _ _ _ => (pg_name (i := 2) scpieces_along.nd rfl (by first | exact Or.inl rfl | exact Or.inr rfl))) (fun _ _ _ _ _ => pts_nil) (fun _ _ _ _ _ => (pe_slice sl_str (pv 0) (po_some (pv 2)) (po_some (pe_op op_add (pv 2) (pv 1)))))))), ?_⟩
  refine ⟨_, rfl, _, rfl, line400 hx, _, rfl, _, _, rfl, rfl, _, _, rfl, rfl, _, rfl, by omega, by omega, fun D nD => ?_⟩
  rw [show ((x.length : Nat) : Int) - (s : Int) + 1 = ((x.length : Nat) : Int) + 1 - (s : Int) by omega]
  rw [show (((x.length : Nat) : Int) + 1 - (s : Int)).toNat = x.length + 1 - s by omega]
  refine lc_range (lo := 0) (n := x.length + 1 - s) (fun i H' => Same H H' ∧ H' D = some (.lst ((pcsN x s i).map V.str))) ⟨same_new nD _, upd_same⟩ ?_ ?_
  · rintro i H1 hi ⟨hS, hD⟩
    rw [Int.zero_add]
    refine ⟨rfl, _, rfl, _, rfl, _, rfl, _, rfl, _, rfl, _, _, rfl, rfl, _, rfl, _, rfl, line400 hx, _, hD, ?_, same_upd hS nD, ?_⟩
    · rw [List.length_map, pcsN_len]
      exact Nat.lt_of_le_of_lt (by omega : i ≤ 1000) (by decide)
    · rw [upd_same, show pcsN x s (i + 1) = pcsN x s i ++ [pc x s i] from rfl, List.map_append]
      rfl
  · rintro H1 ⟨hS, hD⟩
    exact q H1 D hS nD hD
/-- the texts of the readings and their numbers -/
def spwords_of (_ : PySem.W.Frag) (_ _ : Addr) : Sp := fun vs H Q _ => ∃ l L, vs = [.ref l] ∧ SqS H l L ∧ L.length ≤ 80 ∧ (∀ x ∈ L, x.length ≤ 8) ∧ ∀ (H' : Hp) (p : Addr) (M : List Str), Same H H' → H p = none → H' p = some (.lst (M.map V.str)) → M.length ≤ 2 * L.length → IsWords L M → Q (.ref p) H'
theorem okwords_of (D : Def K mg "words_of" swords_of ["pieces"]) (B : Bs mg) (Glb : Glo mg) (WK : WebK K mg C) (PK : PieceK K mg C2) :
    Good P w K mg base "words_of" swords_of ["pieces"] 1 (spwords_of K C C2) := by
  refine D.good fun f fd F => ?_
  refine F.ok scwords_of (fun vs H Q E h => ?_) (fun cdv A outer s H vs Q E hr h => ?_)
  · obtain ⟨l, L, rfl, hl, hlen, hsm, q⟩ := h
    first | rfl | (rcases h with ⟨_, _, rfl, _⟩ | ⟨_, rfl, _⟩ <;> rfl)
  obtain ⟨l, L, rfl, hl, hlen, hsm, q⟩ := h
  refine ⟨_, (pss_one (ps_ret (pe_callB (cr_sortTx rfl hr.units) (by rfl) B.sorted (by decide +kernel) (pa_cons (pe_callTy (cr_setTx rfl) (by rfl) B.set (by decide +kernel) (pa_cons (pe_op op_cat (pe_lc (own := [("piece", 1)]) (g := gName 1) (by rfl) scwords_of.nd (pi_or (pi_list (pv 0)) (pi_tup (pv 0))) (blkOk_by (own := [("piece", 1)]) (N := ["pieces", "piece"]) (sc := defScope swords_of) (by decide +kernel)) (fun _ _ _ _ _ => (pg_name (i := 1) scwords_of.nd rfl (by first | exact Or.inl rfl | exact Or.inr rfl))) (fun _ _ _ _ _ => pts_nil) (fun _ _ _ _ _ => (pe_slice sl_str (pv 1) po_none (po_some (pe_un un_neg pe_int))))) (pe_lc (own := [("piece", 1)]) (g := gName 1) (by rfl) scwords_of.nd (pi_or (pi_list (pv 0)) (pi_tup (pv 0))) (blkOk_by (own := [("piece", 1)]) (N := ["pieces", "piece"]) (sc := defScope swords_of) (by decide +kernel)) (fun _ _ _ _ _ => (pg_name (i := 1) scwords_of.nd rfl (by first | exact Or.inl rfl | exact Or.inr rfl))) (fun _ _ _ _ _ => pts_nil) (fun _ _ _ _ _ => (pe_slice sl_str (pv 1) (po_some pe_int) po_none)))) pa_nil)) pa_nil)))), ?_⟩
  rcases hl with hh | hh
  · refine .inl ⟨_, rfl, l, rfl, ⟨_, SqL.of hh⟩, fun D1 nD1 => ?_⟩
    refine lc_list (K := K) (a := l) (xs := L.map V.str) (fun j H' => Same H H' ∧ H' D1 = some (.lst (((L.take j).map fun x => cutS x none (some (-1))).map V.str))) ⟨same_new nD1 _, upd_same⟩ (fun j H' _ ⟨hS', _⟩ => SqL.of (hS' _ _ hh)) ?_ ?_
    · rintro j y H1 hy ⟨hS1, hD1⟩
      obtain ⟨x, hx, rfl⟩ := str_at hy
      have hj := (List.getElem?_eq_some_iff.mp hx).1
      have h8 := hsm x (List.mem_of_getElem? hx)
      refine ⟨rfl, _, rfl, _, rfl, _, rfl, _, rfl, line400 (by omega), _, hD1, ?_, same_upd hS1 nD1, ?_⟩
      · rw [List.length_map, List.length_map, List.length_take]
        exact Nat.lt_of_le_of_lt (Nat.min_le_left _ _) (Nat.lt_of_lt_of_le (by omega : j < 1000) (by decide))
      · rw [upd_same, take_snoc hx, List.map_append, List.map_append]
        rfl
    rintro H1 ⟨hS1, hD1⟩
    rw [List.length_map, List.take_length] at hD1
    refine .inl ⟨_, rfl, l, rfl, ⟨_, SqL.of (hS1 _ _ hh)⟩, fun D2 nD2 => ?_⟩
    refine lc_list (K := K) (a := l) (xs := L.map V.str) (fun j H' => Same H1 H' ∧ H' D2 = some (.lst (((L.take j).map fun x => cutS x (some 1) none).map V.str))) ⟨same_new nD2 _, upd_same⟩ (fun j H' _ ⟨hS', _⟩ => SqL.of (hS' _ _ (hS1 _ _ hh))) ?_ ?_
    · rintro j y H2 hy ⟨hS2, hD2⟩
      obtain ⟨x, hx, rfl⟩ := str_at hy
      have hj := (List.getElem?_eq_some_iff.mp hx).1
      have h8 := hsm x (List.mem_of_getElem? hx)
      refine ⟨rfl, _, rfl, _, rfl, _, rfl, line400 (by omega), _, hD2, ?_, same_upd hS2 nD2, ?_⟩
      · rw [List.length_map, List.length_map, List.length_take]
        exact Nat.lt_of_le_of_lt (Nat.min_le_left _ _) (Nat.lt_of_lt_of_le (by omega : j < 1000) (by decide))
      · rw [upd_same, take_snoc hx, List.map_append, List.map_append]
        rfl
    rintro H2 ⟨hS2, hD2⟩
    rw [List.length_map, List.take_length] at hD2
    have hS02 := hS1.trans hS2
    refine ⟨D1, D2, _, _, rfl, rfl, hS2 _ _ hD1, hD2, ?_, fun p np => ?_⟩
    · rw [List.length_map, List.length_map, List.length_map, List.length_map]
      exact line400 (by omega)
    have hS3 : Same H (upd H2 p (.lst (((L.map fun x => cutS x none (some (-1))).map V.str) ++ ((L.map fun x => cutS x (some 1) none).map V.str)))) := fun b o e => same_new np _ _ _ (hS02 _ _ e)
    have hp3 : (upd H2 p (.lst (((L.map fun x => cutS x none (some (-1))).map V.str) ++ ((L.map fun x => cutS x (some 1) none).map V.str)))) p = some (.lst (((L.map fun x => cutS x none (some (-1))) ++ (L.map fun x => cutS x (some 1) none)).map V.str)) := by rw [upd_same, List.map_append]
    generalize upd H2 p (.lst (((L.map fun x => cutS x none (some (-1))).map V.str) ++ ((L.map fun x => cutS x (some 1) none).map V.str))) = H3 at hS3 hp3
    have hxl : ((L.map fun x => cutS x none (some (-1))) ++ (L.map fun x => cutS x (some 1) none)).length = 2 * L.length := by
      rw [List.length_append, List.length_map, List.length_map]
      omega
    refine ⟨p, _, rfl, .inl (SqL.of hp3), by rw [hxl]; omega, fun sp n _ hle nsp => ⟨sp, _, n, rfl, upd_same, by rw [hxl] at hle; omega, fun M mp hPw hmem hM nmp => ?_⟩⟩
    refine q _ mp M (fun b o e => same_new nmp _ _ _ (same_new nsp _ _ _ (hS3 _ _ e))) (hS3.free ((same_new (o := TxO _ _ _ _) nsp).free nmp)) upd_same (by rw [hM, ← hxl]; exact hle) ⟨hPw, fun k => (hmem k).trans (by unfold hasT; exact decide_eq_true_iff)⟩
  · refine .inr ⟨_, rfl, l, rfl, ⟨_, SqT.of hh⟩, fun D1 nD1 => ?_⟩
    refine lc_tup (K := K) (a := l) (xs := L.map V.str) (fun j H' => Same H H' ∧ H' D1 = some (.lst (((L.take j).map fun x => cutS x none (some (-1))).map V.str))) ⟨same_new nD1 _, upd_same⟩ (fun j H' _ ⟨hS', _⟩ => SqT.of (hS' _ _ hh)) ?_ ?_
    · rintro j y H1 hy ⟨hS1, hD1⟩
      obtain ⟨x, hx, rfl⟩ := str_at hy
      have hj := (List.getElem?_eq_some_iff.mp hx).1
      have h8 := hsm x (List.mem_of_getElem? hx)
      refine ⟨rfl, _, rfl, _, rfl, _, rfl, _, rfl, line400 (by omega), _, hD1, ?_, same_upd hS1 nD1, ?_⟩
      · rw [List.length_map, List.length_map, List.length_take]
        exact Nat.lt_of_le_of_lt (Nat.min_le_left _ _) (Nat.lt_of_lt_of_le (by omega : j < 1000) (by decide))
      · rw [upd_same, take_snoc hx, List.map_append, List.map_append]
        rfl
    rintro H1 ⟨hS1, hD1⟩
    rw [List.length_map, List.take_length] at hD1
    refine .inr ⟨_, rfl, l, rfl, ⟨_, SqT.of (hS1 _ _ hh)⟩, fun D2 nD2 => ?_⟩
    refine lc_tup (K := K) (a := l) (xs := L.map V.str) (fun j H' => Same H1 H' ∧ H' D2 = some (.lst (((L.take j).map fun x => cutS x (some 1) none).map V.str))) ⟨same_new nD2 _, upd_same⟩ (fun j H' _ ⟨hS', _⟩ => SqT.of (hS' _ _ (hS1 _ _ hh))) ?_ ?_
    · rintro j y H2 hy ⟨hS2, hD2⟩
      obtain ⟨x, hx, rfl⟩ := str_at hy
      have hj := (List.getElem?_eq_some_iff.mp hx).1
      have h8 := hsm x (List.mem_of_getElem? hx)
      refine ⟨rfl, _, rfl, _, rfl, _, rfl, line400 (by omega), _, hD2, ?_, same_upd hS2 nD2, ?_⟩
      · rw [List.length_map, List.length_map, List.length_take]
        exact Nat.lt_of_le_of_lt (Nat.min_le_left _ _) (Nat.lt_of_lt_of_le (by omega : j < 1000) (by decide))
      · rw [upd_same, take_snoc hx, List.map_append, List.map_append]
        rfl
    rintro H2 ⟨hS2, hD2⟩
    rw [List.length_map, List.take_length] at hD2
    have hS02 := hS1.trans hS2
    refine ⟨D1, D2, _, _, rfl, rfl, hS2 _ _ hD1, hD2, ?_, fun p np => ?_⟩
    · rw [List.length_map, List.length_map, List.length_map, List.length_map]
      exact line400 (by omega)
    have hS3 : Same H (upd H2 p (.lst (((L.map fun x => cutS x none (some (-1))).map V.str) ++ ((L.map fun x => cutS x (some 1) none).map V.str)))) := fun b o e => same_new np _ _ _ (hS02 _ _ e)
    have hp3 : (upd H2 p (.lst (((L.map fun x => cutS x none (some (-1))).map V.str) ++ ((L.map fun x => cutS x (some 1) none).map V.str)))) p = some (.lst (((L.map fun x => cutS x none (some (-1))) ++ (L.map fun x => cutS x (some 1) none)).map V.str)) := by rw [upd_same, List.map_append]
    generalize upd H2 p (.lst (((L.map fun x => cutS x none (some (-1))).map V.str) ++ ((L.map fun x => cutS x (some 1) none).map V.str))) = H3 at hS3 hp3
    have hxl : ((L.map fun x => cutS x none (some (-1))) ++ (L.map fun x => cutS x (some 1) none)).length = 2 * L.length := by
      rw [List.length_append, List.length_map, List.length_map]
      omega
    refine ⟨p, _, rfl, .inl (SqL.of hp3), by rw [hxl]; omega, fun sp n _ hle nsp => ⟨sp, _, n, rfl, upd_same, by rw [hxl] at hle; omega, fun M mp hPw hmem hM nmp => ?_⟩⟩
    refine q _ mp M (fun b o e => same_new nmp _ _ _ (same_new nsp _ _ _ (hS3 _ _ e))) (hS3.free ((same_new (o := TxO _ _ _ _) nsp).free nmp)) upd_same (by rw [hM, ← hxl]; exact hle) ⟨hPw, fun k => (hmem k).trans (by unfold hasT; exact decide_eq_true_iff)⟩
def spare_pieces (_ : PySem.W.Frag) (_ _ : Addr) : Sp := fun vs H Q _ => ∃ l L, vs = [.ref l] ∧ SqS H l L ∧ 1 ≤ L.length ∧ L.length ≤ 30 ∧ (∀ x ∈ L, OkT x) ∧ (∃ s, 2 ≤ s ∧ s ≤ 8 ∧ ∀ x ∈ L, x.length = s) ∧ L.Nodup ∧ ∀ H', Same H H' → Q (.bl true) H'
theorem okare_pieces (D : Def K mg "are_pieces" sare_pieces ["value"]) (B : Bs mg) (Glb : Glo mg) (WK : WebK K mg C) (PK : PieceK K mg C2)
    (his_listed : Good P w K mg base "is_listed" sis_listed ["value"] 1 (spis_listed K C C2))
    (his_between : Good P w K mg base "is_between" sis_between ["value", "least", "most"] 2 (spis_between K C C2))
    (his_text : Good P w K mg base "is_text" sis_text ["value"] 2 (spis_text K C C2))
    (his_size : Good P w K mg base "is_size" sis_size ["value"] 3 (spis_size K C C2))
    (hwords_of : Good P w K mg base "words_of" swords_of ["pieces"] 1 (spwords_of K C C2)) :
    Good P w K mg base "are_pieces" sare_pieces ["value"] 4 (spare_pieces K C C2) := by
  refine D.good fun f fd F => ?_
  obtain ⟨fis_listed, dis_listed, Ois_listed, mis_listed, kis_listed, bis_listed, Fis_listed⟩ := his_listed
  obtain ⟨fis_between, dis_between, Ois_between, mis_between, kis_between, bis_between, Fis_between⟩ := his_between
  obtain ⟨fis_text, dis_text, Ois_text, mis_text, kis_text, bis_text, Fis_text⟩ := his_text
  obtain ⟨fis_size, dis_size, Ois_size, mis_size, kis_size, bis_size, Fis_size⟩ := his_size
  obtain ⟨fwords_of, dwords_of, Owords_of, mwords_of, kwords_of, bwords_of, Fwords_of⟩ := hwords_of
  refine F.ok scare_pieces (fun vs H Q E h => ?_) (fun cdv A outer s H vs Q E hr h => ?_)
  · obtain ⟨l, L, rfl, hl, h1, hlen, hok, ⟨s, hs1, hs2, hsz⟩, hnd, q⟩ := h
    first | rfl | (rcases h with ⟨_, _, rfl, _⟩ | ⟨_, rfl, _⟩ <;> rfl)
  obtain ⟨l, L, rfl, hl, h1, hlen, hok, ⟨s, hs1, hs2, hsz⟩, hnd, q⟩ := h
  refine ⟨_, (pss_cons (ps_if (PW.pt (pw_or (pt_not (pt_val (pe_call Ois_listed (hr.mono (by decide)) rfl mis_listed kis_listed bis_listed .nil pass0 (pa_cons (pv 0) pa_nil)))) (pw_or1 (pt_not (pt_val (pe_call Ois_between (hr.mono (by decide)) rfl mis_between kis_between bis_between .nil pass0 (pa_cons (pe_callB call_len_seq (by rfl) B.len (by decide +kernel) (pa_cons (pv 0) pa_nil)) (pa_cons pe_int (pa_cons (pe_globI Glb.MOST_PIECES) pa_nil)))))))))
    (pss_one (ps_ret pe_bl)) pss_nil)
  (pss_cons (ps_for PassesOwn.never rfl (pi_or (pi_list (pv 0)) (pi_tup (pv 0))) (pg_name (i := 1) scare_pieces.nd rfl (by first | exact Or.inl rfl | exact Or.inr rfl))
    (pss_one (ps_if (PW.pt (pw_or (pt_not (pt_val (pe_call Ois_text (hr.mono (by decide)) rfl mis_text kis_text bis_text .nil pass0 (pa_cons (pv 1) pa_nil)))) (pw_or (pt_not (pt_val (pe_call Ois_size hr rfl mis_size kis_size bis_size .nil pass0 (pa_cons (pe_callB call_len_str (by rfl) B.len (by decide +kernel) (pa_cons (pv 1) pa_nil)) pa_nil)))) (pw_or1 (pt_cmpR op_ne (pe_callB call_len_str (by rfl) B.len (by decide +kernel) (pa_cons (pv 1) pa_nil)) (pe_callB call_len_str (by rfl) B.len (by decide +kernel) (pa_cons (pe_ix ix_seq (pv 0) pe_int (fun _ _ => rfl)) pa_nil)) (nomark _))))))
    (pss_one (ps_ret pe_bl)) pss_nil)))
  (pss_one (ps_ret (pe_and (pe_cmpR op_eq (pe_callB cr_lenTx (by rfl) B.len (by decide +kernel) (pa_cons (pe_callTy (cr_setTx rfl) (by rfl) B.set (by decide +kernel) (pa_cons (pv 0) pa_nil)) pa_nil)) (pe_callB call_len_seq (by rfl) B.len (by decide +kernel) (pa_cons (pv 0) pa_nil)) (nomark _)) (pe_one (pe_cmpR op_le (pe_callB call_len_seq (by rfl) B.len (by decide +kernel) (pa_cons (pe_call Owords_of (hr.mono (by decide)) rfl mwords_of kwords_of bwords_of .nil pass0 (pa_cons (pv 0) pa_nil)) pa_nil)) (pe_globI Glb.MOST_WORDS) (nomark _)))))))), ?_⟩
  obtain ⟨x0, hx0⟩ : ∃ x, L[0]? = some x := ⟨L[0]'(by omega), List.getElem?_eq_getElem _⟩
  have hs0 := hsz x0 (List.mem_of_getElem? hx0)
  refine ⟨_, rfl, l, rfl, hl.imp (fun h => ⟨_, h⟩) (fun h => ⟨_, h⟩), fun H1 hS1 => ⟨_, rfl, iteF ?_⟩⟩
  have hl1 : SqS H1 l L := hl.imp (hS1 _ _) (hS1 _ _)
  refine ⟨_, rfl, l, _, rfl, hl1.imp (fun h => SqL.of h) (fun h => SqT.of h), _, 1, 80, rfl, by rw [List.length_map]; omega, by rw [List.length_map]; omega, _, rfl, iteF ?_⟩
  suffices fin : ∀ v : Option V, _ by
    rcases id hl1 with hh | hh
    · refine .inl ⟨_, rfl, l, rfl, ⟨_, SqL.of hh⟩, ?_⟩
      refine for_list (K := K) (a := l) (xs := L.map V.str) (fun i σ H' => H' = H1 ∧ ∃ v, σ = [some (.ref l), v]) ⟨rfl, none, rfl⟩ (fun i σ H' _ ⟨e, _⟩ => by rw [e]; exact SqL.of hh) ?_ ?_
      · rintro i y σ H2 hy ⟨rfl, v, rfl⟩
        obtain ⟨x, hx, rfl⟩ := str_at hy
        have hm := List.mem_of_getElem? hx
        have hxs := hsz x hm
        refine ⟨_, rfl, x, rfl, hok x hm, _, rfl, iteF ⟨_, rfl, _, rfl, line400 (by omega), x.length, rfl, by omega, by omega, _, rfl, iteF ?_⟩⟩
        refine ⟨_, rfl, _, rfl, line400 (by omega), _, rfl, .inl ⟨_, _, _, .str x0, rfl, rfl, SqL.of hh, atI_nat (j := 0) (by rw [List.getElem?_map, hx0]; rfl), x0, rfl, line400 (by omega), rfl, _, rfl, ?_⟩⟩
        exact iteNot' (by rw [hxs, hs0]) ⟨rfl, _, rfl⟩
      · rintro σ H2 ⟨hE, v, rfl⟩
        have hE := hE.symm
        subst hE
        exact fin v
    · refine .inr ⟨_, rfl, l, rfl, ⟨_, SqT.of hh⟩, ?_⟩
      refine for_tup (K := K) (a := l) (xs := L.map V.str) (fun i σ H' => H' = H1 ∧ ∃ v, σ = [some (.ref l), v]) ⟨rfl, none, rfl⟩ (fun i σ H' _ ⟨e, _⟩ => by rw [e]; exact SqT.of hh) ?_ ?_
      · rintro i y σ H2 hy ⟨rfl, v, rfl⟩
        obtain ⟨x, hx, rfl⟩ := str_at hy
        have hm := List.mem_of_getElem? hx
        have hxs := hsz x hm
        refine ⟨_, rfl, x, rfl, hok x hm, _, rfl, iteF ⟨_, rfl, _, rfl, line400 (by omega), x.length, rfl, by omega, by omega, _, rfl, iteF ?_⟩⟩
        refine ⟨_, rfl, _, rfl, line400 (by omega), _, rfl, .inr (.inl ⟨_, _, _, .str x0, rfl, rfl, SqT.of hh, atI_nat (j := 0) (by rw [List.getElem?_map, hx0]; rfl), x0, rfl, line400 (by omega), rfl, _, rfl, ?_⟩)⟩
        exact iteNot' (by rw [hxs, hs0]) ⟨rfl, _, rfl⟩
      · rintro σ H2 ⟨hE, v, rfl⟩
        have hE := hE.symm
        subst hE
        exact fin v
  intro v
  have hS2 := hS1
  have hl2 := hl1
  refine ⟨_, rfl, l, L, rfl, hl2.imp (fun h => SqL.of h) (fun h => SqT.of h), by omega, fun sp n hn hle nsp => ⟨sp, _, n, rfl, upd_same, by omega, ?_⟩⟩
  have hn2 := hn L hnd (fun k => Iff.rfl)
  have hS3 := same_new nsp (TxO w sp (hasT L) n)
  have hl3 : SqS (upd H1 sp (TxO w sp (hasT L) n)) l L := hl2.imp (hS3 _ _) (hS3 _ _)
  refine ⟨_, rfl, l, _, rfl, hl3.imp (fun h => SqL.of h) (fun h => SqT.of h), rfl, _, rfl, iteYes (by rw [List.length_map, hn2]) ?_⟩
  refine ⟨_, rfl, l, L, rfl, hl3, by omega, fun x hx => by have := hsz x hx; omega, fun H4 p M hS4 np hp hM _ => ⟨p, _, rfl, .inl (SqL.of hp), _, _, rfl, rfl, ?_⟩⟩
  exact bl_true (by rw [List.length_map]; omega) (q _ fun b o e => hS4 _ _ (hS3 _ _ (hS2 _ _ e)))
def spneed_pieces (_ : PySem.W.Frag) (_ _ : Addr) : Sp := fun vs H Q _ => ∃ l L s, vs = [.ref l] ∧ SqS H l L ∧ OkP L s ∧ ∀ H', Same H H' → Q .non H'
theorem okneed_pieces (D : Def K mg "need_pieces" sneed_pieces ["pieces"]) (B : Bs mg) (Glb : Glo mg) (WK : WebK K mg C) (PK : PieceK K mg C2)
    (hare_pieces : Good P w K mg base "are_pieces" sare_pieces ["value"] 4 (spare_pieces K C C2)) :
    Good P w K mg base "need_pieces" sneed_pieces ["pieces"] 5 (spneed_pieces K C C2) := by
  refine D.good fun f fd F => ?_
  obtain ⟨fare_pieces, dare_pieces, Oare_pieces, mare_pieces, kare_pieces, bare_pieces, Fare_pieces⟩ := hare_pieces
  refine F.ok scneed_pieces (fun vs H Q E h => ?_) (fun cdv A outer s H vs Q E hr h => ?_)
  · obtain ⟨l, L, s, rfl, hl, ⟨h1, h2, h3, h4, h5, h6⟩, q⟩ := h
    first | rfl | (rcases h with ⟨_, _, rfl, _⟩ | ⟨_, rfl, _⟩ <;> rfl)
  obtain ⟨l, L, s, rfl, hl, ⟨h1, h2, h3, h4, h5, h6⟩, q⟩ := h
  refine ⟨_, (pss_one (ps_if (pt_not (pt_val (pe_call Oare_pieces hr rfl mare_pieces kare_pieces bare_pieces .nil pass0 (pa_cons (pv 0) pa_nil))))
    (pss_one ps_never) pss_nil)), ?_⟩
  exact ⟨_, rfl, l, L, rfl, hl, h1, h2, fun x hx => (h3 x hx).1, ⟨s, h4, h5, fun x hx => (h3 x hx).2⟩, h6, fun H1 hS => ⟨_, rfl, iteF (q H1 hS)⟩⟩
end
end My
namespace My
open PySem L2 PyProof.Rows
abbrev tzD (e : Nat × Nat) : PyData := .tuple [.int (e.1 : Int), .int (e.2 : Int)]
abbrev tz (ts : List (Nat × Nat)) : PyData := .list (ts.map tzD)
theorem dpAll_tz {K : PySem.W.Frag} {H : Hp} : ∀ {tas : List Addr} {ts : List (Nat × Nat)}, Paired (TupAt H) tas ts → DpAll K H (tas.map V.ref) (ts.map tzD)
  | _, _, .nil => .nil
  | _, _, .cons h r => .cons (.tup (SqT.of h) (.cons (.int _) (.cons (.int _) .nil))) (dpAll_tz r)
theorem dp_tz {K : PySem.W.Frag} {H : Hp} {t : Addr} {ts : List (Nat × Nat)} (h : TiesAt H t ts) : Dp K H (.ref t) (tz ts) := by
  obtain ⟨tas, h1, h2⟩ := h
  exact .lst (SqL.of h1) (dpAll_tz h2)
theorem layAll_tz : ∀ ts : List (Nat × Nat), PyData.canLayAll0 (ts.map tzD) = true
  | [] => rfl
  | e :: r => by
    show (PyData.canLay0 (tzD e) && PyData.canLayAll0 (r.map tzD)) = true
    rw [layAll_tz r]
    rfl
theorem depthAll_tz (e : Nat × Nat) : ∀ r : List (Nat × Nat), PyData.depthAll ((e :: r).map tzD) = 1
  | [] => rfl
  | f :: r => by
    show max (PyData.depth (tzD e)) (PyData.depthAll ((f :: r).map tzD)) = 1
    rw [depthAll_tz f r]
    rfl
theorem shaped_tz : ∀ ts : List (Nat × Nat), SeqAt.shaped (tz ts) = true
  | [] => shaped_iz []
  | e :: r => by
    unfold SeqAt.shaped
    have h1 : PyData.canLay0 (tz (e :: r)) = true := by
      show PyData.canLay0 (.list ((e :: r).map tzD)) = true
      unfold PyData.canLay0
      exact layAll_tz _
    have h2 : PyData.depth (tz (e :: r)) = 2 := by
      show PyData.depth (.list ((e :: r).map tzD)) = 2
      unfold PyData.depth
      rw [depthAll_tz]
    rw [h1, h2]
    rfl
theorem eqv_tzs (ts : List (Nat × Nat)) : PyData.eqv (tz ts) (tz ts) = true := SeqAt.eqv_refl _ (SeqAt.canLay_of_shaped (shaped_tz ts))
def PotOk (x y : Int) : Prop := 0 ≤ x ∧ 0 ≤ y ∧ y < 2147483588
def PotAt (H : Hp) (a : Addr) : Prop := ∃ x y : Int, H a = some (.lst [.int x, .int y]) ∧ PotOk x y
theorem PotAt.new {H : Hp} {a p : Addr} {o : HO} (h : PotAt H a) (np : H p = none) : PotAt (upd H p o) a := by
  obtain ⟨x, y, e, h⟩ := h
  exact ⟨x, y, by rw [upd_ne (ne_of_none e np)]; exact e, h⟩
theorem PotAt.put {H : Hp} {a p : Addr} {o : HO} (h : PotAt H a) (np : p ≠ a) : PotAt (upd H p o) a := by
  obtain ⟨x, y, e, h⟩ := h
  exact ⟨x, y, by rw [upd_ne np.symm]; exact e, h⟩
theorem PotAt.same {H H' : Hp} {a : Addr} (h : PotAt H a) (s : Same H H') : PotAt H' a := by
  obtain ⟨x, y, e, h⟩ := h
  exact ⟨x, y, s _ _ e, h⟩
theorem PotAt.ne {H : Hp} {a p : Addr} (h : PotAt H a) (np : H p = none) : p ≠ a := by
  obtain ⟨x, y, e, h⟩ := h
  exact (ne_of_none e np).symm
theorem PotAt.ntup {H : Hp} {a p : Addr} {xs : List V} (h : PotAt H a) (hp : H p = some (.tup xs)) : p ≠ a := by
  obtain ⟨x, y, e, h⟩ := h
  exact ne_of hp e (by intro q; cases q)
theorem Kept.new {H H' : Hp} {a p : Addr} {o : HO} (h : Kept a H H') (np : H' p = none) : Kept a H (upd H' p o) := h.trans (Same.kept (same_new np o))
theorem Kept.put {H H' : Hp} {a p : Addr} {o : HO} (h : Kept a H H') (np : H p = none) : Kept a H (upd H' p o) := fun b u e n => by
  rw [upd_ne (ne_of_none e np)]
  exact h b u e n
theorem TiesAt.kept {H H' : Hp} {a t : Addr} {ts : List (Nat × Nat)} (h : TiesAt H t ts) (k : Kept a H H') (hp : PotAt H a) (hn : t ≠ a) : TiesAt H' t ts := by
  obtain ⟨tas, h1, h2⟩ := h
  exact ⟨tas, k _ _ h1 hn, paired_mono (fun p e hq => k _ _ hq (hp.ntup hq)) h2⟩
theorem paired_app {α β : Type} {F : α → β → Prop} {a : α} {b : β} : ∀ {l1 : List α} {l2 : List β}, Paired F l1 l2 → F a b → Paired F (l1 ++ [a]) (l2 ++ [b])
  | _, _, .nil, h => .cons h .nil
  | _, _, .cons r t, h => .cons r (paired_app t h)
theorem paired_apps {α β : Type} {F : α → β → Prop} : ∀ {l1 m1 : List α} {l2 m2 : List β}, Paired F l1 l2 → Paired F m1 m2 → Paired F (l1 ++ m1) (l2 ++ m2)
  | _, _, _, _, .nil, h => h
  | _, _, _, _, .cons r t, h => .cons r (paired_apps t h)
theorem paired_rev {α β : Type} {F : α → β → Prop} : ∀ {l1 : List α} {l2 : List β}, Paired F l1 l2 → Paired F l1.reverse l2.reverse
  | _, _, .nil => .nil
  | _, _, .cons r t => by
    rw [List.reverse_cons, List.reverse_cons]
    exact paired_app (paired_rev t) r
theorem TiesAt.push {H : Hp} {p tp : Addr} {ts : List (Nat × Nat)} {u v : Nat} (h : TiesAt H p ts) (nt : H tp = none) :
    ∃ xs, (upd H tp (.tup [.int (u : Int), .int (v : Int)])) p = some (.lst xs) ∧ xs.length = ts.length ∧ TiesAt (upd (upd H tp (.tup [.int (u : Int), .int (v : Int)])) p (.lst (xs ++ [.ref tp]))) p (ts ++ [(u, v)]) := by
  obtain ⟨tas, h1, h2⟩ := h
  have npt : p ≠ tp := ne_of_none h1 nt
  refine ⟨tas.map V.ref, by rw [upd_ne npt]; exact h1, by rw [List.length_map]; exact paired_len h2, tas ++ [tp], by rw [upd_same, List.map_append]; rfl, paired_app (paired_mono (fun q e hq => ?_) h2) ?_⟩
  · have nqp : q ≠ p := ne_of hq h1 (by intro z; cases z)
    show upd _ _ _ q = _
    rw [upd_ne nqp, upd_ne (ne_of_none hq nt)]
    exact hq
  · show upd _ _ _ tp = _
    rw [upd_ne npt.symm, upd_same]
theorem TiesAt.pushV {H : Hp} {p tp : Addr} {ts : List (Nat × Nat)} {u v : Nat} {x y : V} (hx : x = .int (u : Int)) (hy : y = .int (v : Int)) (h : TiesAt H p ts) (nt : H tp = none) :
    ∃ xs, (upd H tp (.tup [x, y])) p = some (.lst xs) ∧ xs.length = ts.length ∧ TiesAt (upd (upd H tp (.tup [x, y])) p (.lst (xs ++ [.ref tp]))) p (ts ++ [(u, v)]) := by
  subst hx hy
  exact h.push nt
theorem TiesAt.nil {H : Hp} {p : Addr} : TiesAt (upd H p (.lst [])) p [] := ⟨[], upd_same, .nil⟩
theorem TiesAt.cat {H : Hp} {l m p : Addr} {ts us : List (Nat × Nat)} (h : TiesAt H l ts) (k : TiesAt H m us) (np : H p = none) : ∃ xs zs, H l = some (.lst xs) ∧ H m = some (.lst zs) ∧ xs.length = ts.length ∧ zs.length = us.length ∧ TiesAt (upd H p (.lst (xs ++ zs))) p (ts ++ us) := by
  obtain ⟨tas, h1, h2⟩ := h
  obtain ⟨uas, k1, k2⟩ := k
  refine ⟨_, _, h1, k1, by rw [List.length_map]; exact paired_len h2, by rw [List.length_map]; exact paired_len k2, tas ++ uas, by rw [upd_same, List.map_append], paired_mono (fun q e hq => ?_) (paired_apps h2 k2)⟩
  exact same_new np _ _ _ hq
theorem TiesAt.get {H : Hp} {l : Addr} {ts : List (Nat × Nat)} (h : TiesAt H l ts) : ∃ xs, H l = some (.lst xs) ∧ xs.length = ts.length := by
  obtain ⟨tas, h1, h2⟩ := h
  exact ⟨_, h1, by rw [List.length_map]; exact paired_len h2⟩
theorem TiesAt.new {H : Hp} {l p : Addr} {ts : List (Nat × Nat)} {o : HO} (h : TiesAt H l ts) (np : H p = none) : TiesAt (upd H p o) l ts := h.same (same_new np o)
theorem TiesAt.rev {H : Hp} {l p : Addr} {ts : List (Nat × Nat)} (h : TiesAt H l ts) (np : H p = none) : ∃ xs, H l = some (.lst xs) ∧ TiesAt (upd H p (.lst xs.reverse)) p ts.reverse := by
  obtain ⟨tas, h1, h2⟩ := h
  refine ⟨_, h1, tas.reverse, by rw [upd_same, List.map_reverse], paired_mono (fun q e hq => same_new np _ _ _ hq) (paired_rev h2)⟩
theorem TiesAt.catOne {H : Hp} {l p : Addr} {ts : List (Nat × Nat)} {tp : Addr} {u v : Nat} (h : TiesAt H l ts) (ht : H tp = some (.tup [.int (u : Int), .int (v : Int)])) (np : H p = none) :
    ∃ xs, H l = some (.lst xs) ∧ xs.length = ts.length ∧ TiesAt (upd H p (.lst (xs ++ [.ref tp]))) p (ts ++ [(u, v)]) := by
  obtain ⟨tas, h1, h2⟩ := h
  refine ⟨_, h1, by rw [List.length_map]; exact paired_len h2, tas ++ [tp], by rw [upd_same, List.map_append]; rfl, paired_app (paired_mono (fun q e hq => same_new np _ _ _ hq) h2) (same_new np _ _ _ ht)⟩
theorem Kept.free {a p : Addr} {H H' : Hp} (h : Kept a H H') (hn : H' p = none) (np : p ≠ a) : H p = none := by
  cases e : H p with
  | none => rfl
  | some o =>
    have := h p o e np
    rw [hn] at this
    cases this
theorem ok_app {N : Nat} {ts us : List (Nat × Nat)} (h : ∀ e ∈ ts, e.1 < N ∧ e.2 < N) (k : ∀ e ∈ us, e.1 < N ∧ e.2 < N) : ∀ e ∈ ts ++ us, e.1 < N ∧ e.2 < N := fun e he => (List.mem_append.mp he).elim (h e) (k e)
theorem ok_one {N u v : Nat} (h1 : u < N) (h2 : v < N) : ∀ e ∈ [(u, v)], e.1 < N ∧ e.2 < N := fun e he => by rw [List.mem_singleton.mp he]; exact ⟨h1, h2⟩
theorem ok_up {N M : Nat} {ts : List (Nat × Nat)} (h : ∀ e ∈ ts, e.1 < N ∧ e.2 < N) (hm : N ≤ M) : ∀ e ∈ ts, e.1 < M ∧ e.2 < M := fun e he => ⟨Nat.lt_of_lt_of_le (h e he).1 hm, Nat.lt_of_lt_of_le (h e he).2 hm⟩
/-- a dict comprehension over anything that can be walked -/
theorem dc_it {J : It} {n : Nat} {G : Hp → Prop} {Y : Nat → Hp → V → Hp → Prop} (w : Walk J n G Y) {g : TG} {tt : TT} {tk tv : TE} {vs : List Nat} {σ : L2.St} {H1 : Hp} {D : Addr} {Qd : Hp → Prop} (Pv : Nat → Hp → Prop) (p0 : Pv 0 (upd H1 D (.dK []))) (pG : ∀ i H, i ≤ n → Pv i H → G H)
    (ps : ∀ i x H H', i < n → Pv i H → Y i H x H' → g x (wipe σ vs) H' fun σ2 H2 => wipe σ2 vs = wipe σ vs ∧ tt σ2 H2 fun b H3 =>
      if b = true then tk σ2 H3 fun y H4 => tv σ2 H4 fun z H5 => ∃ kvs k, y = kV k ∧ H5 D = some (.dK kvs) ∧ kvs.length < sizeLine ∧ Pv (i + 1) (upd H5 D (.dK (putK kvs k z))) else Pv (i + 1) H3) (pd : ∀ H, Pv n H → Qd H) :
    ∃ W : Nat → Nat → Hp → Prop, (∃ m, W 0 m (upd H1 D (.dK []))) ∧ ∀ i m H, W i m H →
      (J.stop i H ∧ Qd H) ∨ (J.go i H ∧ ∃ Nx : Hp → Prop, (∀ H', Nx H' → ∃ m', m' < m ∧ W (i + 1) m' H') ∧ ∀ x H', J.yld i H x H' → g x (wipe σ vs) H' fun σ2 H2 => wipe σ2 vs = wipe σ vs ∧ tt σ2 H2 fun b H3 =>
        if b = true then tk σ2 H3 fun y H4 => tv σ2 H4 fun z H5 => ∃ kvs k, y = kV k ∧ H5 D = some (.dK kvs) ∧ kvs.length < sizeLine ∧ Nx (upd H5 D (.dK (putK kvs k z))) else Nx H3) := by
  refine ⟨fun i m H => m = n - i ∧ i ≤ n ∧ Pv i H, ⟨n, rfl, Nat.zero_le _, p0⟩, ?_⟩
  rintro i m H ⟨rfl, hi, p⟩
  have hg := pG i H hi p
  rcases Nat.lt_or_ge i n with c | c
  · exact .inr ⟨w.goes i H c hg, Pv (i + 1), fun H' p' => ⟨n - (i + 1), by omega, rfl, c, p'⟩, fun x H' y => ps i x H H' c p (w.yields i H x H' c hg y)⟩
  · have e : i = n := by omega
    subst e
    exact .inl ⟨w.stops H hg, pd H p⟩
/-! ### texts numbered -/
def dN (L : List Str) : Nat → List (Key × V)
  | 0 => []
  | i + 1 => match L[i]? with
    | some x => dN L i ++ [(Sum.inr x, V.int (i : Int))]
    | none => dN L i
theorem dN_len (L : List Str) : ∀ i, (dN L i).length ≤ i
  | 0 => Nat.le_refl _
  | i + 1 => by
    have := dN_len L i
    unfold dN
    split
    · rw [List.length_append, List.length_singleton]; omega
    · omega
theorem valV_app (a b : List (Key × V)) (k : Key) : valV (a ++ b) k = (valV a k).or (valV b k) := by
  unfold valV
  rw [List.find?_append]
  cases a.find? fun kv => decide (kv.1 = k) <;> rfl
theorem dN_none {L : List Str} {x : Str} : ∀ {i : Nat}, x ∉ L.take i → valV (dN L i) (Sum.inr x : Key) = none
  | 0, _ => rfl
  | i + 1, h => by
    have ih := dN_none (L := L) (x := x) (i := i) (fun z => h (List.mem_of_mem_take (i := i) (by rw [List.take_take, Nat.min_eq_left (by omega)]; exact z)))
    unfold dN
    split
    · rename_i y hy
      rw [valV_app, ih, Option.none_or]
      have : ¬ y = x := fun z => h (by rw [take_snoc hy, z]; simp)
      unfold valV
      rw [List.find?_cons_of_neg (by simpa using this)]
      rfl
    · exact ih
theorem dN_at {L : List Str} (hn : L.Nodup) {x : Str} {j : Nat} (hj : L[j]? = some x) : ∀ {i : Nat}, j < i → valV (dN L i) (Sum.inr x : Key) = some (.int (j : Int))
  | i + 1, h => by
    unfold dN
    split
    · rename_i y hy
      rw [valV_app]
      by_cases c : j < i
      · rw [dN_at hn hj c]
        rfl
      · have e : j = i := by omega
        subst e
        rw [hj] at hy
        cases hy
        rw [dN_none (fun z => ?_), Option.none_or]
        · unfold valV
          rw [List.find?_cons_of_pos (by simp)]
          rfl
        · obtain ⟨k, hk⟩ := List.getElem?_of_mem z
          have hk1 := (List.getElem?_eq_some_iff.mp hk).1
          rw [List.length_take] at hk1
          rw [List.getElem?_take_of_lt (by omega)] at hk
          have := nodup_get hn hk hj
          omega
    · rename_i hy
      have hl := List.getElem?_eq_none_iff.mp hy
      have hjl := (List.getElem?_eq_some_iff.mp hj).1
      exact dN_at hn hj (by omega)
theorem dN_put {L : List Str} (hn : L.Nodup) {i : Nat} {x : Str} (h : L[i]? = some x) : putK (dN L i) (Sum.inr x : Key) (.int (i : Int)) = dN L (i + 1) := by
  rw [putK_new _ (dN_none (fun z => ?_))]
  · show _ = (match L[i]? with | some x => dN L i ++ [(Sum.inr x, V.int (i : Int))] | none => dN L i)
    rw [h]
  · obtain ⟨k, hk⟩ := List.getElem?_of_mem z
    have hk1 := (List.getElem?_eq_some_iff.mp hk).1
    rw [List.length_take] at hk1
    rw [List.getElem?_take_of_lt (by omega)] at hk
    have := nodup_get hn hk h
    omega
theorem IsWords.nodup {L W : List Str} (h : IsWords L W) : W.Nodup := h.1.imp fun {a b} (z : sLt a b) (e : a = b) => sLt_irr a (by rw [← e] at z; exact z)
/-- the ties of the pieces -/
def IsTies (W P : List Str) (ts : List (Nat × Nat)) : Prop := ts.length = P.length ∧ ∀ (i : Nat) (x : Str), P[i]? = some x → ∃ u v : Nat, ts[i]? = some (u, v) ∧ W[u]? = some (fst_ x) ∧ W[v]? = some (lst_ x)
theorem IsTies.unique {W P : List Str} {ts us : List (Nat × Nat)} (hn : W.Nodup) (h : IsTies W P ts) (k : IsTies W P us) : ts = us := by
  refine List.ext_getElem? fun i => ?_
  by_cases c : i < P.length
  · obtain ⟨u, v, e1, e2, e3⟩ := h.2 i _ (List.getElem?_eq_getElem c)
    obtain ⟨u', v', f1, f2, f3⟩ := k.2 i _ (List.getElem?_eq_getElem c)
    rw [e1, f1, nodup_get hn e2 f2, nodup_get hn e3 f3]
  · rw [List.getElem?_eq_none (by rw [h.1]; omega), List.getElem?_eq_none (by rw [k.1]; omega)]
/-! ### what is new -/
def NewS (H S : Hp) : Prop := ∀ b o, S b = some o → H b = none ∨ ∃ xs, o = .tup xs
theorem made_same {H H3 : Hp} {C x dx : Addr} (nx : H x = none) (ndx : H dx = none) (k : Kept x (upd (upd H dx (.own x)) x (.ins C dx [])) H3) : Same H H3 := fun b o e => k b o (by rw [upd_ne (ne_of_none e nx), upd_ne (ne_of_none e ndx)]; exact e) (ne_of_none e nx)
theorem made_new {H H3 : Hp} {C x dx : Addr} (nx : H x = none) (ndx : H dx = none) : NewS H (Sub (upd (upd H dx (.own x)) x (.ins C dx [])) H3 x) := fun b o e => by
  unfold Sub at e
  split at e
  · rename_i c
    rcases c with c | c | ⟨xs, c⟩
    · left
      by_cases hx : b = x
      · rw [hx]; exact nx
      · rw [upd_ne hx] at c
        by_cases hd : b = dx
        · rw [hd]; exact ndx
        · rw [upd_ne hd] at c; exact c
    · left; rw [c]; exact nx
    · rw [c] at e
      exact .inr ⟨xs, (Option.some.inj e).symm⟩
  · cases e
theorem NewS.mono {H H' S : Hp} (h : NewS H' S) (s : Same H H') : NewS H S := fun b o e => (h b o e).imp (s.free) id
section
variable {P : Program} {w : World} {K : PySem.W.Frag} {mg : Str → Option Value} {base : Heap} {C C2 : Addr}
def spcopied_web (_ : PySem.W.Frag) (C _ : Addr) : Sp := fun vs H Q _ => ∃ a N ts, vs = [.ref a] ∧ WebAt C a N ts H ∧ OkWeb N ts ∧ ∀ x H' S, WebAt C x N ts S → Same S H' → NewS H S → Same H H' → Q (.ref x) H'
theorem okcopied_web (D : Def K mg "copied_web" scopied_web ["web"]) (B : Bs mg) (Glb : Glo mg) (WK : WebK K mg C) (PK : PieceK K mg C2)
    (hWeb___init__ : GoodI P w K mg base C "__init__" "Web.__init__" sWeb___init__ ["self", "places", "ties"] 5 (spWeb___init__ K C C2))
    (hWeb_places : GoodP P w K mg base C "places" "Web.places" sWeb_places ["self"] 1 (spWeb_places K C C2))
    (hWeb_ties : GoodM P w K mg base C "ties" "Web.ties" sWeb_ties ["self"] 1 (spWeb_ties K C C2)) :
    Good P w K mg base "copied_web" scopied_web ["web"] 7 (spcopied_web K C C2) := by
  refine D.good fun f fd F => ?_
  obtain ⟨fWeb___init__, dWeb___init__, OWeb___init__, MKWeb, bWeb___init__⟩ := hWeb___init__
  obtain ⟨qWeb_places, fWeb_places, dWeb_places, OWeb_places, pWeb_places, bWeb_places⟩ := hWeb_places
  obtain ⟨fWeb_ties, dWeb_ties, OWeb_ties, tWeb_ties, bWeb_ties, FWeb_ties⟩ := hWeb_ties
  refine F.ok sccopied_web (fun vs H Q E h => ?_) (fun cdv A outer s H vs Q E hr h => ?_)
  · obtain ⟨a, N, ts, rfl, hw, ho, q⟩ := h
    first | rfl | (rcases h with ⟨_, _, rfl, _⟩ | ⟨_, rfl, _⟩ <;> rfl)
  obtain ⟨a, N, ts, rfl, hw, ho, q⟩ := h
  refine ⟨_, (pss_one (ps_ret (pe_make MKWeb OWeb___init__ (hr.mono (by decide)) rfl WK.mgC bWeb___init__ .nil pass0 (pa_cons (pe_prop (pv 0) WK.cl pWeb_places OWeb_places (hr.mono (by decide)) bWeb_places .nil pass0 (by rfl)) (pa_cons (pe_meth0 (pv 0) WK.cl tWeb_ties OWeb_ties (hr.mono (by decide)) bWeb_ties .nil pass0) pa_nil))))), ?_⟩
  obtain ⟨dx0, tl, fl, ol, g1, _⟩ := id hw
  refine ⟨_, rfl, a, dx0, _, rfl, g1, a, N, ts, rfl, hw, _, rfl, a, dx0, _, rfl, g1, wf_no _ _ _ _ (by decide +kernel) (by decide +kernel) (by decide +kernel) (by decide +kernel), a, N, ts, rfl, hw, fun H1 l nl hS1 hT1 => fun x dx nx ndx ndxx => ?_⟩
  have hS01 : Same H1 (upd (upd H1 dx (.own x)) x (.ins C dx [])) := fun b o e => by
    rw [upd_ne (ne_of_none e nx), upd_ne (ne_of_none e ndx)]
    exact e
  refine ⟨x, dx, N, l, ts, rfl, ho, hT1.same hS01, upd_same, fun H3 hk3 hw3 => ⟨rfl, ?_⟩⟩
  exact q x H3 _ hw3 Sub.same ((made_new nx ndx).mono hS1) (hS1.trans (made_same nx ndx hk3))
def sp_need_letters (_ : PySem.W.Frag) (_ _ : Addr) : Sp := fun vs H Q _ => ∃ n : Int, vs = [.int n] ∧ n ≤ 400 ∧ Q .non H
theorem ok_need_letters (D : Def K mg "_need_letters" s_need_letters ["many"]) (B : Bs mg) (Glb : Glo mg) (WK : WebK K mg C) (PK : PieceK K mg C2) :
    Good P w K mg base "_need_letters" s_need_letters ["many"] 3 (sp_need_letters K C C2) := by
  refine D.good fun f fd F => ?_
  refine F.ok sc_need_letters (fun vs H Q E h => ?_) (fun cdv A outer s H vs Q E hr h => ?_)
  · obtain ⟨n, rfl, h, q⟩ := h
    first | rfl | (rcases h with ⟨_, _, rfl, _⟩ | ⟨_, rfl, _⟩ <;> rfl)
  obtain ⟨n, rfl, h, q⟩ := h
  refine ⟨_, (pss_one (ps_if (pt_cmpR op_gt (pv 0) (pe_globI Glb.MOST_LETTERS) (nomark _))
    (pss_one ps_never) pss_nil)), ?_⟩
  exact ⟨_, rfl, _, _, rfl, rfl, _, rfl, iteNo (by omega) q⟩
def sp_web_of (_ : PySem.W.Frag) (C _ : Addr) : Sp := fun vs H Q _ => ∃ wl pl W L, vs = [.ref wl, .ref pl] ∧ H wl = some (.lst (W.map V.str)) ∧ H pl = some (.lst (L.map V.str)) ∧ IsWords L W ∧ 1 ≤ L.length ∧ L.length ≤ 30 ∧ W.length ≤ 60 ∧ (∀ x ∈ L, x.length ≤ 400) ∧ ∀ x H' S ts, IsTies W L ts → OkWeb W.length ts → WebAt C x W.length ts S → Same S H' → NewS H S → Same H H' → Q (.ref x) H'
theorem ok_web_of (D : Def K mg "_web_of" s_web_of ["words", "pieces"]) (B : Bs mg) (Glb : Glo mg) (WK : WebK K mg C) (PK : PieceK K mg C2)
    (hWeb___init__ : GoodI P w K mg base C "__init__" "Web.__init__" sWeb___init__ ["self", "places", "ties"] 5 (spWeb___init__ K C C2)) :
    Good P w K mg base "_web_of" s_web_of ["words", "pieces"] 7 (sp_web_of K C C2) := by
  refine D.good fun f fd F => ?_
  obtain ⟨fWeb___init__, dWeb___init__, OWeb___init__, MKWeb, bWeb___init__⟩ := hWeb___init__
  refine F.ok sc_web_of (fun vs H Q E h => ?_) (fun cdv A outer s H vs Q E hr h => ?_)
  · obtain ⟨wl, pl, W, L, rfl, hw, hp, hW, h1, h30, h60, h400, q⟩ := h
    first | rfl | (rcases h with ⟨_, _, rfl, _⟩ | ⟨_, rfl, _⟩ <;> rfl)
  obtain ⟨wl, pl, W, L, rfl, hw, hp, hW, h1, h30, h60, h400, q⟩ := h
  refine ⟨_, (pss_cons (ps_set (i := 2) sc_web_of.nd rfl (by first | exact Or.inl rfl | exact Or.inr rfl) (pe_dc (own := [("place", 3), ("word", 4)]) (g := gTup K 2 (gCons (gName 3) (gCons (gName 4) gNil))) (by rfl) sc_web_of.nd (pi_enum (by rfl) B.enumerate (pa_cons (pv 0) pa_nil)) (blkOk_by (own := [("place", 3), ("word", 4)]) (N := ["words", "pieces", "places", "place", "word", "piece"]) (sc := defScope s_web_of) (by decide +kernel)) (fun _ _ _ _ _ => (pg_tup rfl (pgs_cons (pg_name (i := 3) sc_web_of.nd rfl (by first | exact Or.inl rfl | exact Or.inr rfl)) (pgs_cons (pg_name (i := 4) sc_web_of.nd rfl (by first | exact Or.inl rfl | exact Or.inr rfl)) pgs_nil)))) (fun _ _ _ _ _ => pts_nil) (fun _ _ _ _ _ => (pv 4)) (fun _ _ _ _ _ => (pv 3))))
  (pss_one (ps_ret (pe_make MKWeb OWeb___init__ (hr.mono (by decide)) rfl WK.mgC bWeb___init__ .nil pass0 (pa_cons (pe_callB call_len_seq (by rfl) B.len (by decide +kernel) (pa_cons (pv 0) pa_nil)) (pa_cons (pe_lc (own := [("piece", 5)]) (g := gName 5) (by rfl) sc_web_of.nd (pi_list (pv 1)) (blkOk_by (own := [("piece", 5)]) (N := ["words", "pieces", "places", "place", "word", "piece"]) (sc := defScope s_web_of) (by decide +kernel)) (fun _ _ _ _ _ => (pg_name (i := 5) sc_web_of.nd rfl (by first | exact Or.inl rfl | exact Or.inr rfl))) (fun _ _ _ _ _ => pts_nil) (fun _ _ _ _ _ => (pe_tup (pa_cons (pe_dget (hu_of hr) (pv 2) (pe_slice sl_str (pv 5) po_none (po_some (pe_un un_neg pe_int))) (by exact fun _ _ => rfl)) (pa_cons (pe_dget (hu_of hr) (pv 2) (pe_slice sl_str (pv 5) (po_some pe_int) po_none) (by exact fun _ _ => rfl)) pa_nil))))) pa_nil)))))), ?_⟩
  have hn := hW.nodup
  refine ⟨_, rfl, wl, _, rfl, SqL.of hw, fun D nD => ?_⟩
  refine dc_it (walk_enum (K := K) (a := wl) (xs := W.map V.str)) (fun i H' => Same H H' ∧ H' D = some (.dK (dN W i))) ⟨same_new nD _, upd_same⟩ (fun i H' _ ⟨hS', _⟩ => SqL.of (hS' _ _ hw)) ?_ ?_
  · rintro i y H2 H3 hi ⟨hS2, hD2⟩ ⟨T0, x1, x2, rfl, nT0, rfl, e1, e2⟩
    cases e1
    obtain ⟨z, hz, rfl⟩ := str_at e2
    have hil := (List.getElem?_eq_some_iff.mp hz).1
    refine ⟨T0, _, rfl, SqT.of upd_same, rfl, _, _, rfl, _, _, rfl, rfl, rfl, _, rfl, _, rfl, dN W i, Sum.inr z, rfl, same_new nT0 _ _ _ hD2, ?_, same_upd (fun b o e => same_new nT0 _ _ _ (hS2 _ _ e)) nD, ?_⟩
    · exact Nat.lt_of_le_of_lt (dN_len W i) (Nat.lt_of_lt_of_le (by omega : i < 1000) (by decide))
    · rw [upd_same, dN_put hn hz]
  rintro H1 ⟨hS1, hD1⟩
  rw [List.length_map] at hD1
  refine ⟨_, rfl, wl, _, rfl, .inl (SqL.of (hS1 _ _ hw)), _, rfl, pl, rfl, ⟨_, SqL.of (hS1 _ _ hp)⟩, fun D2 nD2 => ?_⟩
  have tw : ∀ x ∈ L, (∃ u, W[u]? = some (fst_ x)) ∧ ∃ v, W[v]? = some (lst_ x) := fun x hx =>
    ⟨List.getElem?_of_mem ((hW.2 _).mpr (List.mem_append_left _ (List.mem_map.mpr ⟨x, hx, rfl⟩))), List.getElem?_of_mem ((hW.2 _).mpr (List.mem_append_right _ (List.mem_map.mpr ⟨x, hx, rfl⟩)))⟩
  refine lc_list (K := K) (a := pl) (xs := L.map V.str) (fun i H' => ∃ ts, Same H1 H' ∧ TiesAt H' D2 ts ∧ IsTies W (L.take i) ts) ⟨[], same_new nD2 _, TiesAt.nil, rfl, fun i x h => by simp at h⟩ (fun i H' _ ⟨_, hS', _⟩ => SqL.of (hS' _ _ (hS1 _ _ hp))) ?_ ?_
  · rintro i y H2 hy ⟨ts, hS2, hT2, hI⟩
    obtain ⟨z, hz, rfl⟩ := str_at hy
    have hil := (List.getElem?_eq_some_iff.mp hz).1
    have hm := List.mem_of_getElem? hz
    have h4 := h400 z hm
    obtain ⟨⟨u, hu⟩, ⟨v, hv⟩⟩ := tw z hm
    have hu1 := (List.getElem?_eq_some_iff.mp hu).1
    have hv1 := (List.getElem?_eq_some_iff.mp hv).1
    have hD2 := hS2 _ _ hD1
    have g1 : DGet H2 D (.str (fst_ z)) (some (.int (u : Int))) := by
      rw [← dN_at hn hu hu1]
      exact DGet.k (k := Sum.inr (fst_ z)) hD2
    have g2 : DGet H2 D (.str (lst_ z)) (some (.int (v : Int))) := by
      rw [← dN_at hn hv hv1]
      exact DGet.k (k := Sum.inr (lst_ z)) hD2
    refine ⟨rfl, _, rfl, _, rfl, _, rfl, _, rfl, _, rfl, line400 h4, D, _, rfl, g1, ?_⟩
    refine ⟨_, rfl, _, rfl, _, rfl, _, rfl, line400 h4, D, _, rfl, g2, (by show 2 ≤ sizeLine; decide), fun tp ntp => ?_⟩
    obtain ⟨xs, k1, k2, k3⟩ := hT2.push (u := u) (v := v) ntp
    refine ⟨xs, k1, ?_, ts ++ [(u, v)], same_upd (hS2.trans (same_new ntp _)) nD2, k3, ?_, ?_⟩
    · rw [k2, hI.1, List.length_take]
      exact Nat.lt_of_lt_of_le (by omega : _ < 1000) (by decide)
    · rw [List.length_append, hI.1, List.length_take, List.length_take, List.length_singleton]
      omega
    · intro j x hx
      have htl : ts.length = i := by rw [hI.1, List.length_take]; omega
      rw [take_snoc hz] at hx
      by_cases c : j < i
      · rw [List.getElem?_append_left (by rw [List.length_take]; omega)] at hx
        obtain ⟨u', v', a1, a2, a3⟩ := hI.2 j x hx
        exact ⟨u', v', by rw [List.getElem?_append_left (by omega)]; exact a1, a2, a3⟩
      · have hj := (List.getElem?_eq_some_iff.mp hx).1
        rw [List.length_append, List.length_take, List.length_singleton] at hj
        have e : j = i := by omega
        subst e
        rw [List.getElem?_append_right (by rw [List.length_take]; omega), List.length_take, Nat.min_eq_left (by omega), Nat.sub_self] at hx
        cases hx
        exact ⟨u, v, by rw [List.getElem?_append_right (by omega), htl, Nat.sub_self]; rfl, hu, hv⟩
  rintro H2 ⟨ts, hS2, hT2, hI⟩
  rw [List.length_map, List.take_length] at hI
  refine fun x dx nx ndx ndxx => ?_
  have hS01 : Same H2 (upd (upd H2 dx (.own x)) x (.ins C dx [])) := fun b o e => by
    rw [upd_ne (ne_of_none e nx), upd_ne (ne_of_none e ndx)]
    exact e
  have ho : OkWeb W.length ts := by
    obtain ⟨x0, hx0⟩ : ∃ x, L[0]? = some x := ⟨L[0]'(by omega), List.getElem?_eq_getElem _⟩
    obtain ⟨⟨u, hu⟩, _⟩ := tw x0 (List.mem_of_getElem? hx0)
    have hu1 := (List.getElem?_eq_some_iff.mp hu).1
    refine ⟨by omega, h60, by rw [hI.1]; omega, fun e he => ?_⟩
    obtain ⟨j, hj⟩ := List.getElem?_of_mem he
    have hj1 := (List.getElem?_eq_some_iff.mp hj).1
    rw [hI.1] at hj1
    obtain ⟨u', v', a1, a2, a3⟩ := hI.2 j _ (List.getElem?_eq_getElem hj1)
    rw [hj] at a1
    cases a1
    exact ⟨(List.getElem?_eq_some_iff.mp a2).1, (List.getElem?_eq_some_iff.mp a3).1⟩
  refine ⟨x, dx, W.length, D2, ts, by rw [List.length_map]; rfl, ho, hT2.same hS01, upd_same, fun H3 hk3 hw3 => ⟨rfl, ?_⟩⟩
  have hS02 := hS1.trans hS2
  exact q x H3 _ ts hI ho hw3 Sub.same ((made_new nx ndx).mono hS02) (hS02.trans (made_same nx ndx hk3))
end
end My
namespace My
open PySem L2 PyProof.Rows
theorem dp_strs {K : PySem.W.Frag} {H : Hp} : ∀ L : List Str, DpAll K H (L.map V.str) (L.map PyData.str)
  | [] => .nil
  | x :: r => .cons (.str x) (dp_strs r)
theorem dp_ls {K : PySem.W.Frag} {H : Hp} {p : Addr} {L : List Str} (h : H p = some (.lst (L.map V.str))) : Dp K H (.ref p) (.list (L.map PyData.str)) := .lst (SqL.of h) (dp_strs L)
theorem okT_str {x : Str} (h : OkT x) : PyData.strOk x = true := by
  unfold PyData.strOk
  rw [Array.all_eq_true']
  intro c hc
  have := h.let_ c (by simpa using hc)
  simp
  omega
theorem layAll_st : ∀ {L : List Str}, (∀ e ∈ L, OkT e) → PyData.canLayAll0 (L.map PyData.str) = true
  | [], _ => rfl
  | e :: r, h => by
    show (PyData.canLay0 (.str e) && PyData.canLayAll0 (r.map PyData.str)) = true
    rw [layAll_st fun f hf => h f (List.mem_cons_of_mem _ hf)]
    have hx := okT_str (h e List.mem_cons_self)
    simp only [PyData.canLay0, Bool.and_true]
    exact hx
theorem depthAll_st : ∀ L : List Str, PyData.depthAll (L.map PyData.str) = 0
  | [] => rfl
  | e :: r => by
    show max (PyData.depth (.str e)) (PyData.depthAll (r.map PyData.str)) = 0
    rw [depthAll_st r]
    rfl
theorem lay_st {L : List Str} (h : ∀ e ∈ L, OkT e) : PyData.canLay0 (.list (L.map PyData.str)) = true := by
  unfold PyData.canLay0
  exact layAll_st h
theorem shaped_st {L : List Str} (h : ∀ e ∈ L, OkT e) : SeqAt.shaped (.list (L.map PyData.str)) = true := by
  unfold SeqAt.shaped
  have h2 : PyData.depth (.list (L.map PyData.str)) = 1 := by
    unfold PyData.depth
    rw [depthAll_st]
  rw [lay_st h, h2]
  rfl
theorem eqvAll_s : ∀ L M : List Str, PyData.eqvAll (L.map PyData.str) (M.map PyData.str) = decide (L = M)
  | [], [] => rfl
  | [], _ :: _ => rfl
  | _ :: _, [] => rfl
  | a :: L, b :: M => by
    show ((a == b) && PyData.eqvAll (L.map PyData.str) (M.map PyData.str)) = _
    rw [eqvAll_s L M]
    by_cases h : a = b
    · subst h
      by_cases k : L = M
      · subst k; simp
      · simp [k]
    · have h2 : (a == b) = false := beq_eq_false_iff_ne.mpr h
      rw [h2, Bool.false_and]
      exact (decide_eq_false (fun z => h (List.cons.inj z).1)).symm
theorem eqv_s (L M : List Str) : PyData.eqv (.list (L.map PyData.str)) (.list (M.map PyData.str)) = decide (L = M) := eqvAll_s L M
theorem sorted_same {M L : List Str} (hM : M.Pairwise sLt) (hL : L.Nodup) : M = L.mergeSort leS ↔ ∀ k, k ∈ M ↔ k ∈ L := by
  constructor
  · rintro rfl k
    exact (List.mergeSort_perm _ _).mem_iff
  · intro h
    exact strict_ext (r := sLt) (fun a => sLt_irr a) (fun _ _ _ => sLt_trans) hM (texts_of hL) fun k => (h k).trans (List.mergeSort_perm _ _).mem_iff.symm
/-! ### webs of pieces in the heap -/
def wfP (pl wl x : Addr) : List (Str × V) := putF "_web" (.ref x) (putF "_words" (.ref wl) (putF "_pieces" (.ref pl) []))
theorem wfP_P (pl wl x : Addr) : (wfP pl wl x).lookup ("_pieces" : Str) = some (.ref pl) := by
  unfold wfP
  rw [lookup_putF, if_neg (by decide +kernel), lookup_putF, if_neg (by decide +kernel), lookup_putF, if_pos rfl]
theorem wfP_W (pl wl x : Addr) : (wfP pl wl x).lookup ("_words" : Str) = some (.ref wl) := by
  unfold wfP
  rw [lookup_putF, if_neg (by decide +kernel), lookup_putF, if_pos rfl]
theorem wfP_B (pl wl x : Addr) : (wfP pl wl x).lookup ("_web" : Str) = some (.ref x) := by
  unfold wfP
  rw [lookup_putF, if_pos rfl]
theorem wfP_no (pl wl x : Addr) {m : Str} (h1 : ¬ m = "_web") (h2 : ¬ m = "_words") (h3 : ¬ m = "_pieces") : (wfP pl wl x).lookup m = none := by
  unfold wfP
  rw [lookup_putF, if_neg h1, lookup_putF, if_neg h2, lookup_putF, if_neg h3]
  all_goals rfl
def PieceAt (C C2 a : Addr) (P W : List Str) (ts : List (Nat × Nat)) (S : Hp) : Prop := ∃ dx pl wl x, S a = some (.ins C2 dx (wfP pl wl x)) ∧ S pl = some (.lst (P.map V.str)) ∧ S wl = some (.lst (W.map V.str)) ∧ WebAt C x W.length ts S
theorem PieceAt.same {C C2 a : Addr} {P W : List Str} {ts : List (Nat × Nat)} {H H' : Hp} (h : PieceAt C C2 a P W ts H) (s : Same H H') : PieceAt C C2 a P W ts H' := by
  obtain ⟨dx, pl, wl, x, h1, h2, h3, h4⟩ := h
  exact ⟨dx, pl, wl, x, s _ _ h1, s _ _ h2, s _ _ h3, h4.same s⟩
/-- what a web of pieces is -/
structure PW (P W : List Str) (ts : List (Nat × Nat)) (s : Nat) : Prop where
  p : OkP P s
  w : IsWords P W
  t : IsTies W P ts
  o : OkWeb W.length ts
def NewA (a : Addr) (H S : Hp) : Prop := ∀ b o, S b = some o → H b = none ∨ b = a ∨ ∃ xs, o = .tup xs
theorem IsWords.perm {L M W : List Str} (h : IsWords L W) (p : L.Perm M) : IsWords M W := ⟨h.1, fun k => by
  rw [h.2 k, List.mem_append, List.mem_append, (p.map fst_).mem_iff, (p.map lst_).mem_iff]⟩
theorem OkP.perm {L M : List Str} {s : Nat} (h : OkP L s) (p : L.Perm M) : OkP M s := by
  obtain ⟨h1, h2, h3, h4, h5, h6⟩ := h
  rw [p.length_eq] at h1 h2
  exact ⟨h1, h2, fun x hx => h3 x (p.mem_iff.mpr hx), h4, h5, p.nodup_iff.mp h6⟩
theorem few3 {f g h : Str} {u v w : V} : (putF f u (putF g v (putF h w []))).length ≤ 3 := Nat.le_trans (putF_len _ _ _) (Nat.succ_le_succ (Nat.le_trans (putF_len _ _ _) (Nat.succ_le_succ (putF_len _ _ _))))
section
variable {P : Program} {w : World} {K : PySem.W.Frag} {mg : Str → Option Value} {base : Heap} {C C2 : Addr}
def spPieceWeb___init__ (_ : PySem.W.Frag) (C C2 : Addr) : Sp := fun vs H Q _ => ∃ a dx l L s, vs = [.ref a, .ref l] ∧ H a = some (.ins C2 dx []) ∧ SqS H l L ∧ OkP L s ∧ ∀ H' W ts S, PW (L.mergeSort leS) W ts s → PieceAt C C2 a (L.mergeSort leS) W ts S → Same S H' → NewA a H S → Kept a H H' → Q .non H'
theorem okPieceWeb___init__ (D : DefI K C2 "__init__" "PieceWeb.__init__" sPieceWeb___init__ ["self", "pieces"]) (B : Bs mg) (Glb : Glo mg) (WK : WebK K mg C) (PK : PieceK K mg C2)
    (hneed_pieces : Good P w K mg base "need_pieces" sneed_pieces ["pieces"] 5 (spneed_pieces K C C2))
    (hwords_of : Good P w K mg base "words_of" swords_of ["pieces"] 1 (spwords_of K C C2))
    (h_web_of : Good P w K mg base "_web_of" s_web_of ["words", "pieces"] 7 (sp_web_of K C C2)) :
    GoodI P w K mg base C2 "__init__" "PieceWeb.__init__" sPieceWeb___init__ ["self", "pieces"] 8 (spPieceWeb___init__ K C C2) := by
  refine D.good fun f fd F => ?_
  obtain ⟨fneed_pieces, dneed_pieces, Oneed_pieces, mneed_pieces, kneed_pieces, bneed_pieces, Fneed_pieces⟩ := hneed_pieces
  obtain ⟨fwords_of, dwords_of, Owords_of, mwords_of, kwords_of, bwords_of, Fwords_of⟩ := hwords_of
  obtain ⟨f_web_of, d_web_of, O_web_of, m_web_of, k_web_of, b_web_of, F_web_of⟩ := h_web_of
  refine F.ok scPieceWeb___init__ (fun vs H Q E h => ?_) (fun cdv A outer s H vs Q E hr h => ?_)
  · obtain ⟨a, dx, l, L, s, rfl, ha, hl, ho, q⟩ := h
    first | rfl | (rcases h with ⟨_, _, rfl, _⟩ | ⟨_, rfl, _⟩ <;> rfl)
  obtain ⟨a, dx, l, L, s, rfl, ha, hl, ho, q⟩ := h
  refine ⟨_, (pss_cons (ps_expr (pe_call Oneed_pieces (hr.mono (by decide)) rfl mneed_pieces kneed_pieces bneed_pieces .nil pass0 (pa_cons (pv 1) pa_nil)))
  (pss_cons (ps_fld (pv 0) (pe_callB (cr_sortSq hr.units) (by rfl) B.sorted (by decide +kernel) (pa_cons (pv 1) pa_nil)) rfl)
  (pss_cons (ps_fld (pv 0) (pe_call Owords_of (hr.mono (by decide)) rfl mwords_of kwords_of bwords_of .nil pass0 (pa_cons (pv 1) pa_nil)) rfl)
  (pss_one (ps_fld (pv 0) (pe_call O_web_of hr rfl m_web_of k_web_of b_web_of .nil pass0 (pa_cons (pe_fld (pv 0) rfl) (pa_cons (pe_fld (pv 0) rfl) pa_nil))) rfl))))), ?_⟩
  obtain ⟨o1, o2, o3, o4, o5, o6⟩ := id ho
  have hperm : L.Perm (L.mergeSort leS) := (List.mergeSort_perm L leS).symm
  refine ⟨_, rfl, l, L, s, rfl, hl, ho, fun H1 hS1 => ?_⟩
  have hl1 := hl.same hS1
  have ha1 := hS1 _ _ ha
  have hla : l ≠ a := by
    rcases hl1 with h | h
    · exact ne_of h ha1 (by intro z; cases z)
    · exact ne_of h ha1 (by intro z; cases z)
  refine ⟨_, rfl, l, L, rfl, hl1.seq, by omega, fun pl npl => ⟨_, rfl, a, C2, dx, [], rfl, same_new npl _ _ _ ha1, PK.cl, PK.nP, (by decide), ?_⟩⟩
  have hpa : pl ≠ a := (ne_of_none ha1 npl).symm
  have e2 : ∀ b o, H1 b = some o → b ≠ a → (upd (upd H1 pl (.lst ((L.mergeSort leS).map V.str))) a (.ins C2 dx (putF "_pieces" (.ref pl) []))) b = some o := fun b o e n => by rw [upd_ne n]; exact same_new npl _ _ _ e
  have hp2 : (upd (upd H1 pl (.lst ((L.mergeSort leS).map V.str))) a (.ins C2 dx (putF "_pieces" (.ref pl) []))) pl = some (.lst ((L.mergeSort leS).map V.str)) := by rw [upd_ne hpa]; exact upd_same
  have ha2 : (upd (upd H1 pl (.lst ((L.mergeSort leS).map V.str))) a (.ins C2 dx (putF "_pieces" (.ref pl) []))) a = some (.ins C2 dx (putF "_pieces" (.ref pl) [])) := upd_same
  generalize upd (upd H1 pl (.lst ((L.mergeSort leS).map V.str))) a (.ins C2 dx (putF "_pieces" (.ref pl) [])) = H2 at e2 hp2 ha2
  have k2 : Kept a H H2 := fun b o e n => e2 b o (hS1 b o e) n
  have hl2 : SqS H2 l L := hl1.imp (fun h => e2 _ _ h hla) (fun h => e2 _ _ h hla)
  refine ⟨_, rfl, l, L, rfl, hl2, by omega, fun x hx => by have := (o3 x hx).2; omega, fun H3 wl W hS3 nwl hwl hWl hW => ⟨_, rfl, a, C2, dx, _, rfl, hS3 _ _ ha2, PK.cl, PK.nW, Nat.lt_of_le_of_lt (putF_len _ _ _) (by decide), ?_⟩⟩
  have hwa : wl ≠ a := fun z => by rw [z, ha2] at nwl; cases nwl
  have hwp : wl ≠ pl := fun z => by rw [z, hp2] at nwl; cases nwl
  have e4 : ∀ b o, H3 b = some o → b ≠ a → (upd H3 a (.ins C2 dx (putF "_words" (.ref wl) (putF "_pieces" (.ref pl) [])))) b = some o := fun b o e n => by rw [upd_ne n]; exact e
  have ha4 : (upd H3 a (.ins C2 dx (putF "_words" (.ref wl) (putF "_pieces" (.ref pl) [])))) a = some (.ins C2 dx (putF "_words" (.ref wl) (putF "_pieces" (.ref pl) []))) := upd_same
  generalize upd H3 a (.ins C2 dx (putF "_words" (.ref wl) (putF "_pieces" (.ref pl) []))) = H4 at e4 ha4
  have k4 : Kept a H H4 := fun b o e n => e4 b o (hS3 b o (k2 b o e n)) n
  have hp4 : H4 pl = some (.lst ((L.mergeSort leS).map V.str)) := e4 _ _ (hS3 _ _ hp2) hpa
  have hw4 : H4 wl = some (.lst (W.map V.str)) := e4 _ _ hwl hwa
  have nplH : H pl = none := hS1.free npl
  have nwlH : H wl = none := by
    cases e : H wl with
    | none => rfl
    | some o => rw [k2 _ _ e hwa] at nwl; cases nwl
  have hWs : IsWords (L.mergeSort leS) W := hW.perm hperm
  have hPs : OkP (L.mergeSort leS) s := ho.perm hperm
  refine ⟨_, rfl, a, C2, dx, _, _, rfl, ha4, PK.cl, PK.nW, by rw [lookup_putF, if_pos rfl], _, rfl, a, C2, dx, _, _, rfl, ha4, PK.cl, PK.nP, by rw [lookup_putF, if_neg (by decide +kernel), lookup_putF, if_pos rfl], wl, pl, W, _, rfl, hw4, hp4, hWs, hPs.1, hPs.2.1, by omega, fun x hx => by have := (hPs.2.2.1 x hx).2; omega, fun x H5 SW ts hts how hweb hSW hnew hS5 => ⟨_, rfl, a, C2, dx, _, rfl, hS5 _ _ ha4, PK.cl, PK.nB, Nat.lt_of_le_of_lt (Nat.le_trans (putF_len _ _ _) (Nat.succ_le_succ (putF_len _ _ _))) (by decide), ?_⟩⟩
  have off : ∀ b o, H4 b = some o → (∀ xs, o ≠ .tup xs) → SW b = none := fun b o e nt => by
    cases eb : SW b with
    | none => rfl
    | some u =>
      rcases hnew b u eb with z | ⟨xs, z⟩
      · rw [e] at z; cases z
      · have h5 := hSW _ _ eb
        rw [hS5 _ _ e] at h5
        cases h5
        exact absurd z (nt xs)
  have oa := off _ _ ha4 (by intro xs z; cases z)
  have op := off _ _ hp4 (by intro xs z; cases z)
  have ow := off _ _ hw4 (by intro xs z; cases z)
  have s1 : Same SW (upd SW pl (.lst ((L.mergeSort leS).map V.str))) := same_new op _
  have ow1 : upd SW pl (.lst ((L.mergeSort leS).map V.str)) wl = none := by rw [upd_ne hwp]; exact ow
  have s2 := s1.trans (same_new ow1 (.lst (W.map V.str)))
  have oa2 : upd (upd SW pl (.lst ((L.mergeSort leS).map V.str))) wl (.lst (W.map V.str)) a = none := by rw [upd_ne hwa.symm, upd_ne hpa.symm]; exact oa
  have s3 := s2.trans (same_new oa2 (.ins C2 dx (wfP pl wl x)))
  refine q _ W ts (upd (upd (upd SW pl (.lst ((L.mergeSort leS).map V.str))) wl (.lst (W.map V.str))) a (.ins C2 dx (wfP pl wl x))) ⟨hPs, hWs, hts, how⟩ ⟨dx, pl, wl, x, upd_same, ?_, ?_, hweb.same s3⟩ ?_ ?_ ?_
  · rw [upd_ne hpa, upd_ne hwp.symm, upd_same]
  · rw [upd_ne hwa, upd_same]
  · intro b o e
    by_cases z1 : b = a
    · subst z1
      rw [upd_same] at e ⊢
      exact e
    · rw [upd_ne z1] at e ⊢
      by_cases z2 : b = wl
      · subst z2
        rw [upd_same] at e
        rw [← e]
        exact hS5 _ _ hw4
      · rw [upd_ne z2] at e
        by_cases z3 : b = pl
        · subst z3
          rw [upd_same] at e
          rw [← e]
          exact hS5 _ _ hp4
        · rw [upd_ne z3] at e
          exact hSW _ _ e
  · intro b o e
    by_cases z1 : b = a
    · exact .inr (.inl z1)
    · rw [upd_ne z1] at e
      by_cases z2 : b = wl
      · left; rw [z2]; exact nwlH
      · rw [upd_ne z2] at e
        by_cases z3 : b = pl
        · left; rw [z3]; exact nplH
        · rw [upd_ne z3] at e
          rcases hnew b o e with z | z
          · left
            cases eb : H b with
            | none => rfl
            | some u => rw [k4 _ _ eb z1] at z; cases z
          · exact .inr (.inr z)
  · intro b o e n
    rw [upd_ne n]
    exact hS5 _ _ (k4 b o e n)
def spPieceWeb_size (_ : PySem.W.Frag) (C C2 : Addr) : Sp := fun vs H Q _ => ∃ a P W ts s, vs = [.ref a] ∧ PieceAt C C2 a P W ts H ∧ OkP P s ∧ Q (.int (s : Int)) H
theorem okPieceWeb_size (D : DefP K C2 "size" "PieceWeb.size" sPieceWeb_size ["self"]) (B : Bs mg) (Glb : Glo mg) (WK : WebK K mg C) (PK : PieceK K mg C2) :
    GoodP P w K mg base C2 "size" "PieceWeb.size" sPieceWeb_size ["self"] 1 (spPieceWeb_size K C C2) := by
  refine D.good fun f fd F => ?_
  refine F.ok scPieceWeb_size (fun vs H Q E h => ?_) (fun cdv A outer s H vs Q E hr h => ?_)
  · obtain ⟨a, P', W', ts, s, rfl, ⟨dx, pl, wl, x, h1, h2, h3, h4⟩, ho, q⟩ := h
    first | rfl | (rcases h with ⟨_, _, rfl, _⟩ | ⟨_, rfl, _⟩ <;> rfl)
  obtain ⟨a, P', W', ts, s, rfl, ⟨dx, pl, wl, x, h1, h2, h3, h4⟩, ho, q⟩ := h
  refine ⟨_, (pss_one (ps_ret (pe_callB call_len_str (by rfl) B.len (by decide +kernel) (pa_cons (pe_ix ix_list (pe_fld (pv 0) rfl) pe_int (fun _ _ => rfl)) pa_nil)))), ?_⟩
  obtain ⟨o1, o2, o3, o4, o5, o6⟩ := id ho
  obtain ⟨x0, hx0⟩ : ∃ x, P'[0]? = some x := ⟨P'[0]'(by omega), List.getElem?_eq_getElem _⟩
  have hs0 := (o3 x0 (List.mem_of_getElem? hx0)).2
  refine ⟨_, rfl, a, C2, dx, _, _, rfl, h1, PK.cl, PK.nP, wfP_P _ _ _, _, _, _, .str x0, rfl, rfl, SqL.of h2, atI_nat (j := 0) (by rw [List.getElem?_map, hx0]; rfl), x0, rfl, line400 (by omega), ?_⟩
  rw [hs0]
  exact q
def spPieceWeb_web (_ : PySem.W.Frag) (C C2 : Addr) : Sp := fun vs H Q _ => ∃ a P W ts, vs = [.ref a] ∧ PieceAt C C2 a P W ts H ∧ OkWeb W.length ts ∧ ∀ y H' S, WebAt C y W.length ts S → Same S H' → NewS H S → Same H H' → Q (.ref y) H'
theorem okPieceWeb_web (D : DefM K C2 "web" "PieceWeb.web" sPieceWeb_web ["self"]) (B : Bs mg) (Glb : Glo mg) (WK : WebK K mg C) (PK : PieceK K mg C2)
    (hcopied_web : Good P w K mg base "copied_web" scopied_web ["web"] 7 (spcopied_web K C C2)) :
    GoodM P w K mg base C2 "web" "PieceWeb.web" sPieceWeb_web ["self"] 8 (spPieceWeb_web K C C2) := by
  refine D.good fun f fd F => ?_
  obtain ⟨fcopied_web, dcopied_web, Ocopied_web, mcopied_web, kcopied_web, bcopied_web, Fcopied_web⟩ := hcopied_web
  refine F.ok scPieceWeb_web (fun vs H Q E h => ?_) (fun cdv A outer s H vs Q E hr h => ?_)
  · obtain ⟨a, P', W', ts, rfl, ⟨dx, pl, wl, x, h1, h2, h3, h4⟩, ho, q⟩ := h
    first | rfl | (rcases h with ⟨_, _, rfl, _⟩ | ⟨_, rfl, _⟩ <;> rfl)
  obtain ⟨a, P', W', ts, rfl, ⟨dx, pl, wl, x, h1, h2, h3, h4⟩, ho, q⟩ := h
  refine ⟨_, (pss_one (ps_ret (pe_call Ocopied_web hr rfl mcopied_web kcopied_web bcopied_web .nil pass0 (pa_cons (pe_fld (pv 0) rfl) pa_nil)))), ?_⟩
  exact ⟨_, rfl, a, C2, dx, _, _, rfl, h1, PK.cl, PK.nB, wfP_B _ _ _, x, W'.length, ts, rfl, h4, ho, q⟩
def spPieceWeb_pieces (_ : PySem.W.Frag) (C C2 : Addr) : Sp := fun vs H Q _ => ∃ a P W ts, vs = [.ref a] ∧ PieceAt C C2 a P W ts H ∧ ∀ p, H p = none → Q (.ref p) (upd H p (.lst (P.map V.str)))
theorem okPieceWeb_pieces (D : DefM K C2 "pieces" "PieceWeb.pieces" sPieceWeb_pieces ["self"]) (B : Bs mg) (Glb : Glo mg) (WK : WebK K mg C) (PK : PieceK K mg C2) :
    GoodM P w K mg base C2 "pieces" "PieceWeb.pieces" sPieceWeb_pieces ["self"] 1 (spPieceWeb_pieces K C C2) := by
  refine D.good fun f fd F => ?_
  refine F.ok scPieceWeb_pieces (fun vs H Q E h => ?_) (fun cdv A outer s H vs Q E hr h => ?_)
  · obtain ⟨a, P', W', ts, rfl, ⟨dx, pl, wl, x, h1, h2, h3, h4⟩, q⟩ := h
    first | rfl | (rcases h with ⟨_, _, rfl, _⟩ | ⟨_, rfl, _⟩ <;> rfl)
  obtain ⟨a, P', W', ts, rfl, ⟨dx, pl, wl, x, h1, h2, h3, h4⟩, q⟩ := h
  refine ⟨_, (pss_one (ps_ret (pe_callTy call_list_of (by rfl) B.list (by decide +kernel) (pa_cons (pe_fld (pv 0) rfl) pa_nil)))), ?_⟩
  exact ⟨_, rfl, a, C2, dx, _, _, rfl, h1, PK.cl, PK.nP, wfP_P _ _ _, _, _, rfl, .inl (SqL.of h2), q⟩
def spPieceWeb_words (_ : PySem.W.Frag) (C C2 : Addr) : Sp := fun vs H Q _ => ∃ a P W ts, vs = [.ref a] ∧ PieceAt C C2 a P W ts H ∧ ∀ p, H p = none → Q (.ref p) (upd H p (.lst (W.map V.str)))
theorem okPieceWeb_words (D : DefM K C2 "words" "PieceWeb.words" sPieceWeb_words ["self"]) (B : Bs mg) (Glb : Glo mg) (WK : WebK K mg C) (PK : PieceK K mg C2) :
    GoodM P w K mg base C2 "words" "PieceWeb.words" sPieceWeb_words ["self"] 1 (spPieceWeb_words K C C2) := by
  refine D.good fun f fd F => ?_
  refine F.ok scPieceWeb_words (fun vs H Q E h => ?_) (fun cdv A outer s H vs Q E hr h => ?_)
  · obtain ⟨a, P', W', ts, rfl, ⟨dx, pl, wl, x, h1, h2, h3, h4⟩, q⟩ := h
    first | rfl | (rcases h with ⟨_, _, rfl, _⟩ | ⟨_, rfl, _⟩ <;> rfl)
  obtain ⟨a, P', W', ts, rfl, ⟨dx, pl, wl, x, h1, h2, h3, h4⟩, q⟩ := h
  refine ⟨_, (pss_one (ps_ret (pe_callTy call_list_of (by rfl) B.list (by decide +kernel) (pa_cons (pe_fld (pv 0) rfl) pa_nil)))), ?_⟩
  exact ⟨_, rfl, a, C2, dx, _, _, rfl, h1, PK.cl, PK.nW, wfP_W _ _ _, _, _, rfl, .inl (SqL.of h3), q⟩
end
end My
namespace My
open PySem L2 PyProof.Rows
theorem ones_len (l : List Nat) : ((l.map fun c => (⟨#[c]⟩ : Str)).map (·.length)).sum = l.length := by
  induction l with
  | nil => rfl
  | cons a r ih =>
    rw [List.map_cons, List.map_cons, List.sum_cons, ih, List.length_cons]
    show 1 + r.length = r.length + 1
    omega
/-- the last letter of a piece -/
def ltr (x : Str) : Nat := x.cps.toList.getD (x.cps.toList.length - 1) 0
theorem str_len (x : Str) : x.cps.toList.length = x.length := by
  show x.cps.toList.length = x.cps.size
  simp
theorem ltr_at {x : Str} (h : 0 < x.length) : atI x.cps.toList (-1) = some (ltr x) := by
  have := str_len x
  exact atI_back (getD_lt (by omega))
/-- the piece of a number -/
abbrev pce (P : List Str) (t : Nat) : Str := P.getD t (Str.ofString "")
theorem pce_at {P : List Str} {t : Nat} (h : t < P.length) : P[t]? = some (pce P t) := by
  rw [pce, List.getD_eq_getElem?_getD, List.getElem?_eq_getElem h]
  rfl
abbrev letters (P : List Str) (R : List Nat) : List Nat := R.map fun t => ltr (pce P t)
/-- the text of a walk -/
def textOf (P : List Str) (R : List Nat) : Str := fst_ (pce P (R.getD 0 0)) ++ tS (letters P R)
def IsAlong (P L : List Str) (R : List Nat) : Prop := R.length = L.length ∧ ∀ (i : Nat) (z : Str), L[i]? = some z → ∃ t : Nat, R[i]? = some t ∧ P[t]? = some z
theorem IsAlong.unique {P L : List Str} {R S : List Nat} (hn : P.Nodup) (h : IsAlong P L R) (k : IsAlong P L S) : R = S := by
  refine List.ext_getElem? fun i => ?_
  by_cases c : i < L.length
  · obtain ⟨t, e1, e2⟩ := h.2 i _ (List.getElem?_eq_getElem c)
    obtain ⟨t', f1, f2⟩ := k.2 i _ (List.getElem?_eq_getElem c)
    rw [e1, f1, nodup_get hn e2 f2]
  · rw [List.getElem?_eq_none (by rw [h.1]; omega), List.getElem?_eq_none (by rw [k.1]; omega)]
theorem fst_len {x : Str} : (fst_ x).length ≤ x.length := by
  have e : x = tS x.cps.toList := by cases x; simp
  rw [e, fst_, cut_last, T_len, T_len, List.length_dropLast]
  omega
section
variable {P : Program} {w : World} {K : PySem.W.Frag} {mg : Str → Option Value} {base : Heap} {C C2 : Addr}
def spPieceWeb__letters_of (_ : PySem.W.Frag) (C C2 : Addr) : Sp := fun vs H Q _ => ∃ a P W ts s r R, vs = [.ref a, .ref r] ∧ PieceAt C C2 a P W ts H ∧ PW P W ts s ∧ SeqAt H r R ∧ (∀ t ∈ R, t < P.length) ∧ R.length ≤ 100 ∧ ∀ H', Same H H' → Q (.str (tS (letters P R))) H'
theorem okPieceWeb__letters_of (D : DefM K C2 "_letters_of" "PieceWeb._letters_of" sPieceWeb__letters_of ["self", "ties"]) (B : Bs mg) (Glb : Glo mg) (WK : WebK K mg C) (PK : PieceK K mg C2) :
    GoodM P w K mg base C2 "_letters_of" "PieceWeb._letters_of" sPieceWeb__letters_of ["self", "ties"] 1 (spPieceWeb__letters_of K C C2) := by
  refine D.good fun f fd F => ?_
  refine F.ok scPieceWeb__letters_of (fun vs H Q E h => ?_) (fun cdv A outer s H vs Q E hr h => ?_)
  · obtain ⟨a, P', W', ts, s, r, R, rfl, hw, hP, hrr, hR, h100, q⟩ := h
    first | rfl | (rcases h with ⟨_, _, rfl, _⟩ | ⟨_, rfl, _⟩ <;> rfl)
  obtain ⟨a, P', W', ts, s, r, R, rfl, hw, hP, hrr, hR, h100, q⟩ := h
  refine ⟨_, (pss_one (ps_ret (pe_join pe_str (pe_lc (own := [("tie", 2)]) (g := gName 2) (by rfl) scPieceWeb__letters_of.nd (pi_or (pi_list (pv 1)) (pi_tup (pv 1))) (blkOk_by (own := [("tie", 2)]) (N := ["self", "ties", "tie"]) (sc := defScope sPieceWeb__letters_of) (by decide +kernel)) (fun _ _ _ _ _ => (pg_name (i := 2) scPieceWeb__letters_of.nd rfl (by first | exact Or.inl rfl | exact Or.inr rfl))) (fun _ _ _ _ _ => pts_nil) (fun _ _ _ _ _ => (pe_ix ix_str (pe_ix (ix_listK (K := K) rfl) (pe_fldK (K := K) rfl (pv 0)) (pv 2) (by exact fun _ _ => rfl)) (pe_un un_neg pe_int) (by exact fun _ _ => rfl))))))), ?_⟩
  obtain ⟨o1, o2, o3, o4, o5, o6⟩ := id hP.p
  have turn : ∀ (D : Addr) (i : Nat) (y : V) (H1 : Hp), (iv R)[i]? = some y → Same H H1 → ∃ t dx pl wl x, y = .int ((t : Nat) : Int) ∧ R[i]? = some t ∧ H1 a = some (.ins C2 dx (wfP pl wl x)) ∧ H1 pl = some (.lst (P'.map V.str)) ∧ (P'.map V.str)[t]? = some (.str (pce P' t)) ∧ (pce P' t).length ≤ 400 ∧ 0 < (pce P' t).length ∧ ((((R.take i).map fun t => ltr (pce P' t)).map fun c => (⟨#[c]⟩ : Str)).map V.str).length < sizeLine := fun D i y H1 hy hS1 => by
    rw [List.getElem?_map] at hy
    cases e : R[i]? with
    | none => rw [e] at hy; cases hy
    | some t =>
      rw [e] at hy
      obtain ⟨dx, pl, wl, x, h1, h2, h3, h4⟩ := hw.same hS1
      have ht := hR t (List.mem_of_getElem? e)
      have hp := pce_at ht
      obtain ⟨y1, y2⟩ := o3 _ (List.mem_of_getElem? hp)
      refine ⟨t, dx, pl, wl, x, (Option.some.inj hy).symm, rfl, h1, h2, by rw [List.getElem?_map, hp]; rfl, by omega, by omega, ?_⟩
      rw [List.length_map, List.length_map, List.length_map, List.length_take]
      exact Nat.lt_of_lt_of_le (by omega : _ < 1000) (by decide)
  have fin : ∀ (D : Addr) (H1 : Hp), Same H H1 → H1 D = some (.lst ((((R.take R.length).map fun t => ltr (pce P' t)).map fun c => (⟨#[c]⟩ : Str)).map V.str)) → ∃ a' p ys, V.str (Str.ofString "") = .str a' ∧ [V.ref D] = [V.ref p] ∧ (SqL K H1 p (List.map V.str ys) ∨ SqT K H1 p (List.map V.str ys)) ∧ (ys.map (·.length)).sum + ys.length * a'.length ≤ 16777216 ∧ Q (.str (Txt.join a' ys)) H1 := fun D H1 hS1 hD => by
    rw [List.take_length] at hD
    refine ⟨_, _, (letters P' R).map fun c => (⟨#[c]⟩ : Str), rfl, rfl, .inl (SqL.of hD), ?_, ?_⟩
    · rw [ones_len, T_nil, List.length_map]
      show R.length + _ * 0 ≤ _
      omega
    · rw [join_T]
      exact q H1 hS1
  rcases hrr with hh | hh
  · refine ⟨⟨_, rfl⟩, .inl ⟨_, rfl, r, rfl, ⟨_, SqL.of hh⟩, fun D nD => ?_⟩⟩
    refine lc_list (K := K) (a := r) (xs := iv R) (fun i H' => Same H H' ∧ H' D = some (.lst ((((R.take i).map fun t => ltr (pce P' t)).map fun c => (⟨#[c]⟩ : Str)).map V.str))) ⟨same_new nD _, upd_same⟩ (fun i H' _ ⟨hS', _⟩ => SqL.of (hS' _ _ hh)) ?_ ?_
    · rintro i y H1 hy ⟨hS1, hD1⟩
      obtain ⟨t, dx, pl, wl, x, rfl, e1, t1, t2, t3, t4, t5, t6⟩ := turn D i y H1 hy hS1
      refine ⟨rfl, _, rfl, a, C2, dx, _, _, rfl, t1, PK.cl, PK.nP, wfP_P _ _ _, _, rfl, _, _, _, .str (pce P' t), rfl, rfl, SqL.of t2, atI_nat t3, _, rfl, _, _, _, rfl, rfl, line400 t4, ltr_at t5, _, hD1, t6, same_upd hS1 nD, ?_⟩
      rw [upd_same, take_snoc e1, List.map_append, List.map_append, List.map_append]
      rfl
    · rintro H1 ⟨hS1, hD1⟩
      rw [List.length_map] at hD1
      exact fin D H1 hS1 hD1
  · refine ⟨⟨_, rfl⟩, .inr ⟨_, rfl, r, rfl, ⟨_, SqT.of hh⟩, fun D nD => ?_⟩⟩
    refine lc_tup (K := K) (a := r) (xs := iv R) (fun i H' => Same H H' ∧ H' D = some (.lst ((((R.take i).map fun t => ltr (pce P' t)).map fun c => (⟨#[c]⟩ : Str)).map V.str))) ⟨same_new nD _, upd_same⟩ (fun i H' _ ⟨hS', _⟩ => SqT.of (hS' _ _ hh)) ?_ ?_
    · rintro i y H1 hy ⟨hS1, hD1⟩
      obtain ⟨t, dx, pl, wl, x, rfl, e1, t1, t2, t3, t4, t5, t6⟩ := turn D i y H1 hy hS1
      refine ⟨rfl, _, rfl, a, C2, dx, _, _, rfl, t1, PK.cl, PK.nP, wfP_P _ _ _, _, rfl, _, _, _, .str (pce P' t), rfl, rfl, SqL.of t2, atI_nat t3, _, rfl, _, _, _, rfl, rfl, line400 t4, ltr_at t5, _, hD1, t6, same_upd hS1 nD, ?_⟩
      rw [upd_same, take_snoc e1, List.map_append, List.map_append, List.map_append]
      rfl
    · rintro H1 ⟨hS1, hD1⟩
      rw [List.length_map] at hD1
      exact fin D H1 hS1 hD1
end
end My
namespace My
open PySem L2 PyProof.Rows
/-- what the walk of a text is -/
def WalkIs (P : List Str) (x : Str) (s : Nat) (v : V) (H : Hp) : Prop := (v = .non ∧ (pcs x s = [] ∨ ¬ ∀ z ∈ pcs x s, z ∈ P)) ∨ (∃ l R, v = .ref l ∧ H l = some (.lst (iv R)) ∧ pcs x s ≠ [] ∧ IsAlong P (pcs x s) R)
theorem WalkIs.same {P : List Str} {x : Str} {s : Nat} {v : V} {H H' : Hp} (h : WalkIs P x s v H) (k : Same H H') : WalkIs P x s v H' := by
  rcases h with h | ⟨l, R, h1, h2, h3⟩
  · exact .inl h
  · exact .inr ⟨l, R, h1, k _ _ h2, h3⟩
theorem WalkIs.dp {K : PySem.W.Frag} {P : List Str} {x : Str} {s : Nat} {u v : V} {H : Hp} (hn : P.Nodup) (h : WalkIs P x s u H) (k : WalkIs P x s v H) : ∃ d, Dp K H u d ∧ Dp K H v d ∧ SeqAt.shaped d = true ∧ PyData.eqv d d = true := by
  have imp : ∀ {R}, pcs x s ≠ [] → IsAlong P (pcs x s) R → (pcs x s = [] ∨ ¬ ∀ z ∈ pcs x s, z ∈ P) → False := fun a b c => c.elim a fun c => c fun z hz => by
    obtain ⟨i, hi⟩ := List.getElem?_of_mem hz
    obtain ⟨t, _, e⟩ := b.2 i z hi
    exact List.mem_of_getElem? e
  rcases h with ⟨rfl, h⟩ | ⟨l, R, rfl, h2, h3, h4⟩
  · rcases k with ⟨rfl, k⟩ | ⟨m, S, rfl, k2, k3, k4⟩
    · exact ⟨.none, .non, .non, rfl, rfl⟩
    · exact (imp k3 k4 h).elim
  · rcases k with ⟨rfl, k⟩ | ⟨m, S, rfl, k2, k3, k4⟩
    · exact (imp h3 h4 k).elim
    · have e := h4.unique hn k4
      subst e
      rw [iv_iz] at h2 k2
      exact ⟨_, dp_iz h2, dp_iz k2, shaped_iz _, eqv_same _⟩
theorem pcs_nil {x : Str} {s : Nat} (h : x.length < s) : pcs x s = [] := List.length_eq_zero_iff.mp (by rw [pcsN_len]; omega)
theorem pcs_some {x : Str} {s : Nat} (h : ¬ x.length < s) : pcs x s ≠ [] := fun e => by
  have := congrArg List.length e
  rw [pcsN_len, List.length_nil] at this
  omega
theorem IsAlong.nil {P : List Str} : IsAlong P [] [] := ⟨rfl, fun i z h => by simp at h⟩
theorem IsAlong.snoc {P L : List Str} {R : List Nat} {z : Str} {t : Nat} (h : IsAlong P L R) (e : P[t]? = some z) : IsAlong P (L ++ [z]) (R ++ [t]) := by
  have hl := h.1
  refine ⟨by rw [List.length_append, List.length_append, hl]; rfl, fun i y hy => ?_⟩
  by_cases c : i < L.length
  · rw [List.getElem?_append_left c] at hy
    obtain ⟨u, a1, a2⟩ := h.2 i y hy
    exact ⟨u, by rw [List.getElem?_append_left (by omega)]; exact a1, a2⟩
  · have hi := (List.getElem?_eq_some_iff.mp hy).1
    rw [List.length_append, List.length_singleton] at hi
    have ei : i = L.length := by omega
    subst ei
    rw [List.getElem?_append_right (Nat.le_refl _), Nat.sub_self] at hy
    cases hy
    exact ⟨t, by rw [← hl, List.getElem?_append_right (Nat.le_refl _), Nat.sub_self]; rfl, e⟩
section
variable {P : Program} {w : World} {K : PySem.W.Frag} {mg : Str → Option Value} {base : Heap} {C C2 : Addr}
def spPieceWeb__ties_along (_ : PySem.W.Frag) (C C2 : Addr) : Sp := fun vs H Q _ => ∃ a P W ts s x, vs = [.ref a, .str x] ∧ PieceAt C C2 a P W ts H ∧ PW P W ts s ∧ OkT x ∧ ¬ x.length < s ∧ ∀ v H', Same H H' → WalkIs P x s v H' → Q v H'
theorem okPieceWeb__ties_along (D : DefM K C2 "_ties_along" "PieceWeb._ties_along" sPieceWeb__ties_along ["self", "text"]) (B : Bs mg) (Glb : Glo mg) (WK : WebK K mg C) (PK : PieceK K mg C2)
    (hpieces_along : Good P w K mg base "pieces_along" spieces_along ["text", "size"] 1 (sppieces_along K C C2))
    (hPieceWeb_size : GoodP P w K mg base C2 "size" "PieceWeb.size" sPieceWeb_size ["self"] 1 (spPieceWeb_size K C C2)) :
    GoodM P w K mg base C2 "_ties_along" "PieceWeb._ties_along" sPieceWeb__ties_along ["self", "text"] 3 (spPieceWeb__ties_along K C C2) := by
  refine D.good fun f fd F => ?_
  obtain ⟨fpieces_along, dpieces_along, Opieces_along, mpieces_along, kpieces_along, bpieces_along, Fpieces_along⟩ := hpieces_along
  obtain ⟨qPieceWeb_size, fPieceWeb_size, dPieceWeb_size, OPieceWeb_size, pPieceWeb_size, bPieceWeb_size⟩ := hPieceWeb_size
  refine F.ok scPieceWeb__ties_along (fun vs H Q E h => ?_) (fun cdv A outer s H vs Q E hr h => ?_)
  · obtain ⟨a, P', W', ts, s, x, rfl, hw, hP, hx, hxs, q⟩ := h
    first | rfl | (rcases h with ⟨_, _, rfl, _⟩ | ⟨_, rfl, _⟩ <;> rfl)
  obtain ⟨a, P', W', ts, s, x, rfl, hw, hP, hx, hxs, q⟩ := h
  refine ⟨_, (pss_cons (ps_set (i := 2) scPieceWeb__ties_along.nd rfl (by first | exact Or.inl rfl | exact Or.inr rfl) (pe_dc (own := [("tie", 3), ("piece", 4)]) (g := gTup K 2 (gCons (gName 3) (gCons (gName 4) gNil))) (by rfl) scPieceWeb__ties_along.nd (pi_enum (by rfl) B.enumerate (pa_cons (pe_fld (pv 0) rfl) pa_nil)) (blkOk_by (own := [("tie", 3), ("piece", 4)]) (N := ["self", "text", "numbers", "tie", "piece", "read"]) (sc := defScope sPieceWeb__ties_along) (by decide +kernel)) (fun _ _ _ _ _ => (pg_tup rfl (pgs_cons (pg_name (i := 3) scPieceWeb__ties_along.nd rfl (by first | exact Or.inl rfl | exact Or.inr rfl)) (pgs_cons (pg_name (i := 4) scPieceWeb__ties_along.nd rfl (by first | exact Or.inl rfl | exact Or.inr rfl)) pgs_nil)))) (fun _ _ _ _ _ => pts_nil) (fun _ _ _ _ _ => (pv 4)) (fun _ _ _ _ _ => (pv 3))))
  (pss_cons (ps_set (i := 5) scPieceWeb__ties_along.nd rfl (by first | exact Or.inl rfl | exact Or.inr rfl) (pe_call Opieces_along (hr.mono (by decide)) rfl mpieces_along kpieces_along bpieces_along .nil pass0 (pa_cons (pv 1) (pa_cons (pe_prop (pv 0) PK.cl pPieceWeb_size OPieceWeb_size (hr.mono (by decide)) bPieceWeb_size .nil pass0 (by rfl)) pa_nil))))
  (pss_cons (ps_if (pt_not (pt_val (pe_callB (cr_all rfl) (by rfl) B.all (by decide +kernel) (pa_cons (pe_lc (own := [("piece", 4)]) (g := gName 4) (by rfl) scPieceWeb__ties_along.nd (pi_list (pv 5)) (blkOk_by (own := [("piece", 4)]) (N := ["self", "text", "numbers", "tie", "piece", "read"]) (sc := defScope sPieceWeb__ties_along) (by decide +kernel)) (fun _ _ _ _ _ => (pg_name (i := 4) scPieceWeb__ties_along.nd rfl (by first | exact Or.inl rfl | exact Or.inr rfl))) (fun _ _ _ _ _ => pts_nil) (fun _ _ _ _ _ => (pe_cmp (pc_din (hu_of hr) (pv 4) (pv 2)) rfl))) pa_nil))))
    (pss_one (ps_ret pe_non)) pss_nil)
  (pss_one (ps_ret (pe_lc (own := [("piece", 4)]) (g := gName 4) (by rfl) scPieceWeb__ties_along.nd (pi_list (pv 5)) (blkOk_by (own := [("piece", 4)]) (N := ["self", "text", "numbers", "tie", "piece", "read"]) (sc := defScope sPieceWeb__ties_along) (by decide +kernel)) (fun _ _ _ _ _ => (pg_name (i := 4) scPieceWeb__ties_along.nd rfl (by first | exact Or.inl rfl | exact Or.inr rfl))) (fun _ _ _ _ _ => pts_nil) (fun _ _ _ _ _ => (pe_dget (hu_of hr) (pv 2) (pv 4) (by exact fun _ _ => rfl))))))))), ?_⟩
  obtain ⟨o1, o2, o3, o4, o5, o6⟩ := id hP.p
  obtain ⟨dx, pl, wl, y, h1, h2, h3, h4⟩ := id hw
  have hxl := hx.len
  refine ⟨_, rfl, a, C2, dx, _, _, rfl, h1, PK.cl, PK.nP, wfP_P _ _ _, pl, _, rfl, SqL.of h2, fun D nD => ?_⟩
  refine dc_it (walk_enum (K := K) (a := pl) (xs := P'.map V.str)) (fun i H' => Same H H' ∧ H' D = some (.dK (dN P' i))) ⟨same_new nD _, upd_same⟩ (fun i H' _ ⟨hS', _⟩ => SqL.of (hS' _ _ h2)) ?_ ?_
  · rintro i y H2 H3 hi ⟨hS2, hD2⟩ ⟨T0, x1, x2, rfl, nT0, rfl, e1, e2⟩
    cases e1
    obtain ⟨z, hz, rfl⟩ := str_at e2
    have hil := (List.getElem?_eq_some_iff.mp hz).1
    refine ⟨T0, _, rfl, SqT.of upd_same, rfl, _, _, rfl, _, _, rfl, rfl, rfl, _, rfl, _, rfl, dN P' i, Sum.inr z, rfl, same_new nT0 _ _ _ hD2, ?_, same_upd (fun b o e => same_new nT0 _ _ _ (hS2 _ _ e)) nD, ?_⟩
    · exact Nat.lt_of_le_of_lt (dN_len P' i) (Nat.lt_of_lt_of_le (by omega : i < 1000) (by decide))
    · rw [upd_same, dN_put o6 hz]
  rintro H1 ⟨hS1, hD1⟩
  rw [List.length_map] at hD1
  refine ⟨_, rfl, _, rfl, a, dx, _, rfl, hS1 _ _ h1, a, P', W', ts, s, rfl, hw.same hS1, hP.p, x, s, rfl, hxl, o5, fun H2 r hS2 nr hr2 => ?_⟩
  have hD2 := hS2 _ _ hD1
  have hsome : ∀ z, (valV (dN P' P'.length) (Sum.inr z : Key)).isSome = decide (z ∈ P') := fun z => by
    by_cases c : z ∈ P'
    · obtain ⟨j, hj⟩ := List.getElem?_of_mem c
      rw [dN_at o6 hj (List.getElem?_eq_some_iff.mp hj).1, decide_eq_true c]
      rfl
    · rw [dN_none (by rw [List.take_length]; exact c), decide_eq_false c]
      rfl
  have hpl : (pcs x s).length ≤ 401 := by rw [pcsN_len]; omega
  refine ⟨_, rfl, r, rfl, ⟨_, SqL.of hr2⟩, fun D2 nD2 => ?_⟩
  refine lc_list (K := K) (a := r) (xs := (pcs x s).map V.str) (fun i H' => Same H2 H' ∧ H' D2 = some (.lst ((((pcs x s).take i).map fun z => decide (z ∈ P')).map V.bl))) ⟨same_new nD2 _, upd_same⟩ (fun i H' _ ⟨hS', _⟩ => SqL.of (hS' _ _ hr2)) ?_ ?_
  · rintro i y H3 hy ⟨hS3, hD3⟩
    obtain ⟨z, hz, rfl⟩ := str_at hy
    have hg : DGet H3 D (.str z) (valV (dN P' P'.length) (Sum.inr z : Key)) := DGet.k (k := Sum.inr z) (hS3 _ _ hD2)
    refine ⟨rfl, _, rfl, _, rfl, D, _, rfl, hg, _, hD3, ?_, same_upd hS3 nD2, ?_⟩
    · rw [List.length_map, List.length_map, List.length_take]
      exact Nat.lt_of_lt_of_le (by omega : _ < 1000) (by decide)
    · rw [upd_same, take_snoc hz, List.map_append, List.map_append, hsome]
      rfl
  rintro H3 ⟨hS3, hD3⟩
  rw [List.length_map, List.take_length] at hD3
  have hS03 := (hS1.trans hS2).trans hS3
  have hr3 := hS3 _ _ hr2
  refine ⟨D2, _, rfl, SqL.of hD3, _, rfl, ?_⟩
  refine ite2 (fun c1 => ?_) (fun c1 => ?_)
  · refine q _ _ hS03 (.inl ⟨rfl, .inr fun hz => ?_⟩)
    have : ((pcs x s).map fun z => decide (z ∈ P')).all id = true := by
      rw [List.all_eq_true]
      intro b hb
      obtain ⟨z, h, rfl⟩ := List.mem_map.mp hb
      exact decide_eq_true (hz z h)
    simp_all
  · have hz : ∀ z ∈ pcs x s, z ∈ P' := by
      simp only [Bool.not_eq_true, Bool.not_eq_false', List.all_eq_true] at c1
      intro z h
      have := c1 _ (List.mem_map.mpr ⟨z, h, rfl⟩)
      simpa using this
    refine ⟨_, rfl, r, rfl, ⟨_, SqL.of hr3⟩, fun D3 nD3 => ?_⟩
    refine lc_list (K := K) (a := r) (xs := (pcs x s).map V.str) (fun i H' => ∃ R, Same H3 H' ∧ H' D3 = some (.lst (iv R)) ∧ IsAlong P' ((pcs x s).take i) R) ⟨[], same_new nD3 _, upd_same, IsAlong.nil⟩ (fun i H' _ ⟨_, hS', _⟩ => SqL.of (hS' _ _ hr3)) ?_ ?_
    · rintro i y H4 hy ⟨R, hS4, hD4, hA⟩
      obtain ⟨z, hzi, rfl⟩ := str_at hy
      obtain ⟨j, hj⟩ := List.getElem?_of_mem (hz z (List.mem_of_getElem? hzi))
      have hg : DGet H4 D (.str z) (some (.int (j : Int))) := by
        rw [← dN_at o6 hj (List.getElem?_eq_some_iff.mp hj).1]
        exact DGet.k (k := Sum.inr z) (hS4 _ _ (hS3 _ _ hD2))
      refine ⟨rfl, _, rfl, _, rfl, D, _, rfl, hg, _, hD4, ?_, R ++ [j], same_upd hS4 nD3, ?_, ?_⟩
      · rw [List.length_map, hA.1, List.length_take]
        exact Nat.lt_of_lt_of_le (by omega : _ < 1000) (by decide)
      · rw [upd_same, iv_app]
      · rw [take_snoc hzi]
        exact hA.snoc hj
    rintro H4 ⟨R, hS4, hD4, hA⟩
    rw [List.length_map, List.take_length] at hA
    exact q _ _ (hS03.trans hS4) (.inr ⟨D3, R, rfl, hD4, pcs_some hxs, hA⟩)
end
end My
namespace My
open PySem L2 PyProof.Rows
theorem inV_st (x : Str) (L : List Str) : inV (.str x) (L.map V.str) = decide (x ∈ L) := by
  unfold inV
  induction L with
  | nil => rfl
  | cons a r ih =>
    rw [List.map_cons, List.any_cons, ih]
    show ((a == x) || _) = _
    by_cases h : a = x
    · subst h
      simp
    · have e : (a == x) = false := beq_eq_false_iff_ne.mpr h
      rw [e, Bool.false_or]
      have : ¬ x = a := fun z => h z.symm
      simp [this]
theorem flat_st (L : List Str) : (L.map V.str).all flatV = true := by
  rw [List.all_eq_true]
  intro x hx
  obtain ⟨n, _, rfl⟩ := List.mem_map.mp hx
  rfl
theorem eqV_st (x y : Str) : eqV (.str x) (.str y) = decide (x = y) := by
  show (x == y) = _
  by_cases h : x = y
  · subst h; simp
  · rw [beq_eq_false_iff_ne.mpr h, decide_eq_false h]
/-- where a text stands in a list -/
theorem index_st {K : PySem.W.Frag} {H : Hp} {l : Addr} {L : List Str} {x : Str} {u : Nat} {Q : VK} (hn : L.Nodup) (hl : H l = some (.lst (L.map V.str))) (hu : L[u]? = some x) (q : Q (.int ((u : Nat) : Int)) H) : rIndex K (.ref l) [.str x] H Q := by
  refine ⟨l, _, _, u, .str x, rfl, rfl, SqL.of hl, rfl, flat_st L, by rw [List.getElem?_map, hu]; rfl, by rw [eqV_st]; simp, fun m z hm hz => ?_, q⟩
  obtain ⟨y, hy, rfl⟩ := str_at hz
  rw [eqV_st]
  refine decide_eq_false fun e => ?_
  subst e
  have := nodup_get hn hy hu
  omega
/-- letters -/
def Lts (m : List Nat) : Prop := ∀ c ∈ m, 97 ≤ c ∧ c ≤ 122
theorem Lts.ok {m : List Nat} (h : Lts m) (k : m.length ≤ 400) : OkT (tS m) := ⟨by rw [T_len]; exact k, fun c hc => h c (by simpa using hc)⟩
theorem nodup_snoc {α : Type} {L : List α} {x : α} (h : L.Nodup) (n : x ∉ L) : (L ++ [x]).Nodup := by
  rw [List.nodup_append]
  refine ⟨h, by simp, fun a ha b hb => ?_⟩
  rw [List.mem_singleton.mp hb]
  exact fun z => n (by rw [← z]; exact ha)
theorem IsTies.snoc {W L : List Str} {ts : List (Nat × Nat)} {i u v : Nat} {z : Str} (h : IsTies W (L.take i) ts) (hz : L[i]? = some z) (hu : W[u]? = some (fst_ z)) (hv : W[v]? = some (lst_ z)) : IsTies W (L.take (i + 1)) (ts ++ [(u, v)]) := by
  have hil := (List.getElem?_eq_some_iff.mp hz).1
  have htl : ts.length = i := by rw [h.1, List.length_take]; omega
  refine ⟨?_, fun j x hx => ?_⟩
  · rw [List.length_append, htl, List.length_take, List.length_singleton]
    omega
  · rw [take_snoc hz] at hx
    by_cases c : j < i
    · rw [List.getElem?_append_left (by rw [List.length_take]; omega)] at hx
      obtain ⟨u', v', a1, a2, a3⟩ := h.2 j x hx
      exact ⟨u', v', by rw [List.getElem?_append_left (by omega)]; exact a1, a2, a3⟩
    · have hj := (List.getElem?_eq_some_iff.mp hx).1
      rw [List.length_append, List.length_take, List.length_singleton] at hj
      have e : j = i := by omega
      subst e
      rw [List.getElem?_append_right (by rw [List.length_take]; omega), List.length_take, Nat.min_eq_left (by omega), Nat.sub_self] at hx
      cases hx
      exact ⟨u, v, by rw [List.getElem?_append_right (by omega), htl, Nat.sub_self]; rfl, hu, hv⟩
theorem of_ab : Str.ofString "ab" = tS [97, 98] := by decide +kernel
theorem of_abc : Str.ofString "abc" = tS [97, 98, 99] := by decide +kernel
section
variable {P : Program} {w : World} {K : PySem.W.Frag} {mg : Str → Option Value} {base : Heap} {C C2 : Addr}
def sp_law_pot (K : PySem.W.Frag) (_ _ : Addr) : Sp := fun vs H Q _ => ∃ a, ∃ ns : List Int, vs = [.ref a, .int 0] ∧ SqL K H a (ns.map V.int) ∧ ∀ p H', PotAt H' p → Same H H' → H p = none → Q (.ref p) H'
theorem ok_law_pot (D : Def K mg "_law_pot" s_law_pot ["_law_script", "_law_k"]) (B : Bs mg) (Glb : Glo mg) (WK : WebK K mg C) (PK : PieceK K mg C2) :
    Good P w K mg base "_law_pot" s_law_pot ["_law_script", "_law_k"] 1 (sp_law_pot K C C2) := by
  refine D.good fun f fd F => ?_
  refine F.ok sc_law_pot (fun vs H Q E h => ?_) (fun cdv A outer s H vs Q E hr h => ?_)
  · obtain ⟨a, ns, rfl, hS, q⟩ := h
    first | rfl | (rcases h with ⟨_, _, rfl, _⟩ | ⟨_, rfl, _⟩ <;> rfl)
  obtain ⟨a, ns, rfl, hS, q⟩ := h
  refine ⟨_, (pss_cons (ps_set (i := 2) sc_law_pot.nd rfl (by first | exact Or.inl rfl | exact Or.inr rfl) (pe_op op_add (pe_op op_mul pe_int (pv 1)) pe_int))
  (pss_cons (ps_if (pt_cmpR op_lt (pv 1) (pe_callB call_len_seq (by rfl) B.len (by decide +kernel) (pa_cons (pv 0) pa_nil)) (nomark _))
    (pss_one (ps_set (i := 2) sc_law_pot.nd rfl (by first | exact Or.inl rfl | exact Or.inr rfl) (pe_callB call_abs (by rfl) B.abs (by decide +kernel) (pa_cons (pe_ix ix_list (pv 0) (pv 1) (fun _ _ => rfl)) pa_nil)))) pss_nil)
  (pss_cons (ps_set (i := 3) sc_law_pot.nd rfl (by first | exact Or.inl rfl | exact Or.inr rfl) (pe_op op_add (pe_op op_add (pe_op op_mul (pe_op op_mod (pe_callTy call_int1 (by rfl) B.int (by decide +kernel) (pa_cons (pv 2) pa_nil)) pe_int) pe_int) (pe_op op_mul pe_int (pv 1))) pe_int))
  (pss_one (ps_ret (pe_lst (pa_cons (pe_callB (call_max2 rfl) (by rfl) B.max (by decide +kernel) (pa_cons pe_int (pa_cons (pe_op op_sub (pv 2) (pe_op op_pow pe_int pe_int)) pa_nil))) (pa_cons (pe_op op_add (pe_op op_mod (pe_callTy call_int1 (by rfl) B.int (by decide +kernel) (pa_cons (pv 3) pa_nil)) pe_int) pe_int) pa_nil)))))))), ?_⟩
  refine ⟨_, rfl, _, _, rfl, rfl, .inl ⟨by decide, by decide⟩, _, _, rfl, rfl, ?_⟩
  refine ⟨_, rfl, _, rfl, _, _, rfl, .inl hS, _, _, rfl, rfl, _, rfl, ?_⟩
  refine ite2 (fun c1 => ?pos) (fun c1 => ?neg)
  case' pos =>
    obtain ⟨n, rest, rfl⟩ : ∃ n rest, ns = n :: rest := by
      cases ns with
      | nil => exact absurd (of_decide_eq_true c1) (by decide)
      | cons n rest => exact ⟨n, rest, rfl⟩
    refine ⟨_, rfl, _, rfl, _, _, _, .int n, rfl, rfl, hS, atI_nat (j := 0) rfl, _, rfl, ?_⟩
    have hz0 : (0 : Int) ≤ (if n < 0 then -n else n) := by split <;> omega
  case' neg =>
    have hz0 : (0 : Int) ≤ (1063 * 0 + 181) := by decide
  all_goals
    refine ⟨_, rfl, .inl ⟨_, rfl, _, _, rfl, rfl, (by show (0 : Int) < 2147483549; decide), _, _, rfl, rfl, .inl ⟨?_, ?_⟩, _, rfl, _, _, rfl, rfl, .inl ⟨by decide, by decide⟩, _, _, rfl, rfl, _, _, rfl, rfl, ?_⟩⟩
    · omega
    · omega
    refine ⟨_, rfl, _, _, rfl, rfl, ⟨by decide, by decide, by decide⟩, _, _, rfl, rfl, _, _, rfl, _, rfl, .inl ⟨_, rfl, _, _, rfl, rfl, (by show (0 : Int) < 2147483563; decide), _, _, rfl, rfl, (by show 2 ≤ sizeLine; decide), fun p np => ?_⟩⟩
    · refine q p _ ⟨_, _, upd_same, ?_, ?_, ?_⟩ (same_new np _) np
      · split <;> omega
      · omega
      · omega
def sp_law_draw (_ : PySem.W.Frag) (_ _ : Addr) : Sp := fun vs H Q _ => ∃ a n, vs = [.ref a, .int ((n : Nat) : Int)] ∧ PotAt H a ∧ 0 < n ∧ n ≤ 1000 ∧ ∀ (d : Nat) H', d < n → Kept a H H' → PotAt H' a → Q (.int (d : Int)) H'
theorem ok_law_draw (D : Def K mg "_law_draw" s_law_draw ["_law_pot_here", "_law_size"]) (B : Bs mg) (Glb : Glo mg) (WK : WebK K mg C) (PK : PieceK K mg C2) :
    Good P w K mg base "_law_draw" s_law_draw ["_law_pot_here", "_law_size"] 1 (sp_law_draw K C C2) := by
  refine D.good fun f fd F => ?_
  refine F.ok sc_law_draw (fun vs H Q E h => ?_) (fun cdv A outer s H vs Q E hr h => ?_)
  · obtain ⟨a, n, rfl, ⟨x, y, ha, hx, hy, hy2⟩, hn, hn2, q⟩ := h
    first | rfl | (rcases h with ⟨_, _, rfl, _⟩ | ⟨_, rfl, _⟩ <;> rfl)
  obtain ⟨a, n, rfl, ⟨x, y, ha, hx, hy, hy2⟩, hn, hn2, q⟩ := h
  refine ⟨_, (pss_cons (ps_if (pt_cmpR op_gt (pe_ix ix_list (pv 0) pe_int (fun _ _ => rfl)) pe_int (nomark _))
    (pss_cons (ps_asg (pe_callB call_divmod (by rfl) B.divmod (by decide +kernel) (pa_cons (pe_ix ix_list (pv 0) pe_int (fun _ _ => rfl)) (pa_cons (pv 1) pa_nil))) (pg_tup rfl (pgs_cons (pg_sub (pv 0) pe_int set_list) (pgs_cons (pg_name (i := 2) sc_law_draw.nd rfl (by first | exact Or.inl rfl | exact Or.inr rfl)) pgs_nil))))
  (pss_one (ps_ret (pv 2)))) pss_nil)
  (pss_cons (ps_asg (pe_op op_mod (pe_callTy call_int1 (by rfl) B.int (by decide +kernel) (pa_cons (pe_op op_add (pe_op op_mul (pe_ix ix_list (pv 0) pe_int (fun _ _ => rfl)) pe_int) pe_int) pa_nil)) pe_int) (pg_sub (pv 0) pe_int set_list))
  (pss_one (ps_ret (pe_op op_mod (pe_callTy call_int1 (by rfl) B.int (by decide +kernel) (pa_cons (pe_op op_fdiv (pe_op op_mod (pe_callTy call_int1 (by rfl) B.int (by decide +kernel) (pa_cons (pe_op op_mul (pe_ix ix_list (pv 0) pe_int (fun _ _ => rfl)) (pe_ix ix_list (pv 0) pe_int (fun _ _ => rfl))) pa_nil)) pe_int) pe_int) pa_nil)) (pv 1)))))), ?_⟩
  refine ⟨_, rfl, _, _, _, .int x, rfl, rfl, SqL.of ha, rfl, _, _, rfl, rfl, _, rfl, ?_⟩
  refine ite2 (fun c1 => ?_) (fun c1 => ?_)
  · have hpos : (0 : Int) < x := of_decide_eq_true c1
    refine ⟨_, rfl, _, _, _, .int x, rfl, rfl, SqL.of ha, rfl, _, rfl, _, _, rfl, ⟨by omega, by omega⟩, fun p np => ?_⟩
    have hpa : a ≠ p := ne_of_none ha np
    have ha' : (upd H p (.tup [.int (x / (n : Int)), .int (x % (n : Int))])) a = some (.lst [.int x, .int y]) := by
      rw [upd_ne hpa]
      exact ha
    have ed : (((x % (n : Int)).toNat : Nat) : Int) = x % (n : Int) := Int.toNat_of_nonneg (Int.emod_nonneg _ (by omega))
    have el := Int.emod_lt_of_pos x (show (0 : Int) < (n : Int) by omega)
    refine ⟨_, _, rfl, SqT.of upd_same, rfl, _, _, rfl, _, rfl, _, _, _, 0, rfl, rfl, ha', rfl, _, _, rfl, rfl, ?_⟩
    refine ⟨_, rfl, ?_⟩
    have := q (x % (n : Int)).toNat (upd (upd H p (.tup [.int (x / (n : Int)), .int (x % (n : Int))])) a (.lst [.int (x / (n : Int)), .int y])) (by omega) (fun b o e nb => by rw [upd_ne nb, upd_ne (ne_of_none e np)]; exact e)
      ⟨_, _, upd_same, Int.ediv_nonneg hx (by omega), hy, hy2⟩
    rw [ed] at this
    exact this
  · refine ⟨_, rfl, _, _, _, .int y, rfl, rfl, SqL.of ha, rfl, _, _, rfl, rfl, .inl ⟨by omega, by omega⟩, _, _, rfl, rfl, .inl ⟨_, rfl, _, _, rfl, rfl, (by show (0 : Int) < 2147483587; decide), _, rfl, _, _, _, 1, rfl, rfl, ha, rfl, ?_⟩⟩
    have hz0 : (0 : Int) ≤ (y * 39373 + 9629) % 2147483587 := by omega
    have hz1 : (y * 39373 + 9629) % 2147483587 < (2147483587 : Int) := by omega
    refine ⟨_, rfl, _, _, _, .int ((y * 39373 + 9629) % 2147483587), rfl, rfl, SqL.of upd_same, rfl, _, rfl, _, _, _, .int ((y * 39373 + 9629) % 2147483587), rfl, rfl, SqL.of upd_same, rfl, _, _, rfl, rfl, .inl ⟨by omega, by omega⟩, .inl ⟨_, rfl, _, _, rfl, rfl, (by show (0 : Int) < 2147483563; decide), _, _, rfl, rfl, ⟨by decide, by decide⟩, .inl ⟨_, rfl, _, rfl, _, _, rfl, rfl, (by show (0 : Int) < (n : Int); omega), ?_⟩⟩⟩
    have fin : ∀ z : Int, 0 ≤ z → z < 2147483587 → Q (V.int (z * z % 2147483563 / 19 % (n : Int))) (upd H a (.lst [.int x, .int z])) := fun z hz0 hz1 => by
      have ed : (((z * z % 2147483563 / 19 % (n : Int)).toNat : Nat) : Int) = z * z % 2147483563 / 19 % (n : Int) := Int.toNat_of_nonneg (Int.emod_nonneg _ (by omega))
      have el := Int.emod_lt_of_pos (z * z % 2147483563 / 19) (show (0 : Int) < (n : Int) by omega)
      have := q (z * z % 2147483563 / 19 % (n : Int)).toNat (upd H a (.lst [.int x, .int z])) (by omega) (fun b o e nb => by rw [upd_ne nb]; exact e) ⟨_, _, upd_same, hx, hz0, by omega⟩
      rw [ed] at this
      exact this
    exact fin _ hz0 hz1
def sp_law_pick (K : PySem.W.Frag) (_ _ : Addr) : Sp := fun vs H Q _ => ∃ a, (∃ l, ∃ xs : List V, vs = [.ref a, .ref l] ∧ H l = some (.lst xs) ∧ l ≠ a ∧ 0 < xs.length ∧ xs.length ≤ 1000 ∧ PotAt H a ∧ ∀ v H', v ∈ xs → Kept a H H' → PotAt H' a → Q v H')
  ∨ (∃ l : List Nat, vs = [.ref a, T l] ∧ 0 < l.length ∧ l.length ≤ 1000 ∧ PotAt H a ∧ ∀ c H', c ∈ l → Kept a H H' → PotAt H' a → Q (T [c]) H')
theorem ok_law_pick (D : Def K mg "_law_pick" s_law_pick ["_law_pot_here", "_law_some"]) (B : Bs mg) (Glb : Glo mg) (WK : WebK K mg C) (PK : PieceK K mg C2)
    (h_law_draw : Good P w K mg base "_law_draw" s_law_draw ["_law_pot_here", "_law_size"] 1 (sp_law_draw K C C2)) :
    Good P w K mg base "_law_pick" s_law_pick ["_law_pot_here", "_law_some"] 2 (sp_law_pick K C C2) := by
  refine D.good fun f fd F => ?_
  obtain ⟨f_law_draw, d_law_draw, O_law_draw, m_law_draw, k_law_draw, b_law_draw, F_law_draw⟩ := h_law_draw
  refine F.ok sc_law_pick (fun vs H Q E h => ?_) (fun cdv A outer s H vs Q E hr h => ?_)
  · obtain ⟨a, h⟩ := h
    first | rfl | (rcases h with ⟨_, _, rfl, _⟩ | ⟨_, rfl, _⟩ <;> rfl)
  obtain ⟨a, h⟩ := h
  rcases h with ⟨l, xs, rfl, hl, hla, h0, hlen, hp, q⟩ | ⟨l, rfl, h0, hlen, hp, q⟩
  · refine ⟨_, (pss_one (ps_ret (pe_ix ix_seq (pv 1) (pe_call O_law_draw hr rfl m_law_draw k_law_draw b_law_draw .nil pass0 (pa_cons (pv 0) (pa_cons (pe_callB call_len (by rfl) B.len (by decide +kernel) (pa_cons (pv 1) pa_nil)) pa_nil))) (fun _ _ => rfl)))), ?_⟩
    refine ⟨_, rfl, _, rfl, _, rfl, _, _, rfl, .inl ⟨_, SqL.of hl, rfl⟩, a, xs.length, rfl, hp, h0, hlen, fun d H' hd hk hp' => ?_⟩
    exact .inl ⟨_, _, _, _, rfl, rfl, SqL.of (hk l _ hl hla), atI_nat (List.getElem?_eq_getElem hd), q _ H' (List.getElem_mem hd) hk hp'⟩
  · refine ⟨_, (pss_one (ps_ret (pe_ix ix_seq (pv 1) (pe_call O_law_draw hr rfl m_law_draw k_law_draw b_law_draw .nil pass0 (pa_cons (pv 0) (pa_cons (pe_callB call_len (by rfl) B.len (by decide +kernel) (pa_cons (pv 1) pa_nil)) pa_nil))) (fun _ _ => rfl)))), ?_⟩
    refine ⟨_, rfl, _, rfl, _, rfl, _, l.length, rfl, ⟨T_line hlen, T_len l⟩, a, l.length, rfl, hp, h0, hlen, fun d H' hd hk hp' => ?_⟩
    exact .inr (.inr ⟨_, _, _, rfl, rfl, T_line hlen, at_nat (List.getElem?_eq_getElem hd), q _ H' (List.getElem_mem hd) hk hp'⟩)
def sp_law_pieces_drawn (K : PySem.W.Frag) (_ _ : Addr) : Sp := fun vs H Q _ => ∃ a, ∃ s m : Nat, vs = [.ref a, .int (s : Int), .int (m : Int)] ∧ PotAt H a ∧ 2 ≤ s ∧ s ≤ 4 ∧ 0 < m ∧ m ≤ 9 ∧ ∀ p L H', OkP L s → L.length ≤ m → H p = none → p ≠ a → H' p = some (.lst (L.map V.str)) → Kept a H H' → PotAt H' a → Q (.ref p) H'
theorem ok_law_pieces_drawn (D : Def K mg "_law_pieces_drawn" s_law_pieces_drawn ["_law_pot_here", "_law_size", "_law_most"]) (B : Bs mg) (Glb : Glo mg) (WK : WebK K mg C) (PK : PieceK K mg C2)
    (h_law_pick : Good P w K mg base "_law_pick" s_law_pick ["_law_pot_here", "_law_some"] 2 (sp_law_pick K C C2))
    (h_law_draw : Good P w K mg base "_law_draw" s_law_draw ["_law_pot_here", "_law_size"] 1 (sp_law_draw K C C2)) :
    Good P w K mg base "_law_pieces_drawn" s_law_pieces_drawn ["_law_pot_here", "_law_size", "_law_most"] 3 (sp_law_pieces_drawn K C C2) := by
  refine D.good fun f fd F => ?_
  obtain ⟨f_law_pick, d_law_pick, O_law_pick, m_law_pick, k_law_pick, b_law_pick, F_law_pick⟩ := h_law_pick
  obtain ⟨f_law_draw, d_law_draw, O_law_draw, m_law_draw, k_law_draw, b_law_draw, F_law_draw⟩ := h_law_draw
  refine F.ok sc_law_pieces_drawn (fun vs H Q E h => ?_) (fun cdv A outer s H vs Q E hr h => ?_)
  · obtain ⟨a, s, mm, rfl, hp, hs1, hs2, hm1, hm2, q⟩ := h
    first | rfl | (rcases h with ⟨_, _, rfl, _⟩ | ⟨_, rfl, _⟩ <;> rfl)
  obtain ⟨a, s, mm, rfl, hp, hs1, hs2, hm1, hm2, q⟩ := h
  refine ⟨_, (pss_cons (ps_par (i := 3) (j := 4) (by rfl) sc_law_pieces_drawn.nd rfl rfl (by decide) rfl rfl (pa_cons (pe_call O_law_pick hr rfl m_law_pick k_law_pick b_law_pick .nil pass0 (pa_cons (pv 0) (pa_cons (pe_lst (pa_cons pe_str (pa_cons pe_str (pa_cons pe_str pa_nil)))) pa_nil))) (pa_cons (pe_lst pa_nil) pa_nil)) (by rfl))
  (pss_cons (ps_for PassesOwn.never rfl (pi_range1 (by rfl) B.range (pa_cons (pe_op op_add pe_int (pe_call O_law_draw (hr.mono (by decide)) rfl m_law_draw k_law_draw b_law_draw .nil pass0 (pa_cons (pv 0) (pa_cons (pv 2) pa_nil)))) pa_nil)) (pg_name (i := 5) sc_law_pieces_drawn.nd rfl (by first | exact Or.inl rfl | exact Or.inr rfl))
    (pss_cons (ps_set (i := 6) sc_law_pieces_drawn.nd rfl (by first | exact Or.inl rfl | exact Or.inr rfl) pe_str)
  (pss_cons (ps_for PassesOwn.never rfl (pi_range1 (by rfl) B.range (pa_cons (pv 1) pa_nil)) (pg_name (i := 7) sc_law_pieces_drawn.nd rfl (by first | exact Or.inl rfl | exact Or.inr rfl))
    (pss_one (ps_set (i := 6) sc_law_pieces_drawn.nd rfl (by first | exact Or.inl rfl | exact Or.inr rfl) (pe_op op_add_str (pv 6) (pe_call O_law_pick hr rfl m_law_pick k_law_pick b_law_pick .nil pass0 (pa_cons (pv 0) (pa_cons (pv 3) pa_nil)))))))
  (pss_one (ps_if (pt_cmpR op_notIn_seq (pv 6) (pv 4) (by rfl))
    (pss_one (ps_expr (pe_bm PySem.F.plainAttrs_list PySem.F.slot_list_append PySem.F.type_list_append mt_append (pv 4) (pa_cons (pv 6) pa_nil)))) pss_nil)))))
  (pss_one (ps_ret (pv 4))))), ?_⟩
  refine ⟨_, rfl, (by show 3 ≤ sizeLine; decide), fun l0 nl0 => ⟨a, .inl ⟨l0, _, rfl, upd_same, hp.ne nl0, by decide, by decide, hp.new nl0, fun v H1 hv hk1 hp1 => ?_⟩⟩⟩
  have hk1 : Kept a H H1 := (Same.kept (same_new nl0 _)).trans hk1
  obtain ⟨l, rfl, hl0, hl3, hll⟩ : ∃ l, v = T l ∧ 0 < l.length ∧ l.length ≤ 3 ∧ Lts l := by
    have hv2 : v = T [97, 98] ∨ v = T [97, 98, 99] ∨ v = T [97, 98] := by
      simpa [of_ab, of_abc] using hv
    rcases hv2 with rfl | rfl | rfl
    · exact ⟨[97, 98], rfl, by decide, by decide, by unfold Lts; decide⟩
    · exact ⟨[97, 98, 99], rfl, by decide, by decide, by unfold Lts; decide⟩
    · exact ⟨[97, 98], rfl, by decide, by decide, by unfold Lts; decide⟩
  refine ⟨(by show 0 ≤ sizeLine; decide), fun fp nfp => ?_⟩
  have hfa : fp ≠ a := hp1.ne nfp
  have nfH : H fp = none := hk1.free nfp hfa
  have hkF := hk1.new (o := .lst []) nfp
  have hpF := hp1.new (o := .lst []) nfp
  have hfF : upd H1 fp (.lst []) fp = some (.lst (([] : List Str).map V.str)) := upd_same
  generalize upd H1 fp (.lst []) = HF at hkF hpF hfF
  refine ⟨_, _, rfl, _, rfl, _, rfl, a, mm, rfl, hpF, hm1, by omega, fun d H2 hd hk2 hp2 => ⟨_, _, rfl, rfl, _, rfl, by omega, by omega, ?_⟩⟩
  rw [show ((1 : Int) + (d : Int)).toNat = 1 + d by omega]
  refine for_range (lo := 0) (n := 1 + d) (fun i σ H' => ∃ (L : List Str) (v5 v6 v7 : Option V), σ = [some (.ref a), some (.int (s : Int)), some (.int (mm : Int)), some (T l), some (.ref fp), v5, v6, v7] ∧ L.Nodup ∧ (∀ x ∈ L, OkT x ∧ x.length = s) ∧ (i = 0 ∨ 1 ≤ L.length) ∧ L.length ≤ i ∧ Kept a H H' ∧ PotAt H' a ∧ H' fp = some (.lst (L.map V.str))) ⟨[], none, none, none, rfl, by simp, by simp, .inl rfl, by simp, hkF.trans hk2, hp2, hk2 _ _ hfF hfa⟩ ?_ ?_
  · rintro i σ H3 hi ⟨L, v5, v6, v7, rfl, hn, hok, hone, hlen, hk3, hp3, hf3⟩
    refine ⟨_, rfl, _, rfl, by omega, by omega, ?_⟩
    rw [show ((s : Int)).toNat = s by omega]
    refine for_range (lo := 0) (n := s) (fun j σ H' => ∃ (m : List Nat) (v7 : Option V), σ = [some (.ref a), some (.int (s : Int)), some (.int (mm : Int)), some (T l), some (.ref fp), some (.int (0 + (i : Int))), some (T m), v7] ∧ Lts m ∧ m.length = j ∧ Kept a H H' ∧ PotAt H' a ∧ H' fp = some (.lst (L.map V.str))) ⟨[], v7, by rw [T_nil]; rfl, (fun c hc => by simp at hc), rfl, hk3, hp3, hf3⟩ ?_ ?_
    · rintro j σ H4 hj ⟨m, v7, rfl, hm, hml, hk4, hp4, hf4⟩
      refine ⟨_, rfl, _, rfl, _, rfl, a, .inr ⟨l, rfl, hl0, by omega, hp4, fun c H5 hc hk5 hp5 => ⟨_, _, rfl, rfl, ?_, m ++ [c], some (.int (0 + (j : Int))), ?_, ?_, ?_, hk4.trans hk5, hp5, hk5 _ _ hf4 hfa⟩⟩⟩
      · rw [T_len, T_len, List.length_singleton]
        exact line400 (by omega)
      · rw [T_app]
        rfl
      · intro x hx
        rcases List.mem_append.mp hx with hx | hx
        · exact hm x hx
        · rw [List.mem_singleton.mp hx]
          exact hll c hc
      · rw [List.length_append, List.length_singleton, hml]
    rintro σ H4 ⟨m, v7, rfl, hm, hml, hk4, hp4, hf4⟩
    refine ⟨_, rfl, _, rfl, fp, _, rfl, .inl (SqL.of hf4), rfl, flat_st L, _, rfl, ?_⟩
    rw [inV_st]
    have hoT := hm.ok (by omega : m.length ≤ 400)
    by_cases c : tS m ∈ L
    · refine iteNot' c ⟨L, _, _, _, rfl, hn, hok, .inr ?_, by omega, hk4, hp4, hf4⟩
      have := List.length_pos_of_mem c
      omega
    · refine iteNot c ⟨_, rfl, .inl ⟨rfl, _, SqL.of hf4⟩, _, rfl, fp, _, _, rfl, rfl, hf4, ?_, ?_⟩
      · rw [List.length_map]
        exact Nat.lt_of_lt_of_le (by omega : L.length < 1000) (by decide)
      refine ⟨L ++ [tS m], _, _, _, rfl, nodup_snoc hn c, ?_, .inr (by simp), by rw [List.length_append, List.length_singleton]; omega, hk4.put nfH, hp4.put hfa, by rw [upd_same, List.map_append]; rfl⟩
      intro x hx
      rcases List.mem_append.mp hx with hx | hx
      · exact hok x hx
      · rw [List.mem_singleton.mp hx]
        exact ⟨hoT, by rw [T_len]; exact hml⟩
  · rintro σ H3 ⟨L, v5, v6, v7, rfl, hn, hok, hone, hlen, hk3, hp3, hf3⟩
    exact ⟨_, rfl, q fp L H3 ⟨by omega, by omega, hok, hs1, by omega, hn⟩ (by omega) nfH hfa hf3 hk3 hp3⟩
def sp_law_words (_ : PySem.W.Frag) (_ _ : Addr) : Sp := fun vs H Q _ => ∃ l L, vs = [.ref l] ∧ H l = some (.lst (L.map V.str)) ∧ L.length ≤ 80 ∧ (∀ x ∈ L, x.length ≤ 8) ∧ ∀ (H' : Hp) (p : Addr) (M : List Str), Same H H' → H p = none → H' p = some (.lst (M.map V.str)) → IsWords L M → Q (.ref p) H'
theorem ok_law_words (D : Def K mg "_law_words" s_law_words ["_law_pieces"]) (B : Bs mg) (Glb : Glo mg) (WK : WebK K mg C) (PK : PieceK K mg C2) :
    Good P w K mg base "_law_words" s_law_words ["_law_pieces"] 1 (sp_law_words K C C2) := by
  refine D.good fun f fd F => ?_
  refine F.ok sc_law_words (fun vs H Q E h => ?_) (fun cdv A outer s H vs Q E hr h => ?_)
  · obtain ⟨l, L, rfl, hh, hlen, hsm, q⟩ := h
    first | rfl | (rcases h with ⟨_, _, rfl, _⟩ | ⟨_, rfl, _⟩ <;> rfl)
  obtain ⟨l, L, rfl, hh, hlen, hsm, q⟩ := h
  refine ⟨_, (pss_one (ps_ret (pe_callB (cr_sortTx rfl hr.units) (by rfl) B.sorted (by decide +kernel) (pa_cons (pe_callTy (cr_setTx rfl) (by rfl) B.set (by decide +kernel) (pa_cons (pe_op op_cat (pe_lc (own := [("_law_piece", 1)]) (g := gName 1) (by rfl) sc_law_words.nd (pi_list (pv 0)) (blkOk_by (own := [("_law_piece", 1)]) (N := ["_law_pieces", "_law_piece"]) (sc := defScope s_law_words) (by decide +kernel)) (fun _ _ _ _ _ => (pg_name (i := 1) sc_law_words.nd rfl (by first | exact Or.inl rfl | exact Or.inr rfl))) (fun _ _ _ _ _ => pts_nil) (fun _ _ _ _ _ => (pe_slice sl_str (pv 1) po_none (po_some (pe_un un_neg pe_int))))) (pe_lc (own := [("_law_piece", 1)]) (g := gName 1) (by rfl) sc_law_words.nd (pi_list (pv 0)) (blkOk_by (own := [("_law_piece", 1)]) (N := ["_law_pieces", "_law_piece"]) (sc := defScope s_law_words) (by decide +kernel)) (fun _ _ _ _ _ => (pg_name (i := 1) sc_law_words.nd rfl (by first | exact Or.inl rfl | exact Or.inr rfl))) (fun _ _ _ _ _ => pts_nil) (fun _ _ _ _ _ => (pe_slice sl_str (pv 1) (po_some pe_int) po_none)))) pa_nil)) pa_nil)))), ?_⟩
  refine ⟨_, rfl, l, rfl, ⟨_, SqL.of hh⟩, fun D1 nD1 => ?_⟩
  refine lc_list (K := K) (a := l) (xs := L.map V.str) (fun j H' => Same H H' ∧ H' D1 = some (.lst (((L.take j).map fun x => cutS x none (some (-1))).map V.str))) ⟨same_new nD1 _, upd_same⟩ (fun j H' _ ⟨hS', _⟩ => SqL.of (hS' _ _ hh)) ?_ ?_
  · rintro j y H1 hy ⟨hS1, hD1⟩
    obtain ⟨x, hx, rfl⟩ := str_at hy
    have hj := (List.getElem?_eq_some_iff.mp hx).1
    have h8 := hsm x (List.mem_of_getElem? hx)
    refine ⟨rfl, _, rfl, _, rfl, _, rfl, _, rfl, line400 (by omega), _, hD1, ?_, same_upd hS1 nD1, ?_⟩
    · rw [List.length_map, List.length_map, List.length_take]
      exact Nat.lt_of_le_of_lt (Nat.min_le_left _ _) (Nat.lt_of_lt_of_le (by omega : j < 1000) (by decide))
    · rw [upd_same, take_snoc hx, List.map_append, List.map_append]
      rfl
  rintro H1 ⟨hS1, hD1⟩
  rw [List.length_map, List.take_length] at hD1
  refine ⟨_, rfl, l, rfl, ⟨_, SqL.of (hS1 _ _ hh)⟩, fun D2 nD2 => ?_⟩
  refine lc_list (K := K) (a := l) (xs := L.map V.str) (fun j H' => Same H1 H' ∧ H' D2 = some (.lst (((L.take j).map fun x => cutS x (some 1) none).map V.str))) ⟨same_new nD2 _, upd_same⟩ (fun j H' _ ⟨hS', _⟩ => SqL.of (hS' _ _ (hS1 _ _ hh))) ?_ ?_
  · rintro j y H2 hy ⟨hS2, hD2⟩
    obtain ⟨x, hx, rfl⟩ := str_at hy
    have hj := (List.getElem?_eq_some_iff.mp hx).1
    have h8 := hsm x (List.mem_of_getElem? hx)
    refine ⟨rfl, _, rfl, _, rfl, _, rfl, line400 (by omega), _, hD2, ?_, same_upd hS2 nD2, ?_⟩
    · rw [List.length_map, List.length_map, List.length_take]
      exact Nat.lt_of_le_of_lt (Nat.min_le_left _ _) (Nat.lt_of_lt_of_le (by omega : j < 1000) (by decide))
    · rw [upd_same, take_snoc hx, List.map_append, List.map_append]
      rfl
  rintro H2 ⟨hS2, hD2⟩
  rw [List.length_map, List.take_length] at hD2
  have hS02 := hS1.trans hS2
  refine ⟨D1, D2, _, _, rfl, rfl, hS2 _ _ hD1, hD2, ?_, fun p np => ?_⟩
  · rw [List.length_map, List.length_map, List.length_map, List.length_map]
    exact line400 (by omega)
  have hS3 : Same H (upd H2 p (.lst (((L.map fun x => cutS x none (some (-1))).map V.str) ++ ((L.map fun x => cutS x (some 1) none).map V.str)))) := fun b o e => same_new np _ _ _ (hS02 _ _ e)
  have hp3 : (upd H2 p (.lst (((L.map fun x => cutS x none (some (-1))).map V.str) ++ ((L.map fun x => cutS x (some 1) none).map V.str)))) p = some (.lst (((L.map fun x => cutS x none (some (-1))) ++ (L.map fun x => cutS x (some 1) none)).map V.str)) := by rw [upd_same, List.map_append]
  generalize upd H2 p (.lst (((L.map fun x => cutS x none (some (-1))).map V.str) ++ ((L.map fun x => cutS x (some 1) none).map V.str))) = H3 at hS3 hp3
  have hxl : ((L.map fun x => cutS x none (some (-1))) ++ (L.map fun x => cutS x (some 1) none)).length = 2 * L.length := by
    rw [List.length_append, List.length_map, List.length_map]
    omega
  refine ⟨p, _, rfl, .inl (SqL.of hp3), by rw [hxl]; omega, fun sp n _ hle nsp => ⟨sp, _, n, rfl, upd_same, by rw [hxl] at hle; omega, fun M mp hPw hmem hM nmp => ?_⟩⟩
  refine q _ mp M (fun b o e => same_new nmp _ _ _ (same_new nsp _ _ _ (hS3 _ _ e))) (hS3.free ((same_new (o := TxO _ _ _ _) nsp).free nmp)) upd_same ⟨hPw, fun k => (hmem k).trans (by unfold hasT; exact decide_eq_true_iff)⟩
def sp_law_ties (_ : PySem.W.Frag) (_ _ : Addr) : Sp := fun vs H Q _ => ∃ l L, vs = [.ref l] ∧ H l = some (.lst (L.map V.str)) ∧ L.length ≤ 80 ∧ (∀ x ∈ L, x.length ≤ 8) ∧ ∀ (H' : Hp) (p : Addr) (W : List Str) (ts : List (Nat × Nat)), Same H H' → H p = none → TiesAt H' p ts → IsWords L W → IsTies W (L.mergeSort leS) ts → Q (.ref p) H'
theorem ok_law_ties (D : Def K mg "_law_ties" s_law_ties ["_law_pieces"]) (B : Bs mg) (Glb : Glo mg) (WK : WebK K mg C) (PK : PieceK K mg C2)
    (h_law_words : Good P w K mg base "_law_words" s_law_words ["_law_pieces"] 1 (sp_law_words K C C2)) :
    Good P w K mg base "_law_ties" s_law_ties ["_law_pieces"] 2 (sp_law_ties K C C2) := by
  refine D.good fun f fd F => ?_
  obtain ⟨f_law_words, d_law_words, O_law_words, m_law_words, k_law_words, b_law_words, F_law_words⟩ := h_law_words
  refine F.ok sc_law_ties (fun vs H Q E h => ?_) (fun cdv A outer s H vs Q E hr h => ?_)
  · obtain ⟨l, L, rfl, hh, hlen, hsm, q⟩ := h
    first | rfl | (rcases h with ⟨_, _, rfl, _⟩ | ⟨_, rfl, _⟩ <;> rfl)
  obtain ⟨l, L, rfl, hh, hlen, hsm, q⟩ := h
  refine ⟨_, (pss_cons (ps_set (i := 1) sc_law_ties.nd rfl (by first | exact Or.inl rfl | exact Or.inr rfl) (pe_call O_law_words hr rfl m_law_words k_law_words b_law_words .nil pass0 (pa_cons (pv 0) pa_nil)))
  (pss_one (ps_ret (pe_lc (own := [("_law_piece", 2)]) (g := gName 2) (by rfl) sc_law_ties.nd (pi_list (pe_callB (cr_sortSq hr.units) (by rfl) B.sorted (by decide +kernel) (pa_cons (pv 0) pa_nil))) (blkOk_by (own := [("_law_piece", 2)]) (N := ["_law_pieces", "_law_words_here", "_law_piece"]) (sc := defScope s_law_ties) (by decide +kernel)) (fun _ _ _ _ _ => (pg_name (i := 2) sc_law_ties.nd rfl (by first | exact Or.inl rfl | exact Or.inr rfl))) (fun _ _ _ _ _ => pts_nil) (fun _ _ _ _ _ => (pe_tup (pa_cons (pe_bmK (K := K) rfl PySem.F.plainAttrs_list PySem.F.slot_list_index PySem.F.type_list_index (mt_indexK (K := K) rfl) (pv 1) (pa_cons (pe_slice sl_str (pv 2) po_none (po_some (pe_un un_neg pe_int))) pa_nil)) (pa_cons (pe_bmK (K := K) rfl PySem.F.plainAttrs_list PySem.F.slot_list_index PySem.F.type_list_index (mt_indexK (K := K) rfl) (pv 1) (pa_cons (pe_slice sl_str (pv 2) (po_some pe_int) po_none) pa_nil)) pa_nil)))))))), ?_⟩
  refine ⟨_, rfl, l, L, rfl, hh, hlen, hsm, fun H1 wl W hS1 nwl hwl hW => ?_⟩
  have hn := hW.nodup
  have hh1 := hS1 _ _ hh
  refine ⟨_, rfl, l, L, rfl, .inl (SqL.of hh1), by omega, fun pl npl => ⟨pl, rfl, ⟨_, SqL.of upd_same⟩, fun D nD => ?_⟩⟩
  have hS2 := same_new npl (.lst ((L.mergeSort leS).map V.str))
  have hp2 : upd H1 pl (.lst ((L.mergeSort leS).map V.str)) pl = some (.lst ((L.mergeSort leS).map V.str)) := upd_same
  generalize upd H1 pl (.lst ((L.mergeSort leS).map V.str)) = H2 at nD hS2 hp2
  have hperm : (L.mergeSort leS).Perm L := List.mergeSort_perm L leS
  have tw : ∀ x ∈ L, (∃ u, W[u]? = some (fst_ x)) ∧ ∃ v, W[v]? = some (lst_ x) := fun x hx =>
    ⟨List.getElem?_of_mem ((hW.2 _).mpr (List.mem_append_left _ (List.mem_map.mpr ⟨x, hx, rfl⟩))), List.getElem?_of_mem ((hW.2 _).mpr (List.mem_append_right _ (List.mem_map.mpr ⟨x, hx, rfl⟩)))⟩
  refine lc_list (K := K) (a := pl) (xs := (L.mergeSort leS).map V.str) (fun i H' => ∃ ts, Same H2 H' ∧ TiesAt H' D ts ∧ IsTies W ((L.mergeSort leS).take i) ts) ⟨[], same_new nD _, TiesAt.nil, rfl, fun i x h => by simp at h⟩ (fun i H' _ ⟨_, hS', _⟩ => SqL.of (hS' _ _ hp2)) ?_ ?_
  · rintro i y H3 hy ⟨ts, hS3, hT3, hI⟩
    obtain ⟨z, hz, rfl⟩ := str_at hy
    have hil := (List.getElem?_eq_some_iff.mp hz).1
    rw [hperm.length_eq] at hil
    have hm := hperm.mem_iff.mp (List.mem_of_getElem? hz)
    have h4 := hsm z hm
    obtain ⟨⟨u, hu⟩, ⟨v, hv⟩⟩ := tw z hm
    have hw3 := hS3 _ _ (hS2 _ _ hwl)
    refine ⟨rfl, _, rfl, .inl ⟨rfl, _, SqL.of hw3⟩, _, rfl, _, rfl, _, rfl, _, rfl, line400 (by omega), ?_⟩
    dsimp only [tNil]
    refine index_st hn hw3 hu ?_
    refine ⟨_, rfl, .inl ⟨rfl, _, SqL.of hw3⟩, _, rfl, _, rfl, _, rfl, line400 (by omega), ?_⟩
    dsimp only [tNil]
    refine index_st hn hw3 hv ⟨(by show 2 ≤ sizeLine; decide), fun tp ntp => ?_⟩
    obtain ⟨xs, k1, k2, k3⟩ := hT3.push (u := u) (v := v) ntp
    refine ⟨xs, k1, ?_, ts ++ [(u, v)], same_upd (hS3.trans (same_new ntp _)) nD, k3, hI.snoc hz hu hv⟩
    rw [k2, hI.1, List.length_take]
    exact Nat.lt_of_lt_of_le (by omega : _ < 1000) (by decide)
  rintro H3 ⟨ts, hS3, hT3, hI⟩
  rw [List.length_map, List.take_length] at hI
  exact q H3 D W ts ((hS1.trans hS2).trans hS3) ((hS1.trans hS2).free nD) hT3 hW hI
end
end My
namespace My
open PySem L2 PyProof.Rows
/-! ### rings -/
def Wd (l : List Nat) : Prop := 0 < l.length ∧ l.length ≤ 100 ∧ ∀ c ∈ l, 97 ≤ c ∧ c ≤ 122
theorem Wd.okT {l : List Nat} (h : Wd l) : OkT (tS l) := ⟨by rw [T_len]; have := h.2.1; omega, fun c hc => h.2.2 c (by simpa using hc)⟩
theorem rd_wd {l : List Nat} (h : Wd l) (p n : Nat) (h0 : 0 < n) (h1 : n ≤ 100) : Wd (rd l p n) := by
  refine ⟨by rw [rd_len]; exact h0, by rw [rd_len]; exact h1, fun c hc => ?_⟩
  obtain ⟨k, _, rfl⟩ := List.mem_map.mp (show c ∈ (List.range n).map fun k => l.getD ((p + k) % l.length) 0 from hc)
  have hk : (p + k) % l.length < l.length := Nat.mod_lt _ h.1
  refine h.2.2 _ ?_
  rw [List.getD_eq_getElem?_getD, List.getElem?_eq_getElem hk]
  exact List.getElem_mem hk
theorem rd_cut (l : List Nat) (p n k s : Nat) (h : k + s ≤ n) : ((rd l p n).drop k).take s = rd l (p + k) s := by
  rw [rd_drop]
  refine List.ext_getElem? fun i => ?_
  by_cases c : i < s
  · rw [List.getElem?_take_of_lt c, rd_get _ _ _ _ (by omega), rd_get _ _ _ _ c]
  · rw [List.getElem?_eq_none (by rw [List.length_take, rd_len]; omega), List.getElem?_eq_none (by rw [rd_len]; omega)]
def rps (l : List Nat) (s : Nat) : List Str := (List.range l.length).map fun p => tS (rd l p s)
theorem pcs_opened {l : List Nat} {s p : Nat} (h0 : 0 < l.length) (hs : 1 ≤ s) : pcs (tS (rd l p (l.length + s - 1))) s = (List.range l.length).map fun k => tS (rd l (p + k) s) := by
  have e : (tS (rd l p (l.length + s - 1))).length + 1 - s = l.length := by rw [T_len, rd_len]; omega
  unfold pcs
  rw [e, pcsN_map]
  refine List.map_congr_left fun k hk => ?_
  have hk := List.mem_range.mp hk
  rw [cutS_at, rd_cut _ _ _ _ _ (by omega)]
theorem rd_line {l : List Nat} (p n : Nat) (h : n ≤ 400) : (tS (rd l p n)).length ≤ 400 := by rw [T_len, rd_len]; exact h
theorem rps_opened {l : List Nat} {s : Nat} (h0 : 0 < l.length) (hs : 1 ≤ s) : pcs (tS (rd l 0 (l.length + s - 1))) s = rps l s := by
  rw [pcs_opened h0 hs]
  unfold rps
  exact List.map_congr_left fun k _ => by rw [Nat.zero_add]
theorem rps_okT {l : List Nat} {s : Nat} (h : Wd l) (h0 : 0 < s) (h1 : s ≤ 8) : ∀ x ∈ rps l s, OkT x ∧ x.length = s := fun x hx => by
  obtain ⟨k, _, rfl⟩ := List.mem_map.mp hx
  exact ⟨(rd_wd h k s h0 (by omega)).okT, by rw [T_len, rd_len]⟩
theorem rps_len (l : List Nat) (s : Nat) : (rps l s).length = l.length := by
  unfold rps
  rw [List.length_map, List.length_range]
def mu (n one two alike : Nat) : Nat := (4 * n + 4 - one - two) * (n + 1) + (n - alike)
theorem mu_alike {n one two alike : Nat} (h : alike < n) : mu n one two (alike + 1) < mu n one two alike := by
  unfold mu
  omega
theorem mu_step {n one two alike one' two' : Nat} (h : one + two < one' + two') (h2 : one' + two' ≤ 4 * n + 2) : mu n one' two' 0 < mu n one two alike := by
  unfold mu
  have h3 : (4 * n + 4 - one' - two') + 1 ≤ 4 * n + 4 - one - two := by omega
  have h4 := Nat.mul_le_mul_right (n + 1) h3
  rw [Nat.succ_mul] at h4
  omega
theorem wd_rot {l : List Nat} (h : Wd l) (p : Nat) : Wd (rot l p) := ⟨by rw [rot_len]; exact h.1, by rw [rot_len]; exact h.2.1, fun c hc => h.2.2 c (by
  obtain ⟨k, _, rfl⟩ := List.mem_map.mp hc
  have := Nat.mod_lt (p + k) h.1
  rw [List.getD_eq_getElem?_getD, List.getElem?_eq_getElem this]
  exact List.getElem_mem this)⟩
theorem gt_at {l : List Nat} (h0 : 0 < l.length) (i : Nat) : atI (⟨l.toArray⟩ : Str).cps.toList (((i % l.length : Nat) : Int)) = some (gt l i) := at_nat (getD_lt (Nat.mod_lt _ h0))
theorem lt_one {a b : Nat} : ([a] : List Nat) < [b] ↔ a < b := by
  rw [List.cons_lt_cons_iff]
  constructor
  · rintro (h | ⟨_, h⟩)
    · exact h
    · exact absurd h (List.lt_irrefl _)
  · exact .inl
section
variable {P : Program} {w : World} {K : PySem.W.Frag} {mg : Str → Option Value} {base : Heap} {C C2 : Addr}
def spis_ring (_ : PySem.W.Frag) (_ _ : Addr) : Sp := fun vs H Q _ => ∃ l, vs = [T l] ∧ Wd l ∧ Q (.bl true) H
theorem okis_ring (D : Def K mg "is_ring" sis_ring ["value"]) (B : Bs mg) (Glb : Glo mg) (WK : WebK K mg C) (PK : PieceK K mg C2)
    (his_text : Good P w K mg base "is_text" sis_text ["value"] 2 (spis_text K C C2)) :
    Good P w K mg base "is_ring" sis_ring ["value"] 3 (spis_ring K C C2) := by
  refine D.good fun f fd F => ?_
  obtain ⟨fis_text, dis_text, Ois_text, mis_text, kis_text, bis_text, Fis_text⟩ := his_text
  refine F.ok scis_ring (fun vs H Q E h => ?_) (fun cdv A outer s H vs Q E hr h => ?_)
  · obtain ⟨l, rfl, hl, q⟩ := h
    first | rfl | (rcases h with ⟨_, _, rfl, _⟩ | ⟨_, rfl, _⟩ <;> rfl)
  obtain ⟨l, rfl, hl, q⟩ := h
  refine ⟨_, (pss_one (ps_ret (pe_and (pe_call Ois_text hr rfl mis_text kis_text bis_text .nil pass0 (pa_cons (pv 0) pa_nil)) (pe_one (pe_cmpR op_ne (pv 0) pe_str (nomark _)))))), ?_⟩
  refine ⟨_, rfl, tS l, rfl, hl.okT, _, rfl, iteT ⟨_, rfl, rfl, ?_⟩⟩
  have e : ¬ (T l = V.str (Str.ofString "")) := by
    rw [T_nil, T_inj]
    intro z
    have := hl.1
    rw [z] at this
    exact absurd this (by decide)
  show Q (.bl (!decide (T l = V.str (Str.ofString "")))) H
  rw [decide_eq_false e]
  exact q
def spneed_ring (_ : PySem.W.Frag) (_ _ : Addr) : Sp := fun vs H Q _ => ∃ l, vs = [T l] ∧ Wd l ∧ Q .non H
theorem okneed_ring (D : Def K mg "need_ring" sneed_ring ["ring"]) (B : Bs mg) (Glb : Glo mg) (WK : WebK K mg C) (PK : PieceK K mg C2)
    (his_ring : Good P w K mg base "is_ring" sis_ring ["value"] 3 (spis_ring K C C2)) :
    Good P w K mg base "need_ring" sneed_ring ["ring"] 4 (spneed_ring K C C2) := by
  refine D.good fun f fd F => ?_
  obtain ⟨fis_ring, dis_ring, Ois_ring, mis_ring, kis_ring, bis_ring, Fis_ring⟩ := his_ring
  refine F.ok scneed_ring (fun vs H Q E h => ?_) (fun cdv A outer s H vs Q E hr h => ?_)
  · obtain ⟨l, rfl, hl, q⟩ := h
    first | rfl | (rcases h with ⟨_, _, rfl, _⟩ | ⟨_, rfl, _⟩ <;> rfl)
  obtain ⟨l, rfl, hl, q⟩ := h
  refine ⟨_, (pss_one (ps_if (pt_not (pt_val (pe_call Ois_ring hr rfl mis_ring kis_ring bis_ring .nil pass0 (pa_cons (pv 0) pa_nil))))
    (pss_one ps_never) pss_nil)), ?_⟩
  exact ⟨_, rfl, l, rfl, hl, _, rfl, iteF q⟩
def sp_turned_to (_ : PySem.W.Frag) (_ _ : Addr) : Sp := fun vs H Q _ => ∃ l, ∃ p : Nat, vs = [T l, .int (p : Int)] ∧ Wd l ∧ p < l.length ∧ Q (T (rd l p l.length)) H
theorem ok_turned_to (D : Def K mg "_turned_to" s_turned_to ["ring", "place"]) (B : Bs mg) (Glb : Glo mg) (WK : WebK K mg C) (PK : PieceK K mg C2) :
    Good P w K mg base "_turned_to" s_turned_to ["ring", "place"] 1 (sp_turned_to K C C2) := by
  refine D.good fun f fd F => ?_
  refine F.ok sc_turned_to (fun vs H Q E h => ?_) (fun cdv A outer s H vs Q E hr h => ?_)
  · obtain ⟨l, p, rfl, hl, hp, q⟩ := h
    first | rfl | (rcases h with ⟨_, _, rfl, _⟩ | ⟨_, rfl, _⟩ <;> rfl)
  obtain ⟨l, p, rfl, hl, hp, q⟩ := h
  refine ⟨_, (pss_one (ps_ret (pe_op op_add_str (pe_slice sl_str (pv 0) (po_some (pv 1)) po_none) (pe_slice sl_str (pv 0) po_none (po_some (pv 1)))))), ?_⟩
  have hlen := hl.2.1
  refine ⟨_, rfl, _, rfl, _, rfl, _, rfl, T_line (by omega), _, rfl, _, rfl, _, rfl, _, rfl, T_line (by omega), _, _, rfl, rfl, ?_⟩
  rw [cut_from, cut_to, T_app, ← rd_turn l p hp]
  exact ⟨by rw [T_len, T_len, List.length_drop, List.length_take]; exact Nat.le_of_lt (small1000 (by omega)), q⟩
def spleast_start (_ : PySem.W.Frag) (_ _ : Addr) : Sp := fun vs H Q _ => ∃ l, vs = [T l] ∧ Wd l ∧ ∀ (p : Nat) (H' : Hp), p < l.length → Opt l p → Same H H' → Q (.int (p : Int)) H'
theorem okleast_start (D : Def K mg "least_start" sleast_start ["cycle"]) (B : Bs mg) (Glb : Glo mg) (WK : WebK K mg C) (PK : PieceK K mg C2) :
    Good P w K mg base "least_start" sleast_start ["cycle"] 1 (spleast_start K C C2) := by
  refine D.good fun f fd F => ?_
  refine F.ok scleast_start (fun vs H Q E h => ?_) (fun cdv A outer s H vs Q E hr h => ?_)
  · obtain ⟨l, rfl, hl, q⟩ := h
    first | rfl | (rcases h with ⟨_, _, rfl, _⟩ | ⟨_, rfl, _⟩ <;> rfl)
  obtain ⟨l, rfl, hl, q⟩ := h
  refine ⟨_, (pss_cons (ps_set (i := 1) scleast_start.nd rfl (by first | exact Or.inl rfl | exact Or.inr rfl) (pe_callB call_len_str (by rfl) B.len (by decide +kernel) (pa_cons (pv 0) pa_nil)))
  (pss_cons (ps_asg (pe_tup (pa_cons pe_int (pa_cons pe_int (pa_cons pe_int pa_nil)))) (pg_tup rfl (pgs_cons (pg_name (i := 2) scleast_start.nd rfl (by first | exact Or.inl rfl | exact Or.inr rfl)) (pgs_cons (pg_name (i := 3) scleast_start.nd rfl (by first | exact Or.inl rfl | exact Or.inr rfl)) (pgs_cons (pg_name (i := 4) scleast_start.nd rfl (by first | exact Or.inl rfl | exact Or.inr rfl)) pgs_nil)))))
  (pss_cons (ps_while PassesOwn.never (PW.pt (pw_and (pt_cmpR op_lt (pv 2) (pv 1) (nomark _)) (pw_and (pt_cmpR op_lt (pv 3) (pv 1) (nomark _)) (pw_and1 (pt_cmpR op_lt (pv 4) (pv 1) (nomark _))))))
    (pss_cons (ps_set (i := 5) scleast_start.nd rfl (by first | exact Or.inl rfl | exact Or.inr rfl) (pe_ix ix_str (pv 0) (pe_op op_mod (pe_op op_add (pv 2) (pv 4)) (pv 1)) (fun _ _ => rfl)))
  (pss_cons (ps_set (i := 6) scleast_start.nd rfl (by first | exact Or.inl rfl | exact Or.inr rfl) (pe_ix ix_str (pv 0) (pe_op op_mod (pe_op op_add (pv 3) (pv 4)) (pv 1)) (fun _ _ => rfl)))
  (pss_cons (ps_if (pt_cmpR op_eq (pv 5) (pv 6) (nomark _))
    (pss_cons (ps_aug (i := 4) scleast_start.nd rfl (by first | exact Or.inl rfl | exact Or.inr rfl) pe_int ip_add)
  (pss_one ps_continue)) pss_nil)
  (pss_cons (ps_if (pt_cmpR op_gt_str (pv 5) (pv 6) (nomark _))
    (pss_one (ps_set (i := 2) scleast_start.nd rfl (by first | exact Or.inl rfl | exact Or.inr rfl) (pe_op op_add (pe_op op_add (pv 2) (pv 4)) pe_int))) (pss_one (ps_set (i := 3) scleast_start.nd rfl (by first | exact Or.inl rfl | exact Or.inr rfl) (pe_op op_add (pe_op op_add (pv 3) (pv 4)) pe_int))))
  (pss_cons (ps_if (pt_cmpR op_eq (pv 2) (pv 3) (nomark _))
    (pss_one (ps_aug (i := 3) scleast_start.nd rfl (by first | exact Or.inl rfl | exact Or.inr rfl) pe_int ip_add)) pss_nil)
  (pss_one (ps_set (i := 4) scleast_start.nd rfl (by first | exact Or.inl rfl | exact Or.inr rfl) pe_int))))))))
  (pss_one (ps_ret (pe_callB (call_min2 rfl) (by rfl) B.min (by decide +kernel) (pa_cons (pv 2) (pa_cons (pv 3) pa_nil)))))))), ?_⟩
  have hlen := hl.2.1
  have h0 := hl.1
  refine ⟨_, rfl, _, rfl, T_line (by omega), ?_⟩
  rw [T_len]
  refine ⟨(by show 3 ≤ sizeLine; decide), fun tp ntp => ⟨_, _, rfl, SqT.of upd_same, rfl, _, _, rfl, _, _, rfl, _, _, rfl, rfl, ?_⟩⟩
  have hS0 := same_new ntp (.tup [.int 0, .int 1, .int 0])
  generalize upd H tp (.tup [.int 0, .int 1, .int 0]) = H0 at hS0
  refine ⟨fun m σ H' => ∃ (one two alike : Nat) (v1 v2 : Option V), m = mu l.length one two alike ∧ σ = [some (T l), some (.int (l.length : Int)), some (.int (one : Int)), some (.int (two : Int)), some (.int (alike : Int)), v1, v2] ∧ Two l one two alike ∧ H' = H0,
    ⟨_, 0, 1, 0, none, none, rfl, rfl, two_start h0, rfl⟩, ?_⟩
  rintro m σ H' ⟨one, two, alike, v1, v2, rfl, rfl, hT, rfl⟩
  have fin : ¬ (one < l.length ∧ two < l.length ∧ alike < l.length) → Q (V.int (if (two : Int) < (one : Int) then (two : Int) else (one : Int))) H' := fun c => by
    obtain ⟨g1, g2⟩ := two_end h0 hT c
    have e : (if (two : Int) < (one : Int) then (two : Int) else (one : Int)) = ((min one two : Nat) : Int) := by split <;> omega
    rw [e]
    exact q _ _ g1 g2 hS0
  have hne := hT.ne
  have hb1 := hT.b1
  have hb2 := hT.b2
  refine ⟨_, rfl, _, rfl, _, _, rfl, rfl, _, rfl, ?_⟩
  refine ite2 (fun c1 => ?_) (fun c1 => ?_)
  · have d1 : (one : Int) < (l.length : Int) := of_decide_eq_true c1
    refine ⟨_, rfl, _, rfl, _, _, rfl, rfl, _, rfl, ?_⟩
    refine ite2 (fun c2 => ?_) (fun c2 => ?_)
    · have d2 : (two : Int) < (l.length : Int) := of_decide_eq_true c2
      refine ⟨_, rfl, _, rfl, _, _, rfl, rfl, _, rfl, ?_⟩
      refine ite2 (fun c3 => ?_) (fun c3 => ?_)
      · have d3 : (alike : Int) < (l.length : Int) := of_decide_eq_true c3
        refine ⟨fun σ' H'' => ∃ (one' two' alike' : Nat) (v1 v2 : Option V), mu l.length one' two' alike' < mu l.length one two alike ∧ σ' = [some (T l), some (.int (l.length : Int)), some (.int (one' : Int)), some (.int (two' : Int)), some (.int (alike' : Int)), v1, v2] ∧ Two l one' two' alike' ∧ H'' = H',
          fun σ' H'' ⟨o, t, a, w1, w2, hlt, e1, e2, e3⟩ => ⟨_, hlt, o, t, a, w1, w2, rfl, e1, e2, e3⟩, ?_⟩
        have ea : ((one : Int) + (alike : Int)) % (l.length : Int) = (((one + alike) % l.length : Nat) : Int) := rfl
        have eb : ((two : Int) + (alike : Int)) % (l.length : Int) = (((two + alike) % l.length : Nat) : Int) := rfl
        refine ⟨_, rfl, _, rfl, _, rfl, _, _, rfl, rfl, _, rfl, _, _, rfl, rfl, (by show (0 : Int) < (l.length : Int); omega), _, _, gt l (one + alike), rfl, rfl, T_line (by omega), gt_at h0 _, ?_⟩
        refine ⟨_, rfl, _, rfl, _, rfl, _, _, rfl, rfl, _, rfl, _, _, rfl, rfl, (by show (0 : Int) < (l.length : Int); omega), _, _, gt l (two + alike), rfl, rfl, T_line (by omega), gt_at h0 _, ?_⟩
        refine ⟨_, rfl, _, rfl, rfl, _, rfl, ?_⟩
        refine ite2 (fun c4 => ?_) (fun c4 => ?_)
        · have e4 : gt l (one + alike) = gt l (two + alike) := by
            have := T_inj.mp (of_decide_eq_true c4 : T [gt l (one + alike)] = T [gt l (two + alike)])
            simpa using this
          refine ⟨_, rfl, _, _, rfl, rfl, ?_⟩
          exact ⟨one, two, alike + 1, _, _, mu_alike (by omega), rfl, two_alike hT (by omega) e4, rfl⟩
        · have e4 : ¬ gt l (one + alike) = gt l (two + alike) := fun z => by
            have c5 : ¬ T [gt l (one + alike)] = T [gt l (two + alike)] := of_decide_eq_false (Bool.eq_false_iff.mpr c4)
            exact c5 (by rw [z])
          refine ⟨_, rfl, _, rfl, _, _, rfl, rfl, _, rfl, ?_⟩
          refine ite2 (fun c5 => ?_) (fun c5 => ?_)
          · have e5 : gt l (two + alike) < gt l (one + alike) := lt_one.mp (of_decide_eq_true c5)
            have hN := two_one hT (by omega) (by omega) (by omega) e5
            refine ⟨_, rfl, _, rfl, _, _, rfl, rfl, _, _, rfl, rfl, ?_⟩
            refine ⟨_, rfl, _, rfl, rfl, _, rfl, ?_⟩
            refine ite2 (fun c6 => ?_) (fun c6 => ?_)
            · have e6 : one + alike + 1 = two := by
                have := int_eq.mp (of_decide_eq_true c6 : V.int ((one : Int) + (alike : Int) + 1) = V.int (two : Int))
                omega
              rw [if_pos e6] at hN
              refine ⟨_, rfl, _, _, rfl, rfl, ?_⟩
              exact ⟨one + alike + 1, two + 1, 0, _, _, mu_step (by omega) (by omega), rfl, hN, rfl⟩
            · have e6 : ¬ one + alike + 1 = two := fun z => by
                have c7 : ¬ V.int ((one : Int) + (alike : Int) + 1) = V.int (two : Int) := of_decide_eq_false (Bool.eq_false_iff.mpr c6)
                rw [int_eq] at c7
                omega
              rw [if_neg e6] at hN
              exact ⟨one + alike + 1, two, 0, _, _, mu_step (by omega) (by omega), rfl, hN, rfl⟩
          · have e5 : gt l (one + alike) < gt l (two + alike) := by
              have c6 : ¬ ([gt l (two + alike)] : List Nat) < [gt l (one + alike)] := of_decide_eq_false (Bool.eq_false_iff.mpr c5)
              rw [lt_one] at c6
              omega
            have hN := two_two hT (by omega) (by omega) (by omega) e5
            refine ⟨_, rfl, _, rfl, _, _, rfl, rfl, _, _, rfl, rfl, ?_⟩
            refine ⟨_, rfl, _, rfl, rfl, _, rfl, ?_⟩
            refine ite2 (fun c6 => ?_) (fun c6 => ?_)
            · have e6 : one = two + alike + 1 := by
                have := int_eq.mp (of_decide_eq_true c6 : V.int (one : Int) = V.int ((two : Int) + (alike : Int) + 1))
                omega
              rw [if_pos e6] at hN
              refine ⟨_, rfl, _, _, rfl, rfl, ?_⟩
              exact ⟨one, two + alike + 1 + 1, 0, _, _, mu_step (by omega) (by omega), rfl, hN, rfl⟩
            · have e6 : ¬ one = two + alike + 1 := fun z => by
                have c7 : ¬ V.int (one : Int) = V.int ((two : Int) + (alike : Int) + 1) := of_decide_eq_false (Bool.eq_false_iff.mpr c6)
                rw [int_eq] at c7
                omega
              rw [if_neg e6] at hN
              exact ⟨one, two + alike + 1, 0, _, _, mu_step (by omega) (by omega), rfl, hN, rfl⟩
      · have d3 : ¬ (alike : Int) < (l.length : Int) := of_decide_eq_false (Bool.eq_false_iff.mpr c3)
        exact ⟨_, rfl, _, rfl, _, _, rfl, fin (by omega)⟩
    · have d2 : ¬ (two : Int) < (l.length : Int) := of_decide_eq_false (Bool.eq_false_iff.mpr c2)
      exact ⟨_, rfl, _, rfl, _, _, rfl, fin (by omega)⟩
  · have d1 : ¬ (one : Int) < (l.length : Int) := of_decide_eq_false (Bool.eq_false_iff.mpr c1)
    exact ⟨_, rfl, _, rfl, _, _, rfl, fin (by omega)⟩
def spnormal (_ : PySem.W.Frag) (_ _ : Addr) : Sp := fun vs H Q _ => ∃ l, vs = [T l] ∧ Wd l ∧ ∀ m H', IsLeast l m → Same H H' → Q (T m) H'
theorem oknormal (D : Def K mg "normal" snormal ["ring"]) (B : Bs mg) (Glb : Glo mg) (WK : WebK K mg C) (PK : PieceK K mg C2)
    (hneed_ring : Good P w K mg base "need_ring" sneed_ring ["ring"] 4 (spneed_ring K C C2))
    (h_turned_to : Good P w K mg base "_turned_to" s_turned_to ["ring", "place"] 1 (sp_turned_to K C C2))
    (hleast_start : Good P w K mg base "least_start" sleast_start ["cycle"] 1 (spleast_start K C C2)) :
    Good P w K mg base "normal" snormal ["ring"] 5 (spnormal K C C2) := by
  refine D.good fun f fd F => ?_
  obtain ⟨fneed_ring, dneed_ring, Oneed_ring, mneed_ring, kneed_ring, bneed_ring, Fneed_ring⟩ := hneed_ring
  obtain ⟨f_turned_to, d_turned_to, O_turned_to, m_turned_to, k_turned_to, b_turned_to, F_turned_to⟩ := h_turned_to
  obtain ⟨fleast_start, dleast_start, Oleast_start, mleast_start, kleast_start, bleast_start, Fleast_start⟩ := hleast_start
  refine F.ok scnormal (fun vs H Q E h => ?_) (fun cdv A outer s H vs Q E hr h => ?_)
  · obtain ⟨l, rfl, hl, q⟩ := h
    first | rfl | (rcases h with ⟨_, _, rfl, _⟩ | ⟨_, rfl, _⟩ <;> rfl)
  obtain ⟨l, rfl, hl, q⟩ := h
  refine ⟨_, (pss_cons (ps_expr (pe_call Oneed_ring hr rfl mneed_ring kneed_ring bneed_ring .nil pass0 (pa_cons (pv 0) pa_nil)))
  (pss_one (ps_ret (pe_call O_turned_to (hr.mono (by decide)) rfl m_turned_to k_turned_to b_turned_to .nil pass0 (pa_cons (pv 0) (pa_cons (pe_call Oleast_start (hr.mono (by decide)) rfl mleast_start kleast_start bleast_start .nil pass0 (pa_cons (pv 0) pa_nil)) pa_nil)))))), ?_⟩
  exact ⟨_, rfl, l, rfl, hl, _, rfl, _, rfl, l, rfl, hl, fun p H1 hp ho hS => ⟨l, p, rfl, hl, hp, q _ H1 ⟨p, hp, rfl, ho⟩ hS⟩⟩
def spread_on (_ : PySem.W.Frag) (_ _ : Addr) : Sp := fun vs H Q _ => ∃ l, ∃ p n : Nat, vs = [T l, .int (p : Int), .int (n : Int)] ∧ Wd l ∧ n ≤ 1000 ∧ ∀ H', Same H H' → Q (T (rd l p n)) H'
theorem okread_on (D : Def K mg "read_on" sread_on ["ring", "place", "many"]) (B : Bs mg) (Glb : Glo mg) (WK : WebK K mg C) (PK : PieceK K mg C2) :
    Good P w K mg base "read_on" sread_on ["ring", "place", "many"] 1 (spread_on K C C2) := by
  refine D.good fun f fd F => ?_
  refine F.ok scread_on (fun vs H Q E h => ?_) (fun cdv A outer s H vs Q E hr h => ?_)
  · obtain ⟨l, p, n, rfl, hl, hn, q⟩ := h
    first | rfl | (rcases h with ⟨_, _, rfl, _⟩ | ⟨_, rfl, _⟩ <;> rfl)
  obtain ⟨l, p, n, rfl, hl, hn, q⟩ := h
  refine ⟨_, (pss_one (ps_ret (pe_join pe_str (pe_lc (own := [("k", 3)]) (g := gName 3) (by rfl) scread_on.nd (pi_range1 (by rfl) B.range (pa_cons (pv 2) pa_nil)) (blkOk_by (own := [("k", 3)]) (N := ["ring", "place", "many", "k"]) (sc := defScope sread_on) (by decide +kernel)) (fun _ _ _ _ _ => (pg_name (i := 3) scread_on.nd rfl (by first | exact Or.inl rfl | exact Or.inr rfl))) (fun _ _ _ _ _ => pts_nil) (fun _ _ _ _ _ => (pe_ix ix_str (pv 0) (pe_op op_mod (pe_op op_add (pv 1) (pv 3)) (pe_callB call_len_str (by rfl) B.len (by decide +kernel) (pa_cons (pv 0) pa_nil))) (by exact fun _ _ => rfl))))))), ?_⟩
  have hlen := hl.2.1
  have h0 := hl.1
  refine ⟨⟨_, rfl⟩, _, rfl, _, rfl, (by omega), (by omega), fun D nD => ?_⟩
  refine lc_range (lo := 0) (n := n) (fun i H' => Same H H' ∧ H' D = some (.lst (((rd l p i).map fun c => (⟨#[c]⟩ : Str)).map V.str))) ⟨same_new nD _, upd_same⟩ ?_ ?_
  · rintro i H1 hi ⟨hS, hD⟩
    have ei : (p : Int) + (0 + (i : Int)) = ((p + i : Nat) : Int) := by omega
    have ej : ((p : Int) + (0 + (i : Int))) % (((⟨l.toArray⟩ : Str).length : Nat) : Int) = (((p + i) % l.length : Nat) : Int) := by
      rw [T_len, ei]
      rfl
    have e0 := getD_lt (l := l) (i := (p + i) % l.length) (Nat.mod_lt _ h0)
    refine ⟨rfl, _, rfl, _, rfl, _, rfl, _, _, rfl, rfl, _, rfl, _, rfl, T_line (by omega), _, _, rfl, rfl, (by rw [T_len]; omega), _, _, _, rfl, rfl, T_line (by omega), (by rw [ej]; exact at_nat e0), _, hD, ?_, ?_⟩
    · rw [List.length_map, List.length_map, rd_len]
      exact small1000 (by omega)
    · refine ⟨same_upd hS nD, ?_⟩
      rw [rd_succ, List.map_append, List.map_append]
      exact upd_same
  · rintro H1 ⟨hS, hD⟩
    refine ⟨_, _, (rd l p n).map fun c => (⟨#[c]⟩ : Str), rfl, rfl, .inl (SqL.of hD), ?_, ?_⟩
    · rw [ones_len, rd_len, T_nil]
      show n + _ * 0 ≤ _
      omega
    · rw [join_T]
      exact q H1 hS
def spopened (_ : PySem.W.Frag) (_ _ : Addr) : Sp := fun vs H Q _ => ∃ l, ∃ s p : Nat, vs = [T l, .int (s : Int), .int (p : Int)] ∧ Wd l ∧ 1 ≤ s ∧ s ≤ 8 ∧ ∀ H', Same H H' → Q (T (rd l p (l.length + s - 1))) H'
theorem okopened (D : Def K mg "opened" sopened ["ring", "size", "place"]) (B : Bs mg) (Glb : Glo mg) (WK : WebK K mg C) (PK : PieceK K mg C2)
    (hread_on : Good P w K mg base "read_on" sread_on ["ring", "place", "many"] 1 (spread_on K C C2)) :
    Good P w K mg base "opened" sopened ["ring", "size", "place"] 2 (spopened K C C2) := by
  refine D.good fun f fd F => ?_
  obtain ⟨fread_on, dread_on, Oread_on, mread_on, kread_on, bread_on, Fread_on⟩ := hread_on
  refine F.ok scopened (fun vs H Q E h => ?_) (fun cdv A outer s H vs Q E hr h => ?_)
  · obtain ⟨l, s, p, rfl, hl, hs1, hs, q⟩ := h
    first | rfl | (rcases h with ⟨_, _, rfl, _⟩ | ⟨_, rfl, _⟩ <;> rfl)
  obtain ⟨l, s, p, rfl, hl, hs1, hs, q⟩ := h
  refine ⟨_, (pss_one (ps_ret (pe_call Oread_on hr rfl mread_on kread_on bread_on .nil pass0 (pa_cons (pv 0) (pa_cons (pv 2) (pa_cons (pe_op op_sub (pe_op op_add (pe_callB call_len_str (by rfl) B.len (by decide +kernel) (pa_cons (pv 0) pa_nil)) (pv 1)) pe_int) pa_nil)))))), ?_⟩
  have hl2 := hl.2.1
  have h0 := hl.1
  refine ⟨_, rfl, _, rfl, _, rfl, _, rfl, T_line (by omega), _, rfl, _, _, rfl, rfl, _, _, rfl, rfl, l, p, l.length + s - 1, ?_, hl, by omega, fun H1 hS1 => q H1 hS1⟩
  have e : (((⟨l.toArray⟩ : Str).length : Int) + (s : Int)) - 1 = ((l.length + s - 1 : Nat) : Int) := by rw [T_len]; omega
  dsimp only
  rw [e]
  rfl
def sphas_just (_ : PySem.W.Frag) (_ _ : Addr) : Sp := fun vs H Q _ => ∃ r l L s, vs = [T r, .ref l] ∧ Wd r ∧ SqS H l L ∧ OkP L s ∧ ∀ (b : Bool) H', (b = true ↔ ∀ k, k ∈ rps r s ↔ k ∈ L) → Same H H' → Q (.bl b) H'
theorem okhas_just (D : Def K mg "has_just" shas_just ["ring", "pieces"]) (B : Bs mg) (Glb : Glo mg) (WK : WebK K mg C) (PK : PieceK K mg C2)
    (hneed_ring : Good P w K mg base "need_ring" sneed_ring ["ring"] 4 (spneed_ring K C C2))
    (hneed_pieces : Good P w K mg base "need_pieces" sneed_pieces ["pieces"] 5 (spneed_pieces K C C2))
    (hpieces_along : Good P w K mg base "pieces_along" spieces_along ["text", "size"] 1 (sppieces_along K C C2))
    (hopened : Good P w K mg base "opened" sopened ["ring", "size", "place"] 2 (spopened K C C2)) :
    Good P w K mg base "has_just" shas_just ["ring", "pieces"] 6 (sphas_just K C C2) := by
  refine D.good fun f fd F => ?_
  obtain ⟨fneed_ring, dneed_ring, Oneed_ring, mneed_ring, kneed_ring, bneed_ring, Fneed_ring⟩ := hneed_ring
  obtain ⟨fneed_pieces, dneed_pieces, Oneed_pieces, mneed_pieces, kneed_pieces, bneed_pieces, Fneed_pieces⟩ := hneed_pieces
  obtain ⟨fpieces_along, dpieces_along, Opieces_along, mpieces_along, kpieces_along, bpieces_along, Fpieces_along⟩ := hpieces_along
  obtain ⟨fopened, dopened, Oopened, mopened, kopened, bopened, Fopened⟩ := hopened
  refine F.ok schas_just (fun vs H Q E h => ?_) (fun cdv A outer s H vs Q E hr h => ?_)
  · obtain ⟨r, l, L, s, rfl, hwr, hl, hP, q⟩ := h
    first | rfl | (rcases h with ⟨_, _, rfl, _⟩ | ⟨_, rfl, _⟩ <;> rfl)
  obtain ⟨r, l, L, s, rfl, hwr, hl, hP, q⟩ := h
  refine ⟨_, (pss_cons (ps_expr (pe_call Oneed_ring (hr.mono (by decide)) rfl mneed_ring kneed_ring bneed_ring .nil pass0 (pa_cons (pv 0) pa_nil)))
  (pss_cons (ps_expr (pe_call Oneed_pieces hr rfl mneed_pieces kneed_pieces bneed_pieces .nil pass0 (pa_cons (pv 1) pa_nil)))
  (pss_cons (ps_set (i := 2) schas_just.nd rfl (by first | exact Or.inl rfl | exact Or.inr rfl) (pe_callB call_len_str (by rfl) B.len (by decide +kernel) (pa_cons (pe_ix ix_seq (pv 1) pe_int (fun _ _ => rfl)) pa_nil)))
  (pss_one (ps_ret (pe_cmpR (op_eqD hr.units) (pe_callB (cr_sortTx rfl hr.units) (by rfl) B.sorted (by decide +kernel) (pa_cons (pe_callTy (cr_setTx rfl) (by rfl) B.set (by decide +kernel) (pa_cons (pe_call Opieces_along (hr.mono (by decide)) rfl mpieces_along kpieces_along bpieces_along .nil pass0 (pa_cons (pe_call Oopened (hr.mono (by decide)) rfl mopened kopened bopened .nil pass0 (pa_cons (pv 0) (pa_cons (pv 2) (pa_cons pe_int pa_nil)))) (pa_cons (pv 2) pa_nil))) pa_nil)) pa_nil)) (pe_callB (cr_sortSq hr.units) (by rfl) B.sorted (by decide +kernel) (pa_cons (pv 1) pa_nil)) (nomark _))))))), ?_⟩
  have hlen := hwr.2.1
  obtain ⟨p1, p2, p3, p4, p5, p6⟩ := id hP
  obtain ⟨x0, hx0⟩ : ∃ x, L[0]? = some x := ⟨L[0]'(by omega), List.getElem?_eq_getElem _⟩
  have hs0 := (p3 x0 (List.mem_of_getElem? hx0)).2
  refine ⟨_, rfl, r, rfl, hwr, _, rfl, l, L, s, rfl, hl, hP, fun H1 hS1 => ?_⟩
  have hl1 : SqS H1 l L := hl.imp (hS1 _ _) (hS1 _ _)
  have hall := rps_okT hwr (by omega : 0 < s) p5
  suffices fin : _ by
    rcases id hl1 with hh | hh
    · exact ⟨_, rfl, .inl ⟨_, _, _, .str x0, rfl, rfl, SqL.of hh, atI_nat (j := 0) (by rw [List.getElem?_map, hx0]; rfl), x0, rfl, line400 (by omega), fin⟩⟩
    · exact ⟨_, rfl, .inr (.inl ⟨_, _, _, .str x0, rfl, rfl, SqT.of hh, atI_nat (j := 0) (by rw [List.getElem?_map, hx0]; rfl), x0, rfl, line400 (by omega), fin⟩)⟩
  rw [hs0]
  refine ⟨_, rfl, _, rfl, r, s, 0, rfl, hwr, by omega, p5, fun H2 hS2 => ?_⟩
  refine ⟨_, rfl, tS (rd r 0 (r.length + s - 1)), s, rfl, rd_line _ _ (by omega), by omega, fun H3 m hS3 nm hm => ?_⟩
  rw [rps_opened hwr.1 (by omega)] at hm
  have hS13 := hS2.trans hS3
  refine ⟨m, _, rfl, .inl (SqL.of hm), by rw [rps_len]; omega, fun sp n _ hle nsp => ⟨sp, _, n, rfl, upd_same, by rw [rps_len] at hle; omega, fun M mp hM hmem _ nmp => ?_⟩⟩
  have hS5 : ∀ o, Same H1 (upd (upd H3 sp o) mp (.lst (M.map V.str))) := fun o b u e => by
    have e3 := hS13 _ _ e
    rw [upd_ne (fun z => by rw [z] at e3; rw [upd_ne (fun y => by rw [y, nsp] at e3; cases e3), e3] at nmp; cases nmp), upd_ne (ne_of_none e3 nsp)]
    exact e3
  refine ⟨_, rfl, l, L, rfl, hl1.imp (fun h => SqL.of (hS5 _ _ _ h)) (fun h => SqT.of (hS5 _ _ _ h)), by omega, fun p2 np2 => ?_⟩
  have hmem2 : ∀ k, k ∈ M ↔ k ∈ rps r s := fun k => by
    rw [hmem]
    unfold hasT
    exact decide_eq_true_iff
  have okM : ∀ e ∈ M, OkT e := fun e he => (hall e ((hmem2 e).mp he)).1
  have okL : ∀ e ∈ L.mergeSort leS, OkT e := fun e he => (p3 e ((List.mergeSort_perm _ _).mem_iff.mp he)).1
  refine ⟨_, _, dp_ls (same_new np2 _ _ _ upd_same), dp_ls upd_same, shaped_st okM, shaped_st okL, q _ _ ?_ (fun b u e => same_new np2 _ _ _ (hS5 _ _ _ (hS1 _ _ e)))⟩
  rw [eqv_s, decide_eq_true_iff, sorted_same hM p6]
  exact ⟨fun h k => (hmem2 k).symm.trans (h k), fun h k => (hmem2 k).trans (h k)⟩
end
end My
namespace My
open PySem L2 PyProof.Rows
def outN (ts : List (Nat × Nat)) (W : List Nat) (u : Nat) : Nat → List Nat
  | 0 => []
  | i + 1 => match ts[i]? with
    | some e => if e.1 = u ∧ i ∉ W then outN ts W u i ++ [e.2] else outN ts W u i
    | none => outN ts W u i
theorem outN_len (ts : List (Nat × Nat)) (W : List Nat) (u : Nat) : ∀ i, (outN ts W u i).length ≤ i
  | 0 => by simp [outN]
  | i + 1 => by
    have := outN_len ts W u i
    unfold outN
    split
    · split
      · simp; omega
      · omega
    · omega
theorem outN_mem (ts : List (Nat × Nat)) (W : List Nat) (u v : Nat) : ∀ i, v ∈ outN ts W u i ↔ ∃ j, j < i ∧ ts[j]? = some (u, v) ∧ j ∉ W
  | 0 => by simp [outN]
  | i + 1 => by
    have ih := outN_mem ts W u v i
    have lift : (∃ j, j < i ∧ ts[j]? = some (u, v) ∧ j ∉ W) → ∃ j, j < i + 1 ∧ ts[j]? = some (u, v) ∧ j ∉ W := fun ⟨j, h1, h2⟩ => ⟨j, by omega, h2⟩
    unfold outN
    split
    · rename_i e he
      split
      · rename_i c
        rw [List.mem_append, ih, List.mem_singleton]
        constructor
        · rintro (h | rfl)
          · exact lift h
          · exact ⟨i, by omega, by rw [he, ← c.1], c.2⟩
        · rintro ⟨j, h1, h2, h3⟩
          by_cases z : j = i
          · subst z
            rw [he] at h2
            right
            rw [Option.some.inj h2]
          · exact .inl ⟨j, by omega, h2, h3⟩
      · rename_i c
        rw [ih]
        refine ⟨lift, ?_⟩
        rintro ⟨j, h1, h2, h3⟩
        by_cases z : j = i
        · subst z
          rw [he] at h2
          refine absurd ⟨?_, h3⟩ c
          rw [Option.some.inj h2]
        · exact ⟨j, by omega, h2, h3⟩
    · rename_i he
      rw [ih]
      refine ⟨lift, ?_⟩
      rintro ⟨j, h1, h2, h3⟩
      by_cases z : j = i
      · subst z
        rw [he] at h2
        cases h2
      · exact ⟨j, by omega, h2, h3⟩
abbrev outs (ts : List (Nat × Nat)) (W : List Nat) (u : Nat) : List Nat := outN ts W u ts.length
theorem outs_mem {ts : List (Nat × Nat)} {W : List Nat} {u v : Nat} : v ∈ outs ts W u ↔ Edge ts W u v := by
  rw [outs, outN_mem]
  constructor
  · rintro ⟨j, _, h⟩
    exact ⟨j, h⟩
  · rintro ⟨j, h⟩
    exact ⟨j, (List.getElem?_eq_some_iff.mp h.1).1, h⟩
theorem inV_iv (n : Nat) (W : List Nat) : inV (.int (n : Int)) (iv W) = decide (n ∈ W) := by
  unfold inV iv
  induction W with
  | nil => rfl
  | cons a r ih =>
    rw [List.map_cons, List.any_cons, ih]
    by_cases h : a = n
    · subst h
      have e : eqV (V.int (a : Int)) (V.int (a : Int)) = true := by
        show ((a : Int) == (a : Int)) = true
        simp
      rw [e]
      simp
    · have e : eqV (V.int (a : Int)) (V.int (n : Int)) = false := by
        show ((a : Int) == (n : Int)) = false
        simp
        omega
      rw [e]
      have h2 : ¬ n = a := fun z => h z.symm
      simp [h2]
theorem flat_iv (W : List Nat) : (iv W).all flatV = true := by
  rw [List.all_eq_true]
  intro x hx
  obtain ⟨n, _, rfl⟩ := List.mem_map.mp hx
  rfl
theorem dp_iv {K : PySem.W.Frag} {H : Hp} {p : Addr} {L : List Nat} (h : H p = some (.lst (iv L))) : Dp K H (.ref p) (dz (L.map fun n : Nat => (n : Int))) := dp_iz (by rw [← iv_iz]; exact h)
theorem snoc_at (L : List Nat) (x : Nat) : (iv (L ++ [x]))[(iv (L ++ [x])).length - 1]? = some (.int (x : Int)) := by
  rw [iv_app, List.length_append, List.length_singleton, Nat.add_sub_cancel, List.getElem?_append_right (Nat.le_refl _), Nat.sub_self]
  rfl
theorem snoc_drop (L : List Nat) (x : Nat) : (iv (L ++ [x])).dropLast = iv L := by
  rw [iv_app, List.dropLast_concat]
theorem eqv_tz (ts : List (Nat × Nat)) : PyData.eqv (tz ts) (dz []) = decide (ts = []) := by
  cases ts with
  | nil => rfl
  | cons n r => rfl
def StepsAt (H : Hp) (l : Addr) (ts : List (Nat × Nat)) : Prop := ∃ sas : List Addr, H l = some (.lst (sas.map V.ref)) ∧ sas.length = ts.length ∧ ∀ (i u v : Nat), ts[i]? = some (u, v) → ∃ p : Addr, sas[i]? = some p ∧ H p = some (.tup [.int (u : Int), .int (v : Int), .int (i : Int)])
def swaps (ts : List (Nat × Nat)) : List (Nat × Nat) := ts.map fun e => (e.2, e.1)
def BackAt (H0 : Hp) (l : Addr) (ts : List (Nat × Nat)) (i : Nat) (H : Hp) : Prop := Same H0 H ∧ TiesAt H l (swaps (ts.take i))
theorem take_snocE {α : Type} {L : List α} {i : Nat} {e : α} (h : L[i]? = some e) : L.take (i + 1) = L.take i ++ [e] := by
  rw [List.take_succ, h]
  rfl
theorem steps_nil {H : Hp} {l : Addr} : StepsAt (upd H l (.lst [])) l [] := ⟨[], upd_same, rfl, fun i u v h => by simp at h⟩
theorem StepsAt.same {H H' : Hp} {l : Addr} {ts : List (Nat × Nat)} (h : StepsAt H l ts) (s : Same H H') : StepsAt H' l ts := by
  obtain ⟨sas, h1, h2, h3⟩ := h
  exact ⟨sas, s _ _ h1, h2, fun i u v e => by obtain ⟨p, a, b⟩ := h3 i u v e; exact ⟨p, a, s _ _ b⟩⟩
theorem StepsAt.push {H : Hp} {l tp : Addr} {ts : List (Nat × Nat)} {u v : Nat} (h : StepsAt H l ts) (nt : H tp = none) :
    ∃ xs, (upd H tp (.tup [.int (u : Int), .int (v : Int), .int (ts.length : Int)])) l = some (.lst xs) ∧ xs.length = ts.length ∧ StepsAt (upd (upd H tp (.tup [.int (u : Int), .int (v : Int), .int (ts.length : Int)])) l (.lst (xs ++ [.ref tp]))) l (ts ++ [(u, v)]) := by
  obtain ⟨sas, h1, h2, h3⟩ := h
  have nlt : l ≠ tp := ne_of_none h1 nt
  refine ⟨sas.map V.ref, by rw [upd_ne nlt]; exact h1, by rw [List.length_map]; exact h2, sas ++ [tp], by rw [upd_same, List.map_append]; rfl, by simp [h2], fun i a b e => ?_⟩
  by_cases c : i < ts.length
  · rw [List.getElem?_append_left c] at e
    obtain ⟨p, g1, g2⟩ := h3 i a b e
    have np : p ≠ l := ne_of g2 h1 (by intro z; cases z)
    refine ⟨p, by rw [List.getElem?_append_left (by omega)]; exact g1, ?_⟩
    rw [upd_ne np, upd_ne (ne_of_none g2 nt)]
    exact g2
  · have hl := (List.getElem?_eq_some_iff.mp e).1
    rw [List.length_append, List.length_singleton] at hl
    have ei : i = ts.length := by omega
    subst ei
    rw [List.getElem?_append_right (Nat.le_refl _), Nat.sub_self] at e
    cases e
    refine ⟨tp, by rw [← h2, List.getElem?_append_right (Nat.le_refl _), Nat.sub_self]; rfl, ?_⟩
    rw [upd_ne nlt.symm, upd_same]
theorem okWeb_swaps {N : Nat} {ts : List (Nat × Nat)} (h : OkWeb N ts) : OkWeb N (swaps ts) := by
  refine ⟨h.n0, h.n1, by unfold swaps; rw [List.length_map]; exact h.m, fun e he => ?_⟩
  obtain ⟨f, hf, rfl⟩ := List.mem_map.mp he
  exact ⟨(h.ok f hf).2, (h.ok f hf).1⟩
section
variable {P : Program} {w : World} {K : PySem.W.Frag} {mg : Str → Option Value} {base : Heap} {C C2 : Addr}
def spweb_steps (_ : PySem.W.Frag) (C _ : Addr) : Sp := fun vs H Q _ => ∃ a N ts, vs = [.ref a] ∧ WebAt C a N ts H ∧ OkWeb N ts ∧ ∀ H' l, H l = none → Same H H' → StepsAt H' l ts → Q (.ref l) H'
theorem okweb_steps (D : Def K mg "web_steps" sweb_steps ["web"]) (B : Bs mg) (Glb : Glo mg) (WK : WebK K mg C) (PK : PieceK K mg C2)
    (hWeb_ties : GoodM P w K mg base C "ties" "Web.ties" sWeb_ties ["self"] 1 (spWeb_ties K C C2)) :
    Good P w K mg base "web_steps" sweb_steps ["web"] 3 (spweb_steps K C C2) := by
  refine D.good fun f fd F => ?_
  obtain ⟨fWeb_ties, dWeb_ties, OWeb_ties, tWeb_ties, bWeb_ties, FWeb_ties⟩ := hWeb_ties
  refine F.ok scweb_steps (fun vs H Q E h => ?_) (fun cdv A outer s H vs Q E hr h => ?_)
  · obtain ⟨a, N, ts, rfl, hw, ho, q⟩ := h
    first | rfl | (rcases h with ⟨_, _, rfl, _⟩ | ⟨_, rfl, _⟩ <;> rfl)
  obtain ⟨a, N, ts, rfl, hw, ho, q⟩ := h
  refine ⟨_, (pss_one (ps_ret (pe_lc (own := [("tie", 1), ("near", 2), ("far", 3)]) (g := gTup K 2 (gCons (gName 1) (gCons (gTup K 2 (gCons (gName 2) (gCons (gName 3) gNil))) gNil))) (by rfl) scweb_steps.nd (pi_enum (by rfl) B.enumerate (pa_cons (pe_meth0 (pv 0) WK.cl tWeb_ties OWeb_ties (hr.mono (by decide)) bWeb_ties .nil pass0) pa_nil)) (blkOk_by (own := [("tie", 1), ("near", 2), ("far", 3)]) (N := ["web", "tie", "near", "far"]) (sc := defScope sweb_steps) (by decide +kernel)) (fun _ _ _ _ _ => (pg_tup rfl (pgs_cons (pg_name (i := 1) scweb_steps.nd rfl (by first | exact Or.inl rfl | exact Or.inr rfl)) (pgs_cons (pg_tup rfl (pgs_cons (pg_name (i := 2) scweb_steps.nd rfl (by first | exact Or.inl rfl | exact Or.inr rfl)) (pgs_cons (pg_name (i := 3) scweb_steps.nd rfl (by first | exact Or.inl rfl | exact Or.inr rfl)) pgs_nil))) pgs_nil)))) (fun _ _ _ _ _ => pts_nil) (fun _ _ _ _ _ => (pe_tup (pa_cons (pv 2) (pa_cons (pv 3) (pa_cons (pv 1) pa_nil)))))))), ?_⟩
  obtain ⟨dx, tl, fl, ol, h1, h23⟩ := id hw
  refine ⟨_, rfl, a, dx, _, rfl, h1, (by rfl), a, N, ts, rfl, hw, fun H1 l nl hS1 ⟨tas, hl, hP⟩ => ?_⟩
  refine ⟨l, _, rfl, SqL.of hl, fun D nD => ?_⟩
  have nD0 : H D = none := hS1.free nD
  refine lc_it (walk_enum (K := K) (a := l) (xs := tas.map V.ref)) (fun i H' => Same H1 H' ∧ StepsAt H' D (ts.take i)) ⟨same_new nD _, steps_nil⟩ (fun i H' _ ⟨hS', _⟩ => SqL.of (hS' _ _ hl)) ?_ ?_
  · rintro i x H3 H4 hi ⟨hS3, hD3⟩ ⟨T0, x1, x2, rfl, nT0, rfl, e1, e2⟩
    cases e1
    rw [List.length_map] at hi
    replace e2 : (tas.map V.ref)[i]? = some x2 := e2
    rw [List.getElem?_map, List.getElem?_eq_getElem hi] at e2
    cases e2
    obtain ⟨⟨u, v⟩, he, hpe⟩ := paired_get hP (List.getElem?_eq_getElem hi)
    have hlt := (List.getElem?_eq_some_iff.mp he).1
    have hm := ho.m
    have hS4 : Same H1 (upd H3 T0 (.tup [.int (i : Int), .ref tas[i]])) := fun b o e => same_new nT0 _ _ _ (hS3 _ _ e)
    have hD4 := hD3.same (same_new nT0 (.tup [.int (i : Int), .ref tas[i]]))
    have hT4 : (upd H3 T0 (.tup [.int (i : Int), .ref tas[i]])) T0 = some (.tup [.int (i : Int), .ref tas[i]]) := upd_same
    generalize upd H3 T0 (.tup [.int (i : Int), .ref tas[i]]) = H4 at hS4 hD4 hT4
    have hp4 : H4 tas[i] = some (.tup [.int (u : Int), .int (v : Int)]) := hS4 _ _ hpe
    refine ⟨T0, _, rfl, SqT.of hT4, rfl, _, _, rfl, _, _, rfl, ⟨tas[i], _, rfl, SqT.of hp4, rfl, _, _, rfl, _, _, rfl, rfl, rfl, ?_⟩⟩
    refine ⟨rfl, _, rfl, _, rfl, _, rfl, (by show 3 ≤ sizeLine; decide), fun tp ntp => ?_⟩
    have hlen : (ts.take i).length = i := by rw [List.length_take]; omega
    obtain ⟨xs, g1, g2, g3⟩ := hD4.push (u := u) (v := v) ntp
    rw [hlen] at g1 g2 g3
    refine ⟨xs, g1, by rw [g2]; exact Nat.lt_of_lt_of_le (by omega : i < 1000) (by decide), same_upd (fun b o e => same_new ntp _ _ _ (hS4 _ _ e)) nD, ?_⟩
    rw [take_snocE he]
    exact g3
  · rintro H3 ⟨hS3, hD3⟩
    rw [List.length_map, paired_len hP, List.take_length] at hD3
    exact q H3 D nD0 (fun b o e => hS3 _ _ (hS1 _ _ e)) hD3
end
end My
namespace My
open PySem L2 PyProof.Rows
/-- the booleans that tell what was seen -/
abbrev bv (L : List Bool) : List V := L.map V.bl
abbrev Got (L : List Bool) (x : Nat) : Prop := L[x]? = some true
structure LfOk (adj : Nat → List Nat) (N : Nat) : Prop where
  n1 : N ≤ 60
  lt : ∀ u, ∀ v ∈ adj u, v < N
  sz : ∀ u, (adj u).length ≤ 80
structure LfRes (adj : Nat → List Nat) (N p : Nat) (S S' : List Bool) (L : List Nat) : Prop where
  nd : L.Nodup
  ln : S'.length = N
  lt : ∀ x ∈ L, x < N
  got : ∀ x, Got S' x ↔ Got S x ∨ x ∈ L
  mem : ∀ x, x ∈ L ↔ Rch (fun u v => v ∈ adj u) p x ∧ ¬ Got S x
  cl : ∀ u v, Got S' u → v ∈ adj u → Got S' v
  star : ∀ A q B, L = A ++ q :: B → ∀ x, Rch (fun u v => v ∈ adj u) q x → Got S x ∨ x ∈ A ∨ x = q ∨ ∃ y ∈ B, Rch (fun u v => v ∈ adj u) q y ∧ Rch (fun u v => v ∈ adj u) y q ∧ Rch (fun u v => v ∈ adj u) y x
theorem paired_end1 {α β : Type} {F : α → β → Prop} : ∀ {l1 : List α} {l2 : List β} {b : β}, Paired F l1 (l2 ++ [b]) → ∃ m a, l1 = m ++ [a] ∧ Paired F m l2 ∧ F a b
  | _, [], _, .cons r .nil => ⟨[], _, rfl, .nil, r⟩
  | _, _ :: l2, b, .cons r t => by
    obtain ⟨m, a, e, h1, h2⟩ := paired_end1 (l2 := l2) t
    exact ⟨_ :: m, a, by rw [e]; rfl, .cons r h1, h2⟩
theorem TiesAt.pop {H : Hp} {l : Addr} {tr : List (Nat × Nat)} {f : Nat × Nat} (h : TiesAt H l (tr ++ [f])) :
    ∃ xs p, H l = some (.lst xs) ∧ xs[xs.length - 1]? = some (.ref p) ∧ H p = some (.tup [.int (f.1 : Int), .int (f.2 : Int)]) ∧ TiesAt (upd H l (.lst xs.dropLast)) l tr := by
  obtain ⟨tas, h1, h2⟩ := h
  obtain ⟨m, a, rfl, h3, h4⟩ := paired_end1 h2
  refine ⟨_, a, h1, ?_, h4, m, ?_, paired_mono (fun q e hq => ?_) h3⟩
  · rw [List.map_append, List.length_append, List.length_map, List.getElem?_append_right (by simp), List.length_map]
    simp
  · rw [upd_same, List.map_append]
    show some (HO.lst (List.dropLast (m.map V.ref ++ [V.ref a]))) = _
    rw [List.dropLast_concat]
  · have nq : q ≠ l := ne_of hq h1 (by intro z; cases z)
    show upd _ _ _ q = _
    rw [upd_ne nq]
    exact hq
theorem bv_at {L : List Bool} {j : Nat} {b : Bool} (h : L[j]? = some b) : atI (bv L) (j : Int) = some (.bl b) := by
  refine atI_nat ?_
  rw [bv, List.getElem?_map, h]
  rfl
theorem ix_at {n j : Nat} (hj : j < n) : ixN n (j : Int) = some j := by
  unfold ixN
  rw [if_pos (by omega), if_pos (by omega)]
  simp
theorem bv_set (L : List Bool) (j : Nat) : (bv L).set j (.bl true) = bv (L.set j true) := by
  unfold bv
  rw [List.map_set]
theorem got_set {L : List Bool} {j : Nat} (hj : j < L.length) (x : Nat) : Got (L.set j true) x ↔ Got L x ∨ x = j := by
  unfold Got
  by_cases c : x = j
  · subst c
    simp [hj]
  · rw [List.getElem?_set_ne (fun z => c z.symm)]
    simp [c]
theorem bl_of {L : List Bool} {j : Nat} (hj : j < L.length) : L[j]? = some true ∨ L[j]? = some false := by
  rw [List.getElem?_eq_getElem hj]
  cases L[j] <;> simp
section
variable {P : Program} {w : World} {K : PySem.W.Frag} {mg : Str → Option Value} {base : Heap} {C C2 : Addr}
def sp_left_from (_ : PySem.W.Frag) (C _ : Addr) : Sp := fun vs H Q _ => ∃ e p s adj N S, vs = [.ref e, .int ((p : Nat) : Int), .ref s] ∧ RowsAt H e N adj ∧ LfOk adj N ∧ p < N ∧ H s = some (.lst (bv S)) ∧ S.length = N ∧ ¬ Got S p ∧ (∀ u v, Got S u → v ∈ adj u → Got S v) ∧ ∀ H' l L S', H l = none → H' l = some (.lst (iv L)) → H' s = some (.lst (bv S')) → Kept s H H' → LfRes adj N p S S' L → Q (.ref l) H'
theorem ok_left_from (D : Def K mg "_left_from" s_left_from ["ends", "point", "seen"]) (B : Bs mg) (Glb : Glo mg) (WK : WebK K mg C) (PK : PieceK K mg C2) :
    Good P w K mg base "_left_from" s_left_from ["ends", "point", "seen"] 1 (sp_left_from K C C2) := by
  refine D.good fun f fd F => ?_
  refine F.ok sc_left_from (fun vs H Q E h => ?_) (fun cdv A outer s H vs Q E hr h => ?_)
  · obtain ⟨e, p, s, adj, N, S, rfl, hR, hA, hp, hs, hSl, hnp, hcl, q⟩ := h
    first | rfl | (rcases h with ⟨_, _, rfl, _⟩ | ⟨_, rfl, _⟩ <;> rfl)
  obtain ⟨e, p, s, adj, N, S, rfl, hR, hA, hp, hs, hSl, hnp, hcl, q⟩ := h
  refine ⟨_, (pss_cons (ps_set (i := 3) sc_left_from.nd rfl (by first | exact Or.inl rfl | exact Or.inr rfl) (pe_lst pa_nil))
  (pss_cons (ps_asg pe_bl (pg_sub (pv 2) (pv 1) set_list))
  (pss_cons (ps_set (i := 4) sc_left_from.nd rfl (by first | exact Or.inl rfl | exact Or.inr rfl) (pe_lst (pa_cons (pe_tup (pa_cons (pv 1) (pa_cons pe_int pa_nil))) pa_nil)))
  (pss_cons (ps_while PassesOwn.never (pt_cmpR (op_neD hr.units) (pv 4) (pe_lst pa_nil) (nomark _))
    (pss_cons (ps_asg (pe_bm0 PySem.F.plainAttrs_list PySem.F.slot_list_pop PySem.F.type_list_pop mt_pop (pv 4)) (pg_tup rfl (pgs_cons (pg_name (i := 5) sc_left_from.nd rfl (by first | exact Or.inl rfl | exact Or.inr rfl)) (pgs_cons (pg_name (i := 6) sc_left_from.nd rfl (by first | exact Or.inl rfl | exact Or.inr rfl)) pgs_nil))))
  (pss_cons (ps_if (pt_cmpR op_eq (pv 6) (pe_callB call_len_seq (by rfl) B.len (by decide +kernel) (pa_cons (pe_ix ix_list (pv 0) (pv 5) (fun _ _ => rfl)) pa_nil)) (nomark _))
    (pss_cons (ps_expr (pe_bm PySem.F.plainAttrs_list PySem.F.slot_list_append PySem.F.type_list_append mt_append (pv 3) (pa_cons (pv 5) pa_nil)))
  (pss_one ps_continue)) pss_nil)
  (pss_cons (ps_expr (pe_bm PySem.F.plainAttrs_list PySem.F.slot_list_append PySem.F.type_list_append mt_append (pv 4) (pa_cons (pe_tup (pa_cons (pv 5) (pa_cons (pe_op op_add (pv 6) pe_int) pa_nil))) pa_nil)))
  (pss_cons (ps_set (i := 7) sc_left_from.nd rfl (by first | exact Or.inl rfl | exact Or.inr rfl) (pe_ix ix_list (pe_ix ix_list (pv 0) (pv 5) (fun _ _ => rfl)) (pv 6) (fun _ _ => rfl)))
  (pss_one (ps_if (pt_not (pt_val (pe_ix ix_list (pv 2) (pv 7) (fun _ _ => rfl))))
    (pss_cons (ps_asg pe_bl (pg_sub (pv 2) (pv 7) set_list))
  (pss_one (ps_expr (pe_bm PySem.F.plainAttrs_list PySem.F.slot_list_append PySem.F.type_list_append mt_append (pv 4) (pa_cons (pe_tup (pa_cons (pv 7) (pa_cons pe_int pa_nil))) pa_nil))))) pss_nil)))))))
  (pss_one (ps_ret (pv 3))))))), ?_⟩
  have hN := hA.n1
  have hRk : ∀ H', Kept s H H' → RowsAt H' e N adj := fun H' k => by
    obtain ⟨fas, r1, r2, r3⟩ := hR
    have nes : ∀ b (L : List Nat), H b = some (.lst (iv L)) → b ≠ s := fun b L hb z => by
      rw [z, hs] at hb
      have hb := HO.lst.inj (Option.some.inj hb)
      cases S with
      | nil => simp at hSl; omega
      | cons t r =>
        cases L with
        | nil => cases hb
        | cons n r' => cases (List.cons.inj hb).1
    have ees : e ≠ s := fun z => by
      rw [z, hs] at r1
      have r1 := HO.lst.inj (Option.some.inj r1)
      cases S with
      | nil => simp at hSl; omega
      | cons t r =>
        cases fas with
        | nil => cases r1
        | cons n r' => cases (List.cons.inj r1).1
    exact ⟨fas, k _ _ r1 ees, r2, fun j x ej => k _ _ (r3 j x ej) (nes _ _ (r3 j x ej))⟩
  refine ⟨Nat.zero_le _, fun ll nll => ?_⟩
  have nls : ll ≠ s := (ne_of_none hs nll).symm
  refine ⟨_, rfl, _, rfl, s, _, _, p, rfl, rfl, (by rw [upd_ne nls.symm]; exact hs), ix_at (by rw [List.length_map, hSl]; exact hp), ?_⟩
  rw [bv_set]
  generalize e1 : upd (upd H ll (.lst [])) s (.lst (bv (S.set p true))) = H1
  have hs1 : H1 s = some (.lst (bv (S.set p true))) := by rw [← e1]; exact upd_same
  have hll1 : H1 ll = some (.lst (iv [])) := by rw [← e1, upd_ne nls]; exact upd_same
  have hk1 : Kept s H H1 := fun b o z n => by rw [← e1, upd_ne n]; exact same_new nll _ _ _ z
  refine ⟨_, rfl, (by show 2 ≤ sizeLine; decide), fun tp ntp => ⟨(by show 1 ≤ sizeLine; decide), fun tl ntl => ?_⟩⟩
  have nts : tp ≠ s := (ne_of_none hs1 ntp).symm
  have htl0 : TiesAt (upd (upd H1 tp (.tup [.int (p : Int), .int 0])) tl (.lst [.ref tp])) tl [(p, 0)] := ⟨[tp], upd_same, .cons (by show upd _ _ _ tp = _; rw [upd_ne (fun z => by rw [z] at ntl; rw [upd_same] at ntl; cases ntl), upd_same]; rfl) .nil⟩
  have hk2 : Kept s H (upd (upd H1 tp (.tup [.int (p : Int), .int 0])) tl (.lst [.ref tp])) := (hk1.new ntp).new ntl
  have hs2 := same_new ntl (.lst [.ref tp]) _ _ (same_new ntp (.tup [.int (p : Int), .int 0]) _ _ hs1)
  have hll2 := same_new ntl (.lst [.ref tp]) _ _ (same_new ntp (.tup [.int (p : Int), .int 0]) _ _ hll1)
  have ntl1 : H1 tl = none := by
    by_cases c : tl = tp
    · rw [c]; exact ntp
    · rw [upd_ne c] at ntl; exact ntl
  have ntls : tl ≠ s := (ne_of_none hs1 ntl1).symm
  have ntll : tl ≠ ll := (ne_of_none hll1 ntl1).symm
  have ntlH : H tl = none := by
    cases z : H tl with
    | none => rfl
    | some o => rw [hk1 _ _ z ntls] at ntl1; cases ntl1
  generalize upd (upd H1 tp (.tup [.int (p : Int), .int 0])) tl (.lst [.ref tp]) = H2 at htl0 hk2 hs2 hll2
  have hpS : p < S.length := by omega
  let Pv : Nat → L2.St → Hp → Prop := fun m σ H' => ∃ (v5 v6 v7 : Option V) (left : List Nat) (tr : List (Nat × Nat)) (Sc : List Bool), σ = [some (.ref e), some (.int (p : Int)), some (.ref s), some (.ref ll), some (.ref tl), v5, v6, v7] ∧ Kept s H H' ∧ H' ll = some (.lst (iv left)) ∧ TiesAt H' tl tr ∧ H' s = some (.lst (bv Sc)) ∧ Sc.length = N ∧ Dfs adj p (Got S) (Got Sc) left tr ∧ (∀ f ∈ tr, f.2 ≤ (adj f.1).length) ∧ todo adj Sc N + owed adj tr = m
  refine ⟨Pv, ⟨_, none, none, none, [], [(p, 0)], S.set p true, rfl, hk2, hll2, htl0, hs2, by rw [List.length_set]; exact hSl, dfs_start hnp (got_set hpS), fun f hf => by rw [List.mem_singleton.mp hf]; exact Nat.zero_le _, rfl⟩, ?_⟩
  rintro m σ H3 ⟨v5, v6, v7, left, tr, Sc, rfl, hk3, hll3, htl3, hs3, hSc, hD, hle, hμ⟩
  refine ⟨_, rfl, Nat.zero_le _, fun p0 np0 => ⟨_, _, dp_tz (htl3.same (same_new np0 _)), dp_iz (L := []) upd_same, shaped_tz _, shaped_iz _, _, rfl, ?_⟩⟩
  rw [eqv_tz]
  have hk4 := hk3.new (o := .lst []) np0
  have hll4 := same_new np0 (.lst []) _ _ hll3
  have htl4 := htl3.same (same_new np0 (.lst []))
  have hs4 := same_new np0 (.lst []) _ _ hs3
  generalize upd H3 p0 (.lst []) = H4 at hk4 hll4 htl4 hs4
  rcases List.eq_nil_or_concat tr with rfl | ⟨rest, ⟨x, i⟩, rfl⟩
  · refine iteNot' rfl ⟨_, rfl, ?_⟩
    obtain ⟨d1, d2, d3, d4, d5⟩ := dfs_end hD hcl
    exact q _ ll left Sc nll hll4 hs4 hk4 ⟨d1, hSc, fun x hx => by have := (List.getElem?_eq_some_iff.mp ((d2 x).mpr (.inr hx))).1; omega, d2, d3, d4, d5⟩
  rw [List.concat_eq_append] at *
  refine iteNot (by simp) ?_
  refine ⟨fun σ' H' => ∃ m', m' < m ∧ Pv m' σ' H', fun σ' H' h => h, ?_⟩
  obtain ⟨xs, pt, g1, g2, g3, g4⟩ := htl4.pop
  refine ⟨_, rfl, .inl ⟨rfl, _, SqL.of g1⟩, tl, _, _, rfl, rfl, g1, g2, ?_⟩
  have nptl : pt ≠ tl := ne_of g3 g1 (by intro z; cases z)
  have hk5 : Kept s H (upd H4 tl (.lst xs.dropLast)) := hk4.put ntlH
  have hll5 : (upd H4 tl (.lst xs.dropLast)) ll = some (.lst (iv left)) := by rw [upd_ne ntll.symm]; exact hll4
  have hs5 : (upd H4 tl (.lst xs.dropLast)) s = some (.lst (bv Sc)) := by rw [upd_ne ntls.symm]; exact hs4
  have hp5 : (upd H4 tl (.lst xs.dropLast)) pt = some (.tup [.int (x : Int), .int (i : Int)]) := by rw [upd_ne nptl]; exact g3
  generalize upd H4 tl (.lst xs.dropLast) = H5 at hk5 hll5 hs5 hp5 g4
  refine ⟨pt, _, rfl, SqT.of hp5, rfl, _, _, rfl, _, _, rfl, rfl, ?_⟩
  have hgx : Got Sc x := (hD.iff_ x).mpr (.inr (.inr (by simp)))
  have hxN : x < N := by have := (List.getElem?_eq_some_iff.mp hgx).1; omega
  have hix : i ≤ (adj x).length := hle (x, i) (by simp)
  have hszx := hA.sz x
  have hmany : left.length + rest.length + 1 ≤ N := by
    have h1 := few (N := N) hD.nd (fun z hz => by
      have hg : Got Sc z := by
        rw [hD.iff_]
        rcases List.mem_append.mp hz with c | c
        · exact .inr (.inl c)
        · exact .inr (.inr c)
      have := (List.getElem?_eq_some_iff.mp hg).1
      omega)
    rw [List.length_append, List.length_map, List.length_append, List.length_singleton] at h1
    omega
  have how : owed adj (rest ++ [(x, i)]) = owed adj rest + ((adj x).length - i + 1) := by
    rw [owed_app]
    show owed adj rest + (((adj x).length - i + 1) + 0) = _
    omega
  obtain ⟨rx, rxs, e1, e2, e3⟩ := (hRk _ hk5).get hxN
  refine ⟨_, rfl, _, rfl, _, rfl, _, _, _, .ref rx, rfl, rfl, SqL.of e1, e2, rx, _, rfl, .inl (SqL.of e3), rfl, _, rfl, ?_⟩
  by_cases c : i = (adj x).length
  · refine iteYes (int_eq.mpr (by rw [List.length_map, c])) ?_
    refine ⟨_, rfl, .inl ⟨rfl, _, SqL.of hll5⟩, _, rfl, ll, _, _, rfl, rfl, hll5, ?_, ?_⟩
    · rw [List.length_map]
      exact Nat.lt_of_lt_of_le (by omega : left.length < 1000) (by decide)
    refine ⟨_, ?_, _, _, v7, left ++ [x], rest, Sc, rfl, hk5.put nll, by rw [upd_same, iv_app], ?_, ?_, hSc, dfs_leave hD (by omega) hcl, fun f hf => hle f (List.mem_append_left _ hf), rfl⟩
    · rw [← hμ, how]
      omega
    · obtain ⟨tas, t1, t2⟩ := g4
      refine ⟨tas, by rw [upd_ne ntll]; exact t1, paired_mono (fun q' e' hq => ?_) t2⟩
      have : q' ≠ ll := ne_of hq hll5 (by intro z; cases z)
      show upd _ _ _ q' = _
      rw [upd_ne this]
      exact hq
    · rw [upd_ne nls.symm]
      exact hs5
  refine iteNo (fun z => c (by have := int_eq.mp z; rw [List.length_map] at this; omega)) ?_
  have hil : i < (adj x).length := by omega
  obtain ⟨xs1, hx1, hx1l⟩ := g4.get
  refine ⟨_, rfl, .inl ⟨rfl, _, SqL.of hx1⟩, _, rfl, _, rfl, _, _, rfl, rfl, (by show 2 ≤ sizeLine; decide), fun tq ntq => ?_⟩
  obtain ⟨ys, k1, k2, k3⟩ := g4.pushV (u := x) (v := i + 1) (x := V.int (x : Int)) (y := V.int ((i : Int) + 1)) rfl rfl ntq
  refine ⟨tl, _, _, rfl, rfl, k1, by rw [k2]; exact Nat.lt_of_lt_of_le (by omega : rest.length < 1000) (by decide), ?_⟩
  have hk6 : Kept s H (upd (upd H5 tq (.tup [.int (x : Int), .int ((i : Int) + 1)])) tl (.lst (ys ++ [.ref tq]))) := (hk5.new ntq).put ntlH
  have hll6 : (upd (upd H5 tq (.tup [.int (x : Int), .int ((i : Int) + 1)])) tl (.lst (ys ++ [.ref tq]))) ll = some (.lst (iv left)) := by rw [upd_ne ntll.symm]; exact same_new ntq _ _ _ hll5
  have hs6 : (upd (upd H5 tq (.tup [.int (x : Int), .int ((i : Int) + 1)])) tl (.lst (ys ++ [.ref tq]))) s = some (.lst (bv Sc)) := by rw [upd_ne ntls.symm]; exact same_new ntq _ _ _ hs5
  dsimp only
  generalize upd (upd H5 tq (.tup [.int (x : Int), .int ((i : Int) + 1)])) tl (.lst (ys ++ [.ref tq])) = H6 at hk6 hll6 hs6 k3
  obtain ⟨rx6, rxs6, f1, f2, f3⟩ := (hRk _ hk6).get hxN
  have hy : (adj x)[i]? = some ((adj x)[i]'hil) := List.getElem?_eq_getElem hil
  generalize (adj x)[i]'hil = y at hy
  have hyN : y < N := hA.lt x y (List.mem_of_getElem? hy)
  refine ⟨_, rfl, _, rfl, _, _, _, .ref rx6, rfl, rfl, SqL.of f1, f2, _, rfl, _, _, _, .int (y : Int), rfl, rfl, SqL.of f3, iv_at hy, ?_⟩
  have how2 : owed adj (rest ++ [(x, i + 1)]) = owed adj rest + ((adj x).length - (i + 1) + 1) := by
    rw [owed_app]
    show owed adj rest + (((adj x).length - (i + 1) + 1) + 0) = _
    omega
  have hle2 : ∀ f ∈ rest ++ [(x, i + 1)], f.2 ≤ (adj f.1).length := fun f hf => by
    rcases List.mem_append.mp hf with z | z
    · exact hle f (List.mem_append_left _ z)
    · rw [List.mem_singleton.mp z]
      exact hil
  rcases bl_of (L := Sc) (j := y) (by omega) with hb | hb
  · refine ⟨_, rfl, _, rfl, _, _, _, _, rfl, rfl, SqL.of hs6, bv_at hb, _, rfl, iteF ?_⟩
    refine ⟨_, ?_, _, _, _, left, rest ++ [(x, i + 1)], Sc, rfl, hk6, hll6, k3, hs6, hSc, dfs_old hD hy hb, hle2, rfl⟩
    rw [← hμ, how, how2]
    omega
  · refine ⟨_, rfl, _, rfl, _, _, _, _, rfl, rfl, SqL.of hs6, bv_at hb, _, rfl, iteT ?_⟩
    have hnew : ¬ Got Sc y := fun z => by unfold Got at z; rw [hb] at z; cases z
    refine ⟨_, rfl, _, rfl, s, _, _, y, rfl, rfl, hs6, ix_at (by rw [List.length_map, hSc]; exact hyN), ?_⟩
    rw [bv_set]
    have hk7 : Kept s H (upd H6 s (.lst (bv (Sc.set y true)))) := fun b o z n => by rw [upd_ne n]; exact hk6 _ _ z n
    have hll7 : (upd H6 s (.lst (bv (Sc.set y true)))) ll = some (.lst (iv left)) := by rw [upd_ne nls]; exact hll6
    have hs7 : (upd H6 s (.lst (bv (Sc.set y true)))) s = some (.lst (bv (Sc.set y true))) := upd_same
    have hT7 : TiesAt (upd H6 s (.lst (bv (Sc.set y true)))) tl (rest ++ [(x, i + 1)]) := by
      obtain ⟨tas, t1, t2⟩ := k3
      refine ⟨tas, by rw [upd_ne ntls]; exact t1, paired_mono (fun q' e' hq => ?_) t2⟩
      have : q' ≠ s := ne_of hq hs6 (by intro z; cases z)
      show upd _ _ _ q' = _
      rw [upd_ne this]
      exact hq
    generalize upd H6 s (.lst (bv (Sc.set y true))) = H7 at hk7 hll7 hs7 hT7
    obtain ⟨xs7, hx7, hx7l⟩ := hT7.get
    refine ⟨_, rfl, .inl ⟨rfl, _, SqL.of hx7⟩, _, rfl, (by show 2 ≤ sizeLine; decide), fun tr2 ntr => ?_⟩
    obtain ⟨zs, m1, m2, m3⟩ := hT7.pushV (u := y) (v := 0) (x := V.int (y : Int)) (y := V.int 0) rfl rfl ntr
    refine ⟨tl, _, _, rfl, rfl, m1, by rw [m2, List.length_append, List.length_singleton]; exact Nat.lt_of_lt_of_le (by omega : rest.length + 1 < 1000) (by decide), ?_⟩
    have hset := todo_set adj hb N
    rw [if_pos hyN] at hset
    have how3 : owed adj (rest ++ [(x, i + 1)] ++ [(y, 0)]) = owed adj (rest ++ [(x, i + 1)]) + ((adj y).length + 1) := by
      rw [owed_app]
      show _ + (((adj y).length - 0 + 1) + 0) = _
      omega
    refine ⟨_, ?_, _, _, _, left, rest ++ [(x, i + 1)] ++ [(y, 0)], Sc.set y true, rfl, (hk7.new ntr).put ntlH, by rw [upd_ne ntll.symm]; exact same_new ntr _ _ _ hll7, m3, by rw [upd_ne ntls.symm]; exact same_new ntr _ _ _ hs7, by rw [List.length_set]; exact hSc, dfs_new hD hy hnew (got_set (by omega)), fun f hf => ?_, rfl⟩
    · rw [← hμ, how, how3, how2]
      omega
    · rcases List.mem_append.mp hf with z | z
      · exact hle2 f z
      · rw [List.mem_singleton.mp z]
        exact Nat.zero_le _
end
end My
namespace My
open PySem L2 PyProof.Rows
abbrev cn (L : List Nat) : List Int := L.map fun n : Nat => (n : Int)
theorem cn_rising {L : List Nat} (h : L.Pairwise (· < ·)) : (cn L).Pairwise (· < ·) := List.Pairwise.map _ (fun a b hab => by show (a : Int) < (b : Int); omega) h
theorem cn_nodup {L : List Nat} (h : L.Nodup) : (cn L).Nodup := List.Pairwise.map (R := (· ≠ ·)) _ (fun a b hab z => hab (by omega)) h
theorem cls_sorted {E : Nat → Nat → Prop} {N q : Nat} {M : List Nat} {ys : List Int} (hn : M.Nodup) (hm : ∀ x, x ∈ M ↔ x < N ∧ Mut E q x) (hp : ys.Perm (cn M)) (hs : ys.Pairwise (· ≤ ·)) : ys = cn (clsL E N q) := by
  refine rising_ext (rising_of hs ((hp.nodup_iff).mpr (cn_nodup hn))) (cn_rising clsL_rising) fun z => ?_
  rw [hp.mem_iff, List.mem_map, List.mem_map]
  constructor
  · rintro ⟨x, hx, rfl⟩
    exact ⟨x, clsL_mem.mpr ((hm x).mp hx), rfl⟩
  · rintro ⟨x, hx, rfl⟩
    exact ⟨x, (hm x).mpr (clsL_mem.mp hx), rfl⟩
noncomputable def headO (E : Nat → Nat → Prop) (N p : Nat) : Nat := @dite _ (p < N) (Classical.propDecidable _) (fun h => Classical.choose (head_of (E := E) h)) fun _ => 0
theorem headO_spec {E : Nat → Nat → Prop} {N p : Nat} (h : p < N) : headO E N p ∈ headsL E N ∧ Mut E p (headO E N p) := by
  unfold headO
  rw [dif_pos h]
  exact Classical.choose_spec (head_of (E := E) h)
theorem reps_heads {E : Nat → Nat → Prop} {N : Nat} {HS : List Nat} (hR : HS.Pairwise fun a b => ¬ Mut E a b) (hlt : ∀ q ∈ HS, q < N) (hall : ∀ x, x < N → ∃ q ∈ HS, Mut E x q) : ∃ hs : List Nat, hs.Perm (headsL E N) ∧ HS.map (clsL E N) = hs.map (clsL E N) := by
  refine ⟨HS.map (headO E N), ?_, ?_⟩
  · have hnd : (HS.map (headO E N)).Nodup := by
      rw [List.Nodup, List.pairwise_map]
      refine List.Pairwise.imp_of_mem ?_ hR
      intro a b ha hb h e
      have h1 := (headO_spec (E := E) (hlt a ha)).2
      have h2 := (headO_spec (E := E) (hlt b hb)).2
      rw [e] at h1
      exact h (h1.trans h2.symm)
    refine (List.perm_ext_iff_of_nodup hnd (headsL_rising.imp fun h => Nat.ne_of_lt h)).mpr fun x => ?_
    rw [List.mem_map]
    constructor
    · rintro ⟨q, hq, rfl⟩
      exact (headO_spec (hlt q hq)).1
    · intro hx
      have hx0 := headsL_mem.mp hx
      obtain ⟨q, hq, hm⟩ := hall x hx0.1
      have h2 := headO_spec (E := E) (hlt q hq)
      exact ⟨q, hq, (head_unique hx h2.1 (hm.trans h2.2)).symm⟩
  · rw [List.map_map]
    refine List.map_congr_left fun q hq => ?_
    exact clsL_same (headO_spec (hlt q hq)).2
abbrev Ed (ts : List (Nat × Nat)) : Nat → Nat → Prop := Edge ts []
theorem ed_low {ts : List (Nat × Nat)} {N : Nat} (ho : OkWeb N ts) {a b : Nat} (e : Ed ts a b) : a < N ∧ b < N := by
  obtain ⟨i, h, _⟩ := e
  exact ho.ok _ (List.mem_of_getElem? h)
theorem ed_swaps {ts : List (Nat × Nat)} (a b : Nat) : Ed (swaps ts) a b ↔ Ed ts b a := by
  unfold Ed Edge swaps
  constructor
  · rintro ⟨i, h, n⟩
    rw [List.getElem?_map] at h
    cases e : ts[i]? with
    | none => rw [e] at h; cases h
    | some p =>
      rw [e] at h
      cases h
      exact ⟨i, e, n⟩
  · rintro ⟨i, h, n⟩
    refine ⟨i, ?_, n⟩
    rw [List.getElem?_map, h]
    rfl
theorem edf {ts : List (Nat × Nat)} : (fun u v => v ∈ outs ts [] u) = Ed ts := by
  funext u v
  exact propext outs_mem
theorem lf_ok {ts : List (Nat × Nat)} {N : Nat} (ho : OkWeb N ts) : LfOk (outs ts []) N :=
  ⟨ho.n1, fun u v h => (ed_low ho (outs_mem.mp h)).2, fun u => Nat.le_trans (outN_len ts [] u ts.length) ho.m⟩
def LolAt (H : Hp) (l : Addr) (LL : List (List Nat)) : Prop := ∃ as : List Addr, H l = some (.lst (as.map V.ref)) ∧ Paired (fun (p : Addr) (L : List Nat) => H p = some (.lst (iv L))) as LL
theorem LolAt.same {H H' : Hp} {l : Addr} {LL : List (List Nat)} (h : LolAt H l LL) (s : Same H H') : LolAt H' l LL := by
  obtain ⟨as, h1, h2⟩ := h
  exact ⟨as, s _ _ h1, paired_mono (fun p e hp => s _ _ hp) h2⟩
theorem outN_at {ts : List (Nat × Nat)} {i u v : Nat} (h : ts[i]? = some (u, v)) (j : Nat) : outN ts [] j (i + 1) = if u = j then outN ts [] j i ++ [v] else outN ts [] j i := by
  show (match ts[i]? with | some e => if e.1 = j ∧ i ∉ [] then outN ts [] j i ++ [e.2] else outN ts [] j i | none => outN ts [] j i) = _
  rw [h]
  by_cases c : u = j
  · show (if u = j ∧ i ∉ [] then _ else _) = _
    rw [if_pos c, if_pos ⟨c, by simp⟩]
  · show (if u = j ∧ i ∉ [] then _ else _) = _
    rw [if_neg c, if_neg (fun z => c z.1)]
theorem swaps_at {ts : List (Nat × Nat)} {i u v : Nat} (h : ts[i]? = some (u, v)) : (swaps ts)[i]? = some (v, u) := by
  unfold swaps
  rw [List.getElem?_map, h]
  rfl
theorem swaps_len (ts : List (Nat × Nat)) : (swaps ts).length = ts.length := by
  unfold swaps
  rw [List.length_map]
/-- rows that grow -/
theorem row_put {H : Hp} {fas : List Addr} {f g : Nat → List Nat} {u v : Nat} {xu : Addr} (hn : fas.Nodup) (eu : fas[u]? = some xu) (h : ∀ (j : Nat) (x : Addr), fas[j]? = some x → H x = some (.lst (iv (f j)))) (hg : ∀ j, g j = if u = j then f j ++ [v] else f j) :
    ∀ (j : Nat) (x : Addr), fas[j]? = some x → (upd H xu (.lst (iv (f u) ++ [.int (v : Int)]))) x = some (.lst (iv (g j))) := fun j x e => by
  by_cases c : u = j
  · subst c
    rw [eu] at e
    cases e
    rw [upd_same, hg, if_pos rfl, iv_app]
  · have nx : x ≠ xu := fun z => c (nodup_get hn eu (by rw [← z]; exact e))
    rw [upd_ne nx, hg, if_neg c]
    exact h j x e
structure Pass1 (ts : List (Nat × Nat)) (N i : Nat) (L : List Nat) (S : List Bool) : Prop where
  nd : L.Nodup
  lt : ∀ x ∈ L, x < N
  got : ∀ x, Got S x ↔ x ∈ L
  ln : S.length = N
  cl : ∀ u v, Got S u → v ∈ outs ts [] u → Got S v
  up : ∀ x, x < i → x ∈ L
  star : StarL (Ed ts) L
theorem rep_false (N : Nat) : (List.replicate (N : Int).toNat [V.bl false]).flatten = bv (List.replicate N false) := by
  rw [Int.toNat_natCast]
  induction N with
  | zero => rfl
  | succ n ih =>
    rw [List.replicate_succ, List.replicate_succ, List.flatten_cons, ih]
    rfl
theorem no_got (N x : Nat) : ¬ Got (List.replicate N false) x := fun h => by
  unfold Got at h
  rw [List.getElem?_replicate] at h
  split at h
  · cases h
  · cases h
theorem pass1_start (ts : List (Nat × Nat)) (N : Nat) : Pass1 ts N 0 [] (List.replicate N false) :=
  ⟨by simp, by simp, fun x => ⟨fun h => absurd h (no_got N x), fun h => by simp at h⟩, by simp, fun u v h => absurd h (no_got N u), fun x h => by omega, star_nil⟩
theorem pass1_old {ts : List (Nat × Nat)} {N i : Nat} {L : List Nat} {S : List Bool} (h : Pass1 ts N i L S) (hi : Got S i) : Pass1 ts N (i + 1) L S :=
  ⟨h.nd, h.lt, h.got, h.ln, h.cl, fun x hx => by
    by_cases c : x = i
    · rw [c]; exact (h.got i).mp hi
    · exact h.up x (by omega), h.star⟩
theorem pass1_new {ts : List (Nat × Nat)} {N i : Nat} {L M : List Nat} {S S' : List Bool} (h : Pass1 ts N i L S) (r : LfRes (outs ts []) N i S S' M) (hi : ¬ Got S i) : Pass1 ts N (i + 1) (L ++ M) S' := by
  refine ⟨?_, fun x hx => ?_, fun x => ?_, r.ln, r.cl, fun x hx => ?_, star_app h.star fun A q B e x rr => ?_⟩
  · rw [List.nodup_append]
    refine ⟨h.nd, r.nd, fun a ha b hb e => ?_⟩
    rw [← e] at hb
    exact ((r.mem a).mp hb).2 ((h.got a).mpr ha)
  · rcases List.mem_append.mp hx with z | z
    · exact h.lt x z
    · exact r.lt x z
  · rw [r.got, h.got, List.mem_append]
  · by_cases c : x = i
    · rw [c]
      exact List.mem_append_right _ ((r.mem i).mpr ⟨rch_refl i, hi⟩)
    · exact List.mem_append_left _ (h.up x (by omega))
  · have hr := r.star A q B e x (by rw [edf]; exact rr)
    rw [edf] at hr
    rcases hr with z | z
    · exact .inl ((h.got x).mp z)
    · exact .inr z
theorem iv_bv {L : List Nat} {S : List Bool} (h : iv L = bv S) : S = [] := by
  cases S with
  | nil => rfl
  | cons b r =>
    cases L with
    | nil => cases h
    | cons n t => cases (List.cons.inj h).1
theorem LolAt.put {H : Hp} {l p : Addr} {LL : List (List Nat)} {S S2 : List Bool} (h : LolAt H l LL) (hl : l ≠ p) (hp : H p = some (.lst (bv S))) (hS : S ≠ []) {H' : Hp} (k : Kept p H H') : LolAt H' l LL := by
  obtain ⟨as, h1, h2⟩ := h
  refine ⟨as, k _ _ h1 hl, paired_mono (fun q L hq => k _ _ hq fun z => ?_) h2⟩
  rw [z, hp] at hq
  exact hS (iv_bv (HO.lst.inj (Option.some.inj hq)).symm)
theorem LolAt.push {H : Hp} {l p : Addr} {LL : List (List Nat)} {L : List Nat} (h : LolAt H l LL) (np : H p = none) : ∃ xs, (upd H p (.lst (iv L))) l = some (.lst xs) ∧ xs.length = LL.length ∧ LolAt (upd (upd H p (.lst (iv L))) l (.lst (xs ++ [.ref p]))) l (LL ++ [L]) := by
  obtain ⟨as, h1, h2⟩ := h
  have nl : l ≠ p := ne_of_none h1 np
  refine ⟨as.map V.ref, by rw [upd_ne nl]; exact h1, by rw [List.length_map]; exact paired_len h2, as ++ [p], by rw [upd_same, List.map_append]; rfl, paired_app ?_ (by rw [upd_ne nl.symm, upd_same])⟩
  have key : ∀ (q : Addr) (M : List Nat), q ∈ as → H q = some (.lst (iv M)) → q ≠ l := fun q M hq e z => by
    rw [z, h1] at e
    have e := HO.lst.inj (Option.some.inj e)
    have hm : V.ref q ∈ iv M := by rw [← e]; exact List.mem_map.mpr ⟨q, hq, rfl⟩
    obtain ⟨n, _, z2⟩ := List.mem_map.mp hm
    cases z2
  clear h1
  have go : ∀ {bs : List Addr} {MM : List (List Nat)}, (∀ q ∈ bs, q ∈ as) → Paired (fun (p : Addr) (L : List Nat) => H p = some (.lst (iv L))) bs MM → Paired (fun (q : Addr) (M : List Nat) => (upd (upd H p (.lst (iv L))) l (.lst (as.map V.ref ++ [.ref p]))) q = some (.lst (iv M))) bs MM := by
    intro bs MM hb hp
    induction hp with
    | nil => exact .nil
    | @cons q M bs MM r t ih =>
      refine .cons ?_ (ih fun x hx => hb x (List.mem_cons_of_mem _ hx))
      rw [upd_ne (key q M (hb q List.mem_cons_self) r), upd_ne (ne_of_none r np)]
      exact r
  exact go (fun q hq => hq) h2
/-- what a list tells is new -/
def NewIn (H H' : Hp) (l : Addr) : Prop := ∀ xs q, H' l = some (.lst xs) → V.ref q ∈ xs → H q = none
theorem NewIn.keep {H H' H2 : Hp} {l : Addr} (h : NewIn H H' l) (e : H2 l = H' l) : NewIn H H2 l := fun xs q hx hq => h xs q (e ▸ hx) hq
structure Pass2 (ts : List (Nat × Nat)) (N : Nat) (B : List Nat) (S : List Bool) (HS : List Nat) : Prop where
  ln : S.length = N
  got : ∀ x, Got S x ↔ ∃ y ∈ B, Mut (Ed ts) y x
  cl : ∀ u v, Got S u → v ∈ outs (swaps ts) [] u → Got S v
  rep : HS.Pairwise fun a b => ¬ Mut (Ed ts) a b
  sub : ∀ q ∈ HS, q ∈ B
  all : ∀ y ∈ B, ∃ q ∈ HS, Mut (Ed ts) y q
theorem pass2_start (ts : List (Nat × Nat)) (N : Nat) : Pass2 ts N [] (List.replicate N false) [] :=
  ⟨by simp, fun x => ⟨fun h => absurd h (no_got N x), fun ⟨y, hy, _⟩ => by simp at hy⟩, fun u v h => absurd h (no_got N u), by simp, by simp, by simp⟩
theorem pass2_old {ts : List (Nat × Nat)} {N q : Nat} {B : List Nat} {S : List Bool} {HS : List Nat} (h : Pass2 ts N B S HS) (hq : Got S q) : Pass2 ts N (B ++ [q]) S HS := by
  obtain ⟨y0, hy0, m0⟩ := (h.got q).mp hq
  refine ⟨h.ln, fun x => ?_, h.cl, h.rep, fun z hz => List.mem_append_left _ (h.sub z hz), fun y hy => ?_⟩
  · rw [h.got]
    constructor
    · rintro ⟨y, hy, m⟩
      exact ⟨y, List.mem_append_left _ hy, m⟩
    · rintro ⟨y, hy, m⟩
      rcases List.mem_append.mp hy with z | z
      · exact ⟨y, z, m⟩
      · rw [List.mem_singleton.mp z] at m
        exact ⟨y0, hy0, m0.trans m⟩
  · rcases List.mem_append.mp hy with z | z
    · exact h.all y z
    · rw [List.mem_singleton.mp z]
      obtain ⟨r, hr, m⟩ := h.all y0 hy0
      exact ⟨r, hr, m0.symm.trans m⟩
theorem pass2_mem {ts : List (Nat × Nat)} {N q : Nat} {A B L : List Nat} {S S' : List Bool} {HS M : List Nat} (ho : OkWeb N ts) (h : Pass2 ts N B S HS) (hL : L = A ++ q :: B.reverse) (hst : StarL (Ed ts) L) (hnd : L.Nodup) (hall : ∀ x, x < N → x ∈ L) (hqN : q < N) (hq : ¬ Got S q) (r : LfRes (outs (swaps ts) []) N q S S' M) (x : Nat) : x ∈ M ↔ x < N ∧ Mut (Ed ts) q x := by
  subst hL
  have hc := class_of hst hnd (fun y hy => hall y (rch_low (fun a b e => (ed_low ho e).1) hqN hy)) (S := Got S) (fun y => by rw [h.got]; simp) hq x
  rw [r.mem, edf, rch_back (fun a b => ed_swaps a b), hc]
  exact ⟨fun z => ⟨rch_low (fun a b e => (ed_low ho e).1) hqN z.2, z⟩, fun z => z.2⟩
theorem pass2_new {ts : List (Nat × Nat)} {N q : Nat} {B : List Nat} {S S' : List Bool} {HS M : List Nat} (ho : OkWeb N ts) (h : Pass2 ts N B S HS) (hq : ¬ Got S q) (hqN : q < N) (r : LfRes (outs (swaps ts) []) N q S S' M) (hm : ∀ x, x ∈ M ↔ x < N ∧ Mut (Ed ts) q x) : Pass2 ts N (B ++ [q]) S' (HS ++ [q]) := by
  refine ⟨r.ln, fun x => ?_, r.cl, ?_, fun z hz => ?_, fun y hy => ?_⟩
  · rw [r.got, h.got, hm]
    constructor
    · rintro (⟨y, hy, m⟩ | ⟨_, m⟩)
      · exact ⟨y, List.mem_append_left _ hy, m⟩
      · exact ⟨q, by simp, m⟩
    · rintro ⟨y, hy, m⟩
      rcases List.mem_append.mp hy with z | z
      · exact .inl ⟨y, z, m⟩
      · rw [List.mem_singleton.mp z] at m
        exact .inr ⟨rch_low (fun a b e => (ed_low ho e).1) hqN m.2, m⟩
  · rw [List.pairwise_append]
    refine ⟨h.rep, by simp, fun a ha b hb m => ?_⟩
    rw [List.mem_singleton.mp hb] at m
    exact hq ((h.got q).mpr ⟨a, h.sub a ha, m⟩)
  · rcases List.mem_append.mp hz with w | w
    · exact List.mem_append_left _ (h.sub z w)
    · exact List.mem_append_right _ w
  · rcases List.mem_append.mp hy with z | z
    · obtain ⟨p, hp, m⟩ := h.all y z
      exact ⟨p, List.mem_append_left _ hp, m⟩
    · rw [List.mem_singleton.mp z]
      exact ⟨q, by simp, mut_refl q⟩
section
variable {P : Program} {w : World} {K : PySem.W.Frag} {mg : Str → Option Value} {base : Heap} {C C2 : Addr}
def spparts_in_turn (_ : PySem.W.Frag) (_ _ : Addr) : Sp := fun vs H Q _ => ∃ N s ts, vs = [.int ((N : Nat) : Int), .ref s] ∧ StepsAt H s ts ∧ OkWeb N ts ∧ ∀ H' l (hs : List Nat), H l = none → Same H H' → hs.Perm (headsL (Ed ts) N) → LolAt H' l (hs.map (clsL (Ed ts) N)) → NewIn H H' l → Q (.ref l) H'
theorem okparts_in_turn (D : Def K mg "parts_in_turn" sparts_in_turn ["points", "steps"]) (B : Bs mg) (Glb : Glo mg) (WK : WebK K mg C) (PK : PieceK K mg C2)
    (h_left_from : Good P w K mg base "_left_from" s_left_from ["ends", "point", "seen"] 1 (sp_left_from K C C2)) :
    Good P w K mg base "parts_in_turn" sparts_in_turn ["points", "steps"] 2 (spparts_in_turn K C C2) := by
  refine D.good fun f fd F => ?_
  obtain ⟨f_left_from, d_left_from, O_left_from, m_left_from, k_left_from, b_left_from, F_left_from⟩ := h_left_from
  refine F.ok scparts_in_turn (fun vs H Q E h => ?_) (fun cdv A outer s H vs Q E hr h => ?_)
  · obtain ⟨N, s, ts, rfl, hs, ho, q⟩ := h
    first | rfl | (rcases h with ⟨_, _, rfl, _⟩ | ⟨_, rfl, _⟩ <;> rfl)
  obtain ⟨N, s, ts, rfl, hs, ho, q⟩ := h
  refine ⟨_, (pss_cons (ps_setLc (i := 2) (own := [("_", 6)]) (g := gName 6) (by rfl) scparts_in_turn.nd rfl rfl (sw_true rfl rfl rfl (by decide +kernel)) (pi_range1 (by rfl) B.range (pa_cons (pv 0) pa_nil)) (blkOk_by (own := [("_", 6)]) (N := ["points", "steps", "ahead", "behind", "near", "far", "_", "left", "seen", "point", "parts"]) (sc := defScope sparts_in_turn) (by decide +kernel)) (fun _ _ _ _ _ => (pg_name (i := 6) scparts_in_turn.nd rfl (by first | exact Or.inl rfl | exact Or.inr rfl))) (fun _ _ _ _ _ => pts_nil) (fun _ _ _ _ _ => (pe_lst pa_nil)))
  (pss_cons (ps_setLc (i := 3) (own := [("_", 6)]) (g := gName 6) (by rfl) scparts_in_turn.nd rfl rfl (sw_true rfl rfl rfl (by decide +kernel)) (pi_range1 (by rfl) B.range (pa_cons (pv 0) pa_nil)) (blkOk_by (own := [("_", 6)]) (N := ["points", "steps", "ahead", "behind", "near", "far", "_", "left", "seen", "point", "parts"]) (sc := defScope sparts_in_turn) (by decide +kernel)) (fun _ _ _ _ _ => (pg_name (i := 6) scparts_in_turn.nd rfl (by first | exact Or.inl rfl | exact Or.inr rfl))) (fun _ _ _ _ _ => pts_nil) (fun _ _ _ _ _ => (pe_lst pa_nil)))
  (pss_cons (ps_for PassesOwn.never rfl (pi_list (pv 1)) (pg_tup rfl (pgs_cons (pg_name (i := 4) scparts_in_turn.nd rfl (by first | exact Or.inl rfl | exact Or.inr rfl)) (pgs_cons (pg_name (i := 5) scparts_in_turn.nd rfl (by first | exact Or.inl rfl | exact Or.inr rfl)) (pgs_cons (pg_name (i := 6) scparts_in_turn.nd rfl (by first | exact Or.inl rfl | exact Or.inr rfl)) pgs_nil))))
    (pss_cons (ps_expr (pe_bm PySem.F.plainAttrs_list PySem.F.slot_list_append PySem.F.type_list_append mt_append (pe_ix ix_list (pv 2) (pv 4) (fun _ _ => rfl)) (pa_cons (pv 5) pa_nil)))
  (pss_one (ps_expr (pe_bm PySem.F.plainAttrs_list PySem.F.slot_list_append PySem.F.type_list_append mt_append (pe_ix ix_list (pv 3) (pv 5) (fun _ _ => rfl)) (pa_cons (pv 4) pa_nil))))))
  (pss_cons (ps_set (i := 7) scparts_in_turn.nd rfl (by first | exact Or.inl rfl | exact Or.inr rfl) (pe_lst pa_nil))
  (pss_cons (ps_set (i := 8) scparts_in_turn.nd rfl (by first | exact Or.inl rfl | exact Or.inr rfl) (pe_op op_rep (pe_lst (pa_cons pe_bl pa_nil)) (pv 0)))
  (pss_cons (ps_for PassesOwn.never rfl (pi_range1 (by rfl) B.range (pa_cons (pv 0) pa_nil)) (pg_name (i := 9) scparts_in_turn.nd rfl (by first | exact Or.inl rfl | exact Or.inr rfl))
    (pss_one (ps_if (pt_not (pt_val (pe_ix ix_list (pv 8) (pv 9) (fun _ _ => rfl))))
    (pss_one (ps_expr (pe_bm PySem.F.plainAttrs_list PySem.F.slot_list_extend PySem.F.type_list_extend mt_extend (pv 7) (pa_cons (pe_call O_left_from hr rfl m_left_from k_left_from b_left_from .nil pass0 (pa_cons (pv 2) (pa_cons (pv 9) (pa_cons (pv 8) pa_nil)))) pa_nil)))) pss_nil)))
  (pss_cons (ps_set (i := 10) scparts_in_turn.nd rfl (by first | exact Or.inl rfl | exact Or.inr rfl) (pe_lst pa_nil))
  (pss_cons (ps_set (i := 8) scparts_in_turn.nd rfl (by first | exact Or.inl rfl | exact Or.inr rfl) (pe_op op_rep (pe_lst (pa_cons pe_bl pa_nil)) (pv 0)))
  (pss_cons (ps_for PassesOwn.never rfl (pi_list (pe_revL (pv 7))) (pg_name (i := 9) scparts_in_turn.nd rfl (by first | exact Or.inl rfl | exact Or.inr rfl))
    (pss_one (ps_if (pt_not (pt_val (pe_ix ix_list (pv 8) (pv 9) (fun _ _ => rfl))))
    (pss_one (ps_expr (pe_bm PySem.F.plainAttrs_list PySem.F.slot_list_append PySem.F.type_list_append mt_append (pv 10) (pa_cons (pe_callB cr_sortedI (by rfl) B.sorted (by decide +kernel) (pa_cons (pe_call O_left_from hr rfl m_left_from k_left_from b_left_from .nil pass0 (pa_cons (pv 3) (pa_cons (pv 9) (pa_cons (pv 8) pa_nil)))) pa_nil)) pa_nil)))) pss_nil)))
  (pss_one (ps_ret (pv 10)))))))))))), ?_⟩
  have hN := ho.n1
  have hm := ho.m
  refine ⟨_, rfl, _, rfl, by omega, by omega, fun D1 nD1 => ?_⟩
  refine lc_range (lo := 0) (n := N) (fun i H' => Fresh H D1 i H') (Fresh.zero nD1) ?_ ?_
  · intro i H' hi hf
    exact ⟨rfl, Nat.zero_le _, fun p np => hf.step nD1 (by omega) np⟩
  rintro H1 ⟨fas, f1, f2, f3, f4, f5, f6⟩
  refine ⟨_, rfl, _, rfl, by omega, by omega, fun D2 nD2 => ?_⟩
  refine lc_range (lo := 0) (n := N) (fun i H' => Fresh H1 D2 i H') (Fresh.zero nD2) ?_ ?_
  · intro i H' hi hf
    exact ⟨rfl, Nat.zero_le _, fun p np => hf.step nD2 (by omega) np⟩
  rintro H2 ⟨os, g1, g2, g3, g4, g5, g6⟩
  obtain ⟨sas, s1, s2, s3⟩ := hs
  have fo : ∀ x ∈ fas, x ∉ os := fun x hx z => by
    have h := (g3 x z).1
    rw [f6 x hx] at h
    cases h
  have D1f : D1 ∉ fas := fun z => (f3 D1 z).2 rfl
  have D1o : D1 ∉ os := fun z => by
    have h := (g3 D1 z).1
    rw [f5] at h
    cases h
  have D2o : D2 ∉ os := fun z => (g3 D2 z).2 rfl
  have D2f : D2 ∉ fas := fun z => by
    have h := f6 D2 z
    rw [nD2] at h
    cases h
  have nin : ∀ {b : Addr}, b ∉ fas → b ∉ os → b ∉ fas ++ os := fun h1 h2 z => (List.mem_append.mp z).elim h1 h2
  have old : ∀ b o, H b = some o → H2 b = some o ∧ b ∉ fas ++ os := fun b o e => by
    have h5 := f4 _ _ e
    refine ⟨g4 _ _ h5, nin (fun z => ?_) (fun z => ?_)⟩
    · rw [(f3 b z).1] at e; cases e
    · rw [(g3 b z).1] at h5; cases h5
  have hD12 : H2 D1 = some (.lst (fas.map V.ref)) := g4 _ _ f5
  refine ⟨_, rfl, s, rfl, ⟨_, SqL.of (old _ _ s1).1⟩, ?_⟩
  refine for_list (K := K) (a := s) (xs := sas.map V.ref) (fun i σ H' => ∃ v4 v5 v6 : Option V, σ = [some (.int (N : Int)), some (.ref s), some (.ref D1), some (.ref D2), v4, v5, v6, none, none, none, none] ∧ KeptR (fas ++ os) H2 H' ∧ (∀ (j : Nat) (x : Addr), fas[j]? = some x → H' x = some (.lst (iv (outN ts [] j i)))) ∧ (∀ (j : Nat) (x : Addr), os[j]? = some x → H' x = some (.lst (iv (outN (swaps ts) [] j i))))) ?_ ?_ ?_ ?_
  · exact ⟨_, _, _, rfl, .refl _ _, fun j x e => g4 _ _ (f6 x (List.mem_of_getElem? e)), fun j x e => g6 x (List.mem_of_getElem? e)⟩
  · rintro i σ H' hi ⟨v4, v5, v6, rfl, hk, _⟩
    exact SqL.of (hk _ _ (old _ _ s1).1 (old _ _ s1).2)
  · rintro i x σ H3 hx ⟨v4, v5, v6, rfl, hk, hf, hos⟩
    have hi := (List.getElem?_eq_some_iff.mp hx).1
    rw [List.length_map] at hi
    obtain ⟨⟨u, v⟩, he⟩ : ∃ e, ts[i]? = some e := ⟨ts[i]'(by omega), List.getElem?_eq_getElem _⟩
    obtain ⟨p, e1, e2⟩ := s3 i u v he
    rw [List.getElem?_map, e1] at hx
    cases hx
    obtain ⟨hu, hv⟩ := ho.ok _ (List.mem_of_getElem? he)
    have hp3 : H3 p = some (.tup [.int (u : Int), .int (v : Int), .int (i : Int)]) := hk _ _ (old _ _ e2).1 (old _ _ e2).2
    obtain ⟨xu, eu⟩ : ∃ x, fas[u]? = some x := ⟨fas[u]'(by omega), List.getElem?_eq_getElem _⟩
    obtain ⟨xv, ev⟩ : ∃ x, os[v]? = some x := ⟨os[v]'(by omega), List.getElem?_eq_getElem _⟩
    have mu := List.mem_of_getElem? eu
    have mv := List.mem_of_getElem? ev
    have hxu := hf u xu eu
    have hbi : i < 1000 := by omega
    refine ⟨p, _, rfl, SqT.of hp3, rfl, _, _, rfl, _, _, rfl, _, _, rfl, rfl, ?_⟩
    refine ⟨_, rfl, _, rfl, _, _, _, .ref xu, rfl, rfl, SqL.of (hk _ _ hD12 (nin D1f D1o)), atI_nat (by rw [List.getElem?_map, eu]; rfl), .inl ⟨rfl, _, SqL.of hxu⟩, _, rfl, xu, _, _, rfl, rfl, hxu, ?_, ?_⟩
    · rw [List.length_map]
      exact Nat.lt_of_le_of_lt (outN_len ts [] u i) (Nat.lt_trans hbi (by decide))
    have hk4 : KeptR (fas ++ os) H2 (upd H3 xu (.lst (iv (outN ts [] u i) ++ [.int (v : Int)]))) := hk.put (List.mem_append_left _ mu)
    have hf4 := row_put f2 eu hf (g := fun j => outN ts [] j (i + 1)) (v := v) (outN_at he)
    have ho4 : ∀ (j : Nat) (x : Addr), os[j]? = some x → (upd H3 xu (.lst (iv (outN ts [] u i) ++ [.int (v : Int)]))) x = some (.lst (iv (outN (swaps ts) [] j i))) := fun j x e => by
      rw [upd_ne (fun z => fo xu mu (by rw [← z]; exact List.mem_of_getElem? e))]
      exact hos j x e
    generalize upd H3 xu (.lst (iv (outN ts [] u i) ++ [.int (v : Int)])) = H4 at hk4 hf4 ho4
    have hxv := ho4 v xv ev
    refine ⟨_, rfl, _, rfl, _, _, _, .ref xv, rfl, rfl, SqL.of (hk4 _ _ g5 (nin D2f D2o)), atI_nat (by rw [List.getElem?_map, ev]; rfl), .inl ⟨rfl, _, SqL.of hxv⟩, _, rfl, xv, _, _, rfl, rfl, hxv, ?_, ?_⟩
    · rw [List.length_map]
      exact Nat.lt_of_le_of_lt (outN_len (swaps ts) [] v i) (Nat.lt_trans hbi (by decide))
    refine ⟨_, _, _, rfl, hk4.put (List.mem_append_right _ mv), fun j x e => ?_, row_put (u := v) (v := u) (f := fun j => outN (swaps ts) [] j i) (g := fun j => outN (swaps ts) [] j (i + 1)) g2 ev ho4 (outN_at (swaps_at he))⟩
    rw [upd_ne (fun z => fo x (List.mem_of_getElem? e) (by rw [z]; exact mv))]
    exact hf4 j x e
  rintro σ H3 ⟨v4, v5, v6, rfl, hk, hf, hos⟩
  rw [List.length_map, s2] at hf hos
  rw [← swaps_len ts] at hos
  have hS03 : Same H H3 := fun b o e => hk _ _ (old _ _ e).1 (old _ _ e).2
  have hR1 : RowsAt H3 D1 N (outs ts []) := ⟨fas, hk _ _ hD12 (nin D1f D1o), f1, hf⟩
  have hR2 : RowsAt H3 D2 N (outs (swaps ts) []) := ⟨os, hk _ _ g5 (nin D2f D2o), g1, hos⟩
  clear hk hf hos hD12
  refine ⟨Nat.zero_le _, fun ll nll => ⟨(by show 1 ≤ sizeLine; decide), fun b1 nb1 => ⟨_, rfl, b1, _, _, rfl, rfl, upd_same, by omega, by omega, ?_, fun sl nsl => ?_⟩⟩⟩
  · show 1 * (N : Int).toNat ≤ sizeLine
    rw [Int.toNat_natCast, Nat.one_mul]
    exact Nat.le_trans hN (by decide)
  rw [rep_false]
  have hS34 : Same H3 (upd (upd (upd H3 ll (.lst [])) b1 (.lst [.bl false])) sl (.lst (bv (List.replicate N false)))) := fun b o e => same_new nsl _ _ _ (same_new nb1 _ _ _ (same_new nll _ _ _ e))
  have hsl4 : (upd (upd (upd H3 ll (.lst [])) b1 (.lst [.bl false])) sl (.lst (bv (List.replicate N false)))) sl = some (.lst (bv (List.replicate N false))) := upd_same
  have hll4 : (upd (upd (upd H3 ll (.lst [])) b1 (.lst [.bl false])) sl (.lst (bv (List.replicate N false)))) ll = some (.lst (iv [])) := same_new nsl _ _ _ (same_new nb1 _ _ _ upd_same)
  have nls : ll ≠ sl := ne_of_none (same_new nb1 (.lst [.bl false]) _ _ (upd_same (H := H3) (a := ll) (o := .lst []))) nsl
  have nsl3 : H3 sl = none := by
    have h1 : Same H3 (upd (upd H3 ll (.lst [])) b1 (.lst [.bl false])) := fun b o e => same_new nb1 _ _ _ (same_new nll _ _ _ e)
    exact h1.free nsl
  generalize upd (upd (upd H3 ll (.lst [])) b1 (.lst [.bl false])) sl (.lst (bv (List.replicate N false))) = H4 at hS34 hsl4 hll4
  refine ⟨_, rfl, _, rfl, by omega, by omega, ?_⟩
  refine for_range (lo := 0) (n := N) (fun i σ H' => ∃ (v9 : Option V) (L : List Nat) (S : List Bool), σ = [some (.int (N : Int)), some (.ref s), some (.ref D1), some (.ref D2), v4, v5, v6, some (.ref ll), some (.ref sl), v9, none] ∧ Same H3 H' ∧ H' ll = some (.lst (iv L)) ∧ H' sl = some (.lst (bv S)) ∧ Pass1 ts N i L S) ⟨_, [], _, rfl, hS34, hll4, hsl4, pass1_start ts N⟩ ?_ ?_
  · rintro i σ H5 hi ⟨v9, L, S, rfl, hS5, hll5, hsl5, p1⟩
    rw [Int.zero_add]
    rcases bl_of (L := S) (j := i) (by rw [p1.ln]; exact hi) with hb | hb
    · exact ⟨_, rfl, _, rfl, _, _, _, _, rfl, rfl, SqL.of hsl5, bv_at hb, _, rfl, iteF ⟨_, L, S, rfl, hS5, hll5, hsl5, pass1_old p1 hb⟩⟩
    · refine ⟨_, rfl, _, rfl, _, _, _, _, rfl, rfl, SqL.of hsl5, bv_at hb, _, rfl, iteT ?_⟩
      have hno : ¬ Got S i := fun z => by unfold Got at z; rw [hb] at z; cases z
      refine ⟨_, rfl, .inl ⟨rfl, _, SqL.of hll5⟩, _, rfl, _, rfl, _, rfl, D1, i, sl, outs ts [], N, S, rfl, hR1.same hS5, lf_ok ho, hi, hsl5, p1.ln, hno, p1.cl, fun H6 m M S' nm hm6 hs6 hk6 res => ?_⟩
      have hll6 := hk6 _ _ hll5 nls
      have p1' := pass1_new p1 res hno
      have hfew := few p1'.nd p1'.lt
      rw [List.length_append] at hfew
      refine ⟨ll, m, _, _, rfl, rfl, hll6, hm6, ?_, ?_⟩
      · rw [List.length_map, List.length_map]
        exact Nat.le_trans hfew (Nat.le_trans hN (by decide))
      refine ⟨_, L ++ M, S', rfl, fun b o e => ?_, by rw [upd_same, iv, iv, iv, List.map_append], by rw [upd_ne nls.symm]; exact hs6, p1'⟩
      rw [upd_ne (ne_of_none e nll)]
      exact hk6 _ _ (hS5 _ _ e) (ne_of_none e nsl3)
  rintro σ H5 ⟨v9, L, S1, rfl, hS5, hll5, hsl5, p1⟩
  have hS05 := hS03.trans hS5
  have pN : ∀ x, x < N → x ∈ L := p1.up
  refine ⟨Nat.zero_le _, fun pl npl => ⟨(by show 1 ≤ sizeLine; decide), fun b2 nb2 => ⟨_, rfl, b2, _, _, rfl, rfl, upd_same, by omega, by omega, ?_, fun tl ntl => ?_⟩⟩⟩
  · show 1 * (N : Int).toNat ≤ sizeLine
    rw [Int.toNat_natCast, Nat.one_mul]
    exact Nat.le_trans hN (by decide)
  rw [rep_false]
  have hSq : Same H5 (upd (upd H5 pl (.lst [])) b2 (.lst [.bl false])) := fun b o e => same_new nb2 _ _ _ (same_new npl _ _ _ e)
  have hS56 : Same H5 (upd (upd (upd H5 pl (.lst [])) b2 (.lst [.bl false])) tl (.lst (bv (List.replicate N false)))) := fun b o e => same_new ntl _ _ _ (hSq _ _ e)
  have hpl6 : LolAt (upd (upd (upd H5 pl (.lst [])) b2 (.lst [.bl false])) tl (.lst (bv (List.replicate N false)))) pl [] := ⟨[], same_new ntl _ _ _ (same_new nb2 _ _ _ upd_same), .nil⟩
  have htl6 : (upd (upd (upd H5 pl (.lst [])) b2 (.lst [.bl false])) tl (.lst (bv (List.replicate N false)))) tl = some (.lst (bv (List.replicate N false))) := upd_same
  have npt : pl ≠ tl := ne_of_none (same_new nb2 (.lst [.bl false]) _ _ (upd_same (H := H5) (a := pl) (o := .lst []))) ntl
  have ntl5 : H5 tl = none := hSq.free ntl
  have npl0 : H pl = none := hS05.free npl
  generalize upd (upd (upd H5 pl (.lst [])) b2 (.lst [.bl false])) tl (.lst (bv (List.replicate N false))) = H6 at hS56 hpl6 htl6
  refine ⟨_, rfl, ll, _, rfl, SqL.of (hS56 _ _ hll5), fun rl nrl => ⟨rl, rfl, ⟨_, SqL.of upd_same⟩, ?_⟩⟩
  have hS57 : Same H5 (upd H6 rl (.lst (iv L).reverse)) := fun b o e => same_new nrl _ _ _ (hS56 _ _ e)
  have hpl7 := hpl6.same (same_new nrl (.lst (iv L).reverse))
  have htl7 := same_new nrl (.lst (iv L).reverse) _ _ htl6
  have hrl7 : (upd H6 rl (.lst (iv L).reverse)) rl = some (.lst (iv L.reverse)) := by rw [upd_same, iv, iv, List.map_reverse]
  have nrt : rl ≠ tl := (ne_of_none htl6 nrl).symm
  have nrp : rl ≠ pl := by
    obtain ⟨as, e, _⟩ := hpl6
    exact (ne_of_none e nrl).symm
  have hni7 : NewIn H (upd H6 rl (.lst (iv L).reverse)) pl := fun xs q hx hq => by
    obtain ⟨as, e, hp⟩ := hpl7
    cases hp
    rw [e] at hx
    cases hx
    simp at hq
  generalize upd H6 rl (.lst (iv L).reverse) = H7 at hni7 hS57 hpl7 htl7 hrl7
  refine for_list (K := K) (a := rl) (xs := iv L.reverse) (fun i σ H' => ∃ (v9 : Option V) (S : List Bool) (HS : List Nat), σ = [some (.int (N : Int)), some (.ref s), some (.ref D1), some (.ref D2), v4, v5, v6, some (.ref ll), some (.ref tl), v9, some (.ref pl)] ∧ Same H5 H' ∧ H' rl = some (.lst (iv L.reverse)) ∧ H' tl = some (.lst (bv S)) ∧ LolAt H' pl (HS.map (clsL (Ed ts) N)) ∧ NewIn H H' pl ∧ Pass2 ts N (L.reverse.take i) S HS) ⟨_, _, [], rfl, hS57, hrl7, htl7, hpl7, hni7, pass2_start ts N⟩ (fun i σ H' _ ⟨_, _, _, _, _, h, _⟩ => SqL.of h) ?_ ?_
  · rintro i x σ H8 hx ⟨v9', S, HS, rfl, hS8, hrl8, htl8, hpl8, hni8, p2⟩
    rw [List.getElem?_map] at hx
    obtain ⟨q0, hq0, rfl⟩ : ∃ q, L.reverse[i]? = some q ∧ x = V.int (q : Int) := by
      cases e : L.reverse[i]? with
      | none => rw [e] at hx; cases hx
      | some q => rw [e] at hx; exact ⟨q, rfl, (Option.some.inj hx).symm⟩
    have hqN : q0 < N := p1.lt q0 (List.mem_reverse.mp (List.mem_of_getElem? hq0))
    have htk := take_snocE hq0
    have hL : L = (L.reverse.drop (i + 1)).reverse ++ q0 :: (L.reverse.take i).reverse := by
      have e1 : L.reverse = L.reverse.take i ++ q0 :: L.reverse.drop (i + 1) := by
        conv => lhs; rw [← List.take_append_drop (i + 1) L.reverse, htk]
        simp
      have e2 := congrArg List.reverse e1
      rw [List.reverse_reverse] at e2
      exact e2.trans (by rw [List.reverse_append, List.reverse_cons, List.append_assoc]; rfl)
    rcases bl_of (L := S) (j := q0) (by rw [p2.ln]; exact hqN) with hb | hb
    · exact ⟨_, rfl, _, rfl, _, _, _, _, rfl, rfl, SqL.of htl8, bv_at hb, _, rfl, iteF ⟨_, S, HS, rfl, hS8, hrl8, htl8, hpl8, hni8, by rw [htk]; exact pass2_old p2 hb⟩⟩
    · refine ⟨_, rfl, _, rfl, _, _, _, _, rfl, rfl, SqL.of htl8, bv_at hb, _, rfl, iteT ?_⟩
      have hno : ¬ Got S q0 := fun z => by unfold Got at z; rw [hb] at z; cases z
      have hSne : S ≠ [] := fun z => by have := p2.ln; rw [z] at this; simp at this; omega
      obtain ⟨as8, hpl8a, hpl8b⟩ := id hpl8
      refine ⟨_, rfl, .inl ⟨rfl, _, SqL.of hpl8a⟩, _, rfl, _, rfl, _, rfl, D2, q0, tl, outs (swaps ts) [], N, S, rfl, hR2.same (hS5.trans hS8), lf_ok (okWeb_swaps ho), hqN, htl8, p2.ln, hno, p2.cl, fun H9 m M S' nm hm9 hs9 hk9 res => ?_⟩
      have hmm := pass2_mem ho p2 hL p1.star p1.nd pN hqN hno res
      have p2' := pass2_new ho p2 hno hqN res hmm
      refine ⟨m, cn M, rfl, SqL.of (by rw [hm9, iv_iz]), fun ys yl hperm hsort nyl => ?_⟩
      have hys := cls_sorted (E := Ed ts) (N := N) (q := q0) res.nd hmm hperm hsort
      subst hys
      have hpl9 := hpl8.put (S2 := S) npt htl8 hSne hk9
      obtain ⟨xs, g1', g2', g3'⟩ := hpl9.push (L := clsL (Ed ts) N q0) nyl
      rw [show (cn (clsL (Ed ts) N q0)).map V.int = iv (clsL (Ed ts) N q0) from (iv_iz _).symm]
      refine ⟨pl, _, _, rfl, rfl, g1', ?_, ?_⟩
      · rw [g2', List.length_map]
        have hnd : HS.Nodup := p2.rep.imp fun {a b} h e => h (by rw [e]; exact mut_refl b)
        have := few (N := N) hnd (fun y hy => p1.lt y (List.mem_reverse.mp (List.mem_of_mem_take (p2.sub y hy))))
        exact Nat.lt_of_le_of_lt (Nat.le_trans this hN) (by decide)
      refine ⟨_, S', HS ++ [q0], rfl, fun b o e => ?_, ?_, ?_, by rw [List.map_append]; exact g3', ?_, by rw [htk]; exact p2'⟩
      · rw [upd_ne (ne_of_none e npl)]
        exact same_new nyl _ _ _ (hk9 _ _ (hS8 _ _ e) (ne_of_none e ntl5))
      · rw [upd_ne nrp]
        exact same_new nyl _ _ _ (hk9 _ _ hrl8 nrt)
      · rw [upd_ne npt.symm]
        exact same_new nyl _ _ _ hs9
      · intro zs q1 hz hq1
        rw [upd_same] at hz
        cases hz
        have hpl8k : H9 pl = H8 pl := by
          rw [hpl8a]
          exact hk9 _ _ hpl8a npt
        rcases List.mem_append.mp hq1 with z | z
        · refine hni8 xs q1 ?_ z
          rw [← hpl8k]
          rw [upd_ne (ne_of_none (hk9 _ _ hpl8a npt) nyl)] at g1'
          exact g1'
        · have z := V.ref.inj (List.mem_singleton.mp z)
          rw [z]
          exact hS05.free (hS8.free (by
            cases e : H8 yl with
            | none => rfl
            | some o =>
              by_cases c : yl = tl
              · rw [c, hs9] at nyl; cases nyl
              · rw [hk9 _ _ e c] at nyl; cases nyl))
  rintro σ H8 ⟨v9', S, HS, rfl, hS8, hrl8, htl8, hpl8, hni8, p2⟩
  rw [List.length_map, List.take_length] at p2
  obtain ⟨hs, hperm, heq⟩ := reps_heads (N := N) p2.rep (fun q hq => p1.lt q (List.mem_reverse.mp (p2.sub q hq))) (fun x hx => p2.all x (List.mem_reverse.mpr (pN x hx)))
  rw [heq] at hpl8
  exact ⟨_, rfl, q H8 pl hs npl0 (hS05.trans hS8) hperm hpl8 hni8⟩
end
end My
namespace My
open PySem L2 PyProof.Rows
/-! ### lists of lists as data -/
theorem dn_dz (L : List Nat) : dn L = dz (cn L) := by
  show PyData.list _ = PyData.list _
  rw [List.map_map]
  rfl
theorem dn_inj {L M : List Nat} (h : dn L = dn M) : L = M := by
  have h := PyData.list.inj h
  exact (List.map_inj_right (fun a b e => by have := PyData.int.inj e; omega)).mp h
theorem dpAll_lol {K : PySem.W.Frag} {H : Hp} : ∀ {as : List Addr} {LL : List (List Nat)}, Paired (fun (p : Addr) (L : List Nat) => H p = some (.lst (iv L))) as LL → DpAll K H (as.map V.ref) (LL.map dn)
  | _, _, .nil => .nil
  | _, _, .cons (b := L) h r => .cons (by rw [dn_dz]; exact dp_iv h) (dpAll_lol r)
theorem alikeAll_dn : ∀ L M : List Nat, PySem.W.alikeAll (L.map fun n : Nat => PyData.int (n : Int)) (M.map fun n : Nat => PyData.int (n : Int)) = true
  | [], _ => by rw [List.map_nil, PySem.W.alikeAll]
  | _ :: _, [] => by simp [PySem.W.alikeAll]
  | a :: L, b :: M => by
    rw [List.map_cons, List.map_cons, PySem.W.alikeAll, alikeAll_dn L M]
    simp [PySem.W.alike]
theorem lol_alike (LL : List (List Nat)) : PySem.W.AllAlike (LL.map dn) := by
  intro d hd e he
  obtain ⟨L, _, rfl⟩ := List.mem_map.mp hd
  obtain ⟨M, _, rfl⟩ := List.mem_map.mp he
  rw [PySem.W.alike]
  exact alikeAll_dn L M
theorem lol_sortable (LL : List (List Nat)) : PySem.W.Sortable (LL.map dn) := .others (enc := dn) fun b => ⟨fun z => (by cases z), fun xs z => (by cases z)⟩
theorem dn_depth (L : List Nat) : (dn L).depth ≤ 8 := by
  rw [dn_dz]
  show PyData.depth (.list ((cn L).map PyData.int)) ≤ 8
  unfold PyData.depth
  rw [depthAll_iz]
  omega
theorem lol_pick {H : Hp} {as : List Addr} {LL : List (List Nat)} (hp : Paired (fun (p : Addr) (L : List Nat) => H p = some (.lst (iv L))) as LL) : ∀ {zs : List V} {PP : List (List Nat)}, Paired (fun (z : V) (d : PyData) => ∃ j : Nat, (as.map V.ref)[j]? = some z ∧ (LL.map dn)[j]? = some d) zs (PP.map dn) →
    ∃ bs : List Addr, zs = bs.map V.ref ∧ Paired (fun (p : Addr) (L : List Nat) => H p = some (.lst (iv L))) bs PP ∧ ∀ b ∈ bs, b ∈ as
  | _, [], .nil => ⟨[], rfl, .nil, fun b hb => by simp at hb⟩
  | _, L :: PP, .cons ⟨j, h1, h2⟩ t => by
    obtain ⟨bs, e1, e2, e3⟩ := lol_pick hp t
    rw [List.getElem?_map] at h1 h2
    cases ea : as[j]? with
    | none => rw [ea] at h1; cases h1
    | some a =>
      cases el : LL[j]? with
      | none => rw [el] at h2; cases h2
      | some M =>
        rw [ea] at h1
        rw [el] at h2
        have eM : M = L := dn_inj (Option.some.inj h2)
        obtain ⟨M', k1, k2⟩ := paired_get hp ea
        rw [el] at k1
        cases k1
        subst eM
        have ez := Option.some.inj h1
        refine ⟨a :: bs, by rw [e1, ← ez]; rfl, .cons k2 e2, fun b hb => ?_⟩
        rcases List.mem_cons.mp hb with z | z
        · rw [z]; exact List.mem_of_getElem? ea
        · exact e3 b z
theorem LolAt.add {H : Hp} {l x : Addr} {LL : List (List Nat)} {L : List Nat} (h : LolAt H l LL) (hx : H x = some (.lst (iv L))) (nx : x ≠ l) : ∃ xs, H l = some (.lst xs) ∧ xs.length = LL.length ∧ LolAt (upd H l (.lst (xs ++ [.ref x]))) l (LL ++ [L]) := by
  obtain ⟨as, h1, h2⟩ := h
  refine ⟨as.map V.ref, h1, by rw [List.length_map]; exact paired_len h2, as ++ [x], by rw [upd_same, List.map_append]; rfl, paired_app ?_ (by rw [upd_ne nx]; exact hx)⟩
  have key : ∀ (q : Addr) (M : List Nat), q ∈ as → H q = some (.lst (iv M)) → q ≠ l := fun q M hq e z => by
    rw [z, h1] at e
    have e := HO.lst.inj (Option.some.inj e)
    have hm : V.ref q ∈ iv M := by rw [← e]; exact List.mem_map.mpr ⟨q, hq, rfl⟩
    obtain ⟨n, _, z2⟩ := List.mem_map.mp hm
    cases z2
  clear h1
  have go : ∀ {bs : List Addr} {MM : List (List Nat)}, (∀ q ∈ bs, q ∈ as) → Paired (fun (p : Addr) (L : List Nat) => H p = some (.lst (iv L))) bs MM → Paired (fun (q : Addr) (M : List Nat) => (upd H l (.lst (as.map V.ref ++ [.ref x]))) q = some (.lst (iv M))) bs MM := by
    intro bs MM hb hp
    induction hp with
    | nil => exact .nil
    | @cons q M bs MM r t ih =>
      refine .cons ?_ (ih fun y hy => hb y (List.mem_cons_of_mem _ hy))
      rw [upd_ne (key q M (hb q List.mem_cons_self) r)]
      exact r
  exact go (fun q hq => hq) h2
theorem LolAt.get {H : Hp} {l : Addr} {LL : List (List Nat)} (h : LolAt H l LL) {i : Nat} {L : List Nat} (e : LL[i]? = some L) : ∃ xs x, H l = some (.lst xs) ∧ atI xs (i : Int) = some (.ref x) ∧ H x = some (.lst (iv L)) := by
  obtain ⟨as, h1, h2⟩ := h
  have hi : i < as.length := by rw [paired_len h2]; exact (List.getElem?_eq_some_iff.mp e).1
  obtain ⟨M, k1, k2⟩ := paired_get h2 (List.getElem?_eq_getElem hi)
  rw [e] at k1
  cases k1
  exact ⟨_, as[i], h1, atI_nat (by rw [List.getElem?_map, List.getElem?_eq_getElem hi]; rfl), k2⟩
theorem range_map_at {α : Type} (f : Nat → α) {N i : Nat} (h : i < N) : ((List.range N).map f)[i]? = some (f i) := by
  rw [List.getElem?_map, List.getElem?_range h]
  rfl
/-! ### what is come to, as a list -/
noncomputable def rchL (E : Nat → Nat → Prop) (N p : Nat) : List Nat := (List.range N).filter fun x => bdec (Rch E p x)
theorem rchL_mem {E : Nat → Nat → Prop} {N p x : Nat} : x ∈ rchL E N p ↔ x < N ∧ Rch E p x := by
  unfold rchL
  rw [List.mem_filter, List.mem_range, bdec_iff]
theorem rchL_rising {E : Nat → Nat → Prop} {N p : Nat} : (rchL E N p).Pairwise (· < ·) := by
  unfold rchL
  exact List.Pairwise.filter _ List.pairwise_lt_range
theorem rch_up {E : Nat → Nat → Prop} {N : Nat} (h : ∀ a b, E a b → b < N) {u v : Nat} (hu : u < N) (r : Rch E u v) : v < N := by
  obtain ⟨k, r⟩ := r
  cases r with
  | nil => exact hu
  | snoc _ e => exact h _ _ e
theorem filter_cls {ts : List (Nat × Nat)} {N p : Nat} (hp : p < N) : (rchL (Ed ts) N p).filter (fun o => decide (p ∈ rchL (Ed ts) N o)) = clsL (Ed ts) N p := by
  unfold rchL clsL
  rw [List.filter_filter]
  refine List.filter_congr fun x hx => ?_
  rw [Bool.eq_iff_iff, Bool.and_eq_true, bdec_iff, bdec_iff, decide_eq_true_iff]
  show p ∈ rchL (Ed ts) N x ∧ Rch (Ed ts) p x ↔ Mut (Ed ts) p x
  rw [rchL_mem]
  exact ⟨fun z => ⟨z.2, z.1.2⟩, fun z => ⟨⟨hp, z.2⟩, z.1⟩⟩
noncomputable def headsN (E : Nat → Nat → Prop) (i : Nat) : List Nat := (List.range i).filter fun p => bdec (∀ x, x < p → ¬ Mut E p x)
theorem headsN_yes {E : Nat → Nat → Prop} {N i : Nat} (hi : i < N) (h : i ∈ headsL E N) : headsN E (i + 1) = headsN E i ++ [i] := by
  unfold headsN
  rw [List.range_succ, List.filter_append]
  congr 1
  rw [List.filter_cons, List.filter_nil]
  exact if_pos (bdec_iff.mpr (headsL_mem.mp h).2)
theorem headsN_no {E : Nat → Nat → Prop} {N i : Nat} (hi : i < N) (h : i ∉ headsL E N) : headsN E (i + 1) = headsN E i := by
  unfold headsN
  rw [List.range_succ, List.filter_append, List.filter_cons, List.filter_nil, if_neg (fun z => h (headsL_mem.mpr ⟨hi, bdec_iff.mp z⟩)), List.append_nil]
theorem cls_first {E : Nat → Nat → Prop} {N p : Nat} (hp : p < N) : ∃ a r, clsL E N p = a :: r ∧ (a = p ↔ p ∈ headsL E N) := by
  have hm : p ∈ clsL E N p := clsL_mem.mpr ⟨hp, mut_refl p⟩
  have hr := clsL_rising (E := E) (N := N) (p := p)
  cases e : clsL E N p with
  | nil => rw [e] at hm; simp at hm
  | cons a r =>
    refine ⟨a, r, rfl, ?_, ?_⟩
    · rintro rfl
      refine headsL_mem.mpr ⟨hp, fun x hx hmx => ?_⟩
      have hx2 : x ∈ clsL E N a := clsL_mem.mpr ⟨by omega, hmx⟩
      rw [e] at hx2 hr
      rcases List.mem_cons.mp hx2 with z | z
      · omega
      · have := (List.pairwise_cons.mp hr).1 x z
        omega
    · intro h
      obtain ⟨r', e'⟩ := clsL_head h
      rw [e] at e'
      exact (List.cons.inj e').1
theorem nodup_len {N : Nat} {L : List Nat} (h : L.Pairwise (· < ·)) (hl : ∀ x ∈ L, x < N) : L.length ≤ N := few (h.imp fun z => Nat.ne_of_lt z) hl
theorem parts_len {E : Nat → Nat → Prop} {N : Nat} : (partsL E N).length ≤ N := by
  unfold partsL
  rw [List.length_map]
  exact nodup_len headsL_rising fun x hx => (headsL_mem.mp hx).1
section
variable {P : Program} {w : World} {K : PySem.W.Frag} {mg : Str → Option Value} {base : Heap} {C C2 : Addr}
def spparts_of (_ : PySem.W.Frag) (C _ : Addr) : Sp := fun vs H Q _ => ∃ a N ts, vs = [.ref a] ∧ WebAt C a N ts H ∧ OkWeb N ts ∧ ∀ H' l, H l = none → Same H H' → LolAt H' l (partsL (Ed ts) N) → NewIn H H' l → Q (.ref l) H'
theorem okparts_of (D : Def K mg "parts_of" sparts_of ["web"]) (B : Bs mg) (Glb : Glo mg) (WK : WebK K mg C) (PK : PieceK K mg C2)
    (hneed_web : Good P w K mg base "need_web" sneed_web ["web"] 3 (spneed_web K C C2))
    (hparts_in_turn : Good P w K mg base "parts_in_turn" sparts_in_turn ["points", "steps"] 2 (spparts_in_turn K C C2))
    (hweb_steps : Good P w K mg base "web_steps" sweb_steps ["web"] 3 (spweb_steps K C C2))
    (hWeb_places : GoodP P w K mg base C "places" "Web.places" sWeb_places ["self"] 1 (spWeb_places K C C2)) :
    Good P w K mg base "parts_of" sparts_of ["web"] 4 (spparts_of K C C2) := by
  refine D.good fun f fd F => ?_
  obtain ⟨fneed_web, dneed_web, Oneed_web, mneed_web, kneed_web, bneed_web, Fneed_web⟩ := hneed_web
  obtain ⟨fparts_in_turn, dparts_in_turn, Oparts_in_turn, mparts_in_turn, kparts_in_turn, bparts_in_turn, Fparts_in_turn⟩ := hparts_in_turn
  obtain ⟨fweb_steps, dweb_steps, Oweb_steps, mweb_steps, kweb_steps, bweb_steps, Fweb_steps⟩ := hweb_steps
  obtain ⟨qWeb_places, fWeb_places, dWeb_places, OWeb_places, pWeb_places, bWeb_places⟩ := hWeb_places
  refine F.ok scparts_of (fun vs H Q E h => ?_) (fun cdv A outer s H vs Q E hr h => ?_)
  · obtain ⟨a, N, ts, rfl, hw, ho, q⟩ := h
    first | rfl | (rcases h with ⟨_, _, rfl, _⟩ | ⟨_, rfl, _⟩ <;> rfl)
  obtain ⟨a, N, ts, rfl, hw, ho, q⟩ := h
  refine ⟨_, (pss_cons (ps_expr (pe_call Oneed_web hr rfl mneed_web kneed_web bneed_web .nil pass0 (pa_cons (pv 0) pa_nil)))
  (pss_one (ps_ret (pe_callB (cr_sortD hr.units) (by rfl) B.sorted (by decide +kernel) (pa_cons (pe_call Oparts_in_turn (hr.mono (by decide)) rfl mparts_in_turn kparts_in_turn bparts_in_turn .nil pass0 (pa_cons (pe_prop (pv 0) WK.cl pWeb_places OWeb_places (hr.mono (by decide)) bWeb_places .nil pass0 (by rfl)) (pa_cons (pe_call Oweb_steps hr rfl mweb_steps kweb_steps bweb_steps .nil pass0 (pa_cons (pv 0) pa_nil)) pa_nil))) pa_nil))))), ?_⟩
  obtain ⟨dx, tl, fl, ol, h1, h23⟩ := id hw
  refine ⟨_, rfl, a, N, ts, rfl, hw, ?_⟩
  refine ⟨_, rfl, a, dx, _, rfl, h1, a, N, ts, rfl, hw, _, rfl, a, N, ts, rfl, hw, ho, fun H1 l nl hS1 hst => ?_⟩
  refine ⟨N, l, ts, rfl, hst, ho, fun H2 pl hs npl hS2 hperm ⟨as, g1, g2⟩ hni => ?_⟩
  refine ⟨pl, as.map V.ref, (hs.map (clsL (Ed ts) N)).map dn, rfl, SqL.of g1, dpAll_lol g2, lol_alike _, lol_sortable _, fun d hd => ?_, ?_, fun zs p hz np => ?_⟩
  · obtain ⟨L, _, rfl⟩ := List.mem_map.mp hd
    exact dn_depth L
  · rw [List.length_map, paired_len g2, List.length_map, hperm.length_eq]
    exact Nat.le_trans (nodup_len headsL_rising fun x hx => (headsL_mem.mp hx).1) (Nat.le_trans ho.n1 (by decide))
  rw [sort_parts hperm] at hz
  obtain ⟨bs, rfl, k1, k2⟩ := lol_pick g2 hz
  have hS02 := hS1.trans hS2
  refine q _ p (hS02.free np) (fun b o e => same_new np _ _ _ (hS02 _ _ e)) ⟨bs, upd_same, paired_mono (fun x L hx => same_new np _ _ _ hx) k1⟩ fun xs x hx hq => ?_
  rw [upd_same] at hx
  cases hx
  obtain ⟨b, hb, e⟩ := List.mem_map.mp hq
  cases e
  exact hS1.free (hni _ _ g1 (List.mem_map.mpr ⟨_, k2 _ hb, rfl⟩))
end
end My
namespace My
open PySem L2 PyProof.Rows
def Closed (N : Nat) (ts : List (Nat × Nat)) : Prop := 0 < ts.length ∧ (partsL (Ed ts) N).length = 1
noncomputable def closedB (N : Nat) (ts : List (Nat × Nat)) : Bool := decide (0 < ts.length) && decide ((partsL (Ed ts) N).length = 1)
theorem layAll_dn : ∀ LL : List (List Nat), PyData.canLayAll0 (LL.map dn) = true
  | [] => rfl
  | L :: r => by
    show (PyData.canLay0 (dn L) && PyData.canLayAll0 (r.map dn)) = true
    rw [layAll_dn r, dn_dz]
    have h1 : PyData.canLay0 (dz (cn L)) = true := by
      show PyData.canLay0 (.list ((cn L).map PyData.int)) = true
      unfold PyData.canLay0
      exact layAll_iz _
    rw [h1]
    rfl
theorem depthAll_dn : ∀ LL : List (List Nat), PyData.depthAll (LL.map dn) ≤ 1
  | [] => by
    show PyData.depthAll [] ≤ 1
    decide
  | L :: r => by
    show max (PyData.depth (dn L)) (PyData.depthAll (r.map dn)) ≤ 1
    have h1 := depthAll_dn r
    have h2 : PyData.depth (dn L) = 1 := by
      rw [dn_dz]
      show PyData.depth (.list ((cn L).map PyData.int)) = 1
      unfold PyData.depth
      rw [depthAll_iz]
    omega
theorem shaped_lol (LL : List (List Nat)) : SeqAt.shaped (.list (LL.map dn)) = true := by
  unfold SeqAt.shaped
  have h1 : PyData.canLay0 (.list (LL.map dn)) = true := by
    unfold PyData.canLay0
    exact layAll_dn LL
  have h2 : PyData.depth (.list (LL.map dn)) ≤ 64 := by
    unfold PyData.depth
    have := depthAll_dn LL
    omega
  rw [h1, decide_eq_true h2]
  rfl
theorem shaped_dn (L : List Nat) : SeqAt.shaped (dn L) = true := by rw [dn_dz]; exact shaped_iz _
theorem dp_lol {K : PySem.W.Frag} {H : Hp} {l : Addr} {LL : List (List Nat)} (h : LolAt H l LL) : Dp K H (.ref l) (.list (LL.map dn)) := by
  obtain ⟨as, h1, h2⟩ := h
  exact .lst (SqL.of h1) (dpAll_lol h2)
theorem dp_dn {K : PySem.W.Frag} {H : Hp} {l : Addr} {L : List Nat} (h : H l = some (.lst (iv L))) : Dp K H (.ref l) (dn L) := by rw [dn_dz]; exact dp_iv h
theorem eqv_dn (L : List Nat) : PyData.eqv (dn L) (dn L) = true := SeqAt.eqv_refl _ (SeqAt.canLay_of_shaped (shaped_dn L))
theorem any_dn {LL : List (List Nat)} {L : List Nat} (h : L ∈ LL) : ((LL.map dn).any fun z => PyData.eqv z (dn L)) = true := List.any_eq_true.mpr ⟨dn L, List.mem_map.mpr ⟨L, h, rfl⟩, eqv_dn L⟩
section
variable {P : Program} {w : World} {K : PySem.W.Frag} {mg : Str → Option Value} {base : Heap} {C C2 : Addr}
def spis_close (_ : PySem.W.Frag) (C _ : Addr) : Sp := fun vs H Q _ => ∃ a N ts, vs = [.ref a] ∧ WebAt C a N ts H ∧ OkWeb N ts ∧ ∀ H', Same H H' → Q (.bl (closedB N ts)) H'
theorem okis_close (D : Def K mg "is_close" sis_close ["web"]) (B : Bs mg) (Glb : Glo mg) (WK : WebK K mg C) (PK : PieceK K mg C2)
    (hneed_web : Good P w K mg base "need_web" sneed_web ["web"] 3 (spneed_web K C C2))
    (hparts_of : Good P w K mg base "parts_of" sparts_of ["web"] 4 (spparts_of K C C2))
    (hWeb_many : GoodP P w K mg base C "many" "Web.many" sWeb_many ["self"] 1 (spWeb_many K C C2)) :
    Good P w K mg base "is_close" sis_close ["web"] 5 (spis_close K C C2) := by
  refine D.good fun f fd F => ?_
  obtain ⟨fneed_web, dneed_web, Oneed_web, mneed_web, kneed_web, bneed_web, Fneed_web⟩ := hneed_web
  obtain ⟨fparts_of, dparts_of, Oparts_of, mparts_of, kparts_of, bparts_of, Fparts_of⟩ := hparts_of
  obtain ⟨qWeb_many, fWeb_many, dWeb_many, OWeb_many, pWeb_many, bWeb_many⟩ := hWeb_many
  refine F.ok scis_close (fun vs H Q E h => ?_) (fun cdv A outer s H vs Q E hr h => ?_)
  · obtain ⟨a, N, ts, rfl, hw, ho, q⟩ := h
    first | rfl | (rcases h with ⟨_, _, rfl, _⟩ | ⟨_, rfl, _⟩ <;> rfl)
  obtain ⟨a, N, ts, rfl, hw, ho, q⟩ := h
  refine ⟨_, (pss_cons (ps_expr (pe_call Oneed_web (hr.mono (by decide)) rfl mneed_web kneed_web bneed_web .nil pass0 (pa_cons (pv 0) pa_nil)))
  (pss_one (ps_ret (pe_and (pe_cmpR op_gt (pe_prop (pv 0) WK.cl pWeb_many OWeb_many (hr.mono (by decide)) bWeb_many .nil pass0 (by rfl)) pe_int (nomark _)) (pe_one (pe_cmpR op_eq (pe_callB call_len_seq (by rfl) B.len (by decide +kernel) (pa_cons (pe_call Oparts_of hr rfl mparts_of kparts_of bparts_of .nil pass0 (pa_cons (pv 0) pa_nil)) pa_nil)) pe_int (nomark _))))))), ?_⟩
  obtain ⟨dx, tl, fl, ol, h1, h23⟩ := id hw
  refine ⟨_, rfl, a, N, ts, rfl, hw, ?_⟩
  refine ⟨_, rfl, a, dx, _, rfl, h1, a, N, ts, rfl, hw, _, _, rfl, rfl, _, rfl, ?_⟩
  dsimp only
  have qc : closedB N ts = (decide (0 < ts.length) && decide ((partsL (Ed ts) N).length = 1)) := rfl
  by_cases c : 0 < ts.length
  · refine iteYes (by omega) ⟨_, rfl, a, N, ts, rfl, hw, ho, fun H1 l nl hS1 ⟨as, g1, g2⟩ _ => ⟨l, _, rfl, .inl (SqL.of g1), rfl, ?_⟩⟩
    have := q H1 hS1
    rw [qc, decide_eq_true c, Bool.true_and, ← paired_len g2] at this
    rw [List.length_map]
    have e : (V.int (as.length : Int) = V.int 1) ↔ as.length = 1 := ⟨fun z => by have := int_eq.mp z; omega, fun z => by rw [z]; rfl⟩
    rw [show (decide (V.int (as.length : Int) = V.int 1)) = decide (as.length = 1) from decide_eq_decide.mpr e]
    exact this
  · refine iteNo (by omega) ?_
    have := q H fun b o e => e
    rw [qc, decide_eq_false c, Bool.false_and] at this
    exact this
end
end My
namespace My
open PySem L2 PyProof.Rows
theorem lett_lts {P W : List Str} {ts : List (Nat × Nat)} {s : Nat} {R : List Nat} (hP : PW P W ts s) (hR : ∀ t ∈ R, t < P.length) : ∀ c ∈ letters P R, 97 ≤ c ∧ c ≤ 122 := by
  intro c hc
  obtain ⟨t, ht, rfl⟩ := List.mem_map.mp hc
  obtain ⟨o1, o2, o3, o4, o5, o6⟩ := hP.p
  have hp := pce_at (hR t ht)
  obtain ⟨a1, a2⟩ := o3 _ (List.mem_of_getElem? hp)
  refine a1.let_ _ ?_
  have h0 : 0 < (pce P t).cps.toList.length := by rw [str_len]; omega
  unfold ltr
  rw [List.getD_eq_getElem?_getD, List.getElem?_eq_getElem (by omega)]
  exact List.getElem_mem _
section
variable {P : Program} {w : World} {K : PySem.W.Frag} {mg : Str → Option Value} {base : Heap} {C C2 : Addr}
def spcovers (_ : PySem.W.Frag) (C _ : Addr) : Sp := fun vs H Q _ => ∃ a N ts s R, vs = [.ref a, .ref s] ∧ WebAt C a N ts H ∧ H s = some (.lst (iv R)) ∧ Tour ts R ∧ R.length ≤ 100 ∧ ∀ (b : Bool) H', (b = true ↔ ∀ t, t < ts.length → t ∈ R) → Same H H' → Q (.bl b) H'
theorem okcovers (D : Def K mg "covers" scovers ["web", "tour"]) (B : Bs mg) (Glb : Glo mg) (WK : WebK K mg C) (PK : PieceK K mg C2)
    (hneed_web : Good P w K mg base "need_web" sneed_web ["web"] 3 (spneed_web K C C2))
    (hneed_tour : Good P w K mg base "need_tour" sneed_tour ["web", "tour"] 7 (spneed_tour K C C2))
    (hWeb_many : GoodP P w K mg base C "many" "Web.many" sWeb_many ["self"] 1 (spWeb_many K C C2)) :
    Good P w K mg base "covers" scovers ["web", "tour"] 8 (spcovers K C C2) := by
  refine D.good fun f fd F => ?_
  obtain ⟨fneed_web, dneed_web, Oneed_web, mneed_web, kneed_web, bneed_web, Fneed_web⟩ := hneed_web
  obtain ⟨fneed_tour, dneed_tour, Oneed_tour, mneed_tour, kneed_tour, bneed_tour, Fneed_tour⟩ := hneed_tour
  obtain ⟨qWeb_many, fWeb_many, dWeb_many, OWeb_many, pWeb_many, bWeb_many⟩ := hWeb_many
  refine F.ok sccovers (fun vs H Q E h => ?_) (fun cdv A outer s H vs Q E hr h => ?_)
  · obtain ⟨a, N, ts, s, R, rfl, hw, hs, ht, h100, q⟩ := h
    first | rfl | (rcases h with ⟨_, _, rfl, _⟩ | ⟨_, rfl, _⟩ <;> rfl)
  obtain ⟨a, N, ts, s, R, rfl, hw, hs, ht, h100, q⟩ := h
  refine ⟨_, (pss_cons (ps_expr (pe_call Oneed_web (hr.mono (by decide)) rfl mneed_web kneed_web bneed_web .nil pass0 (pa_cons (pv 0) pa_nil)))
  (pss_cons (ps_expr (pe_call Oneed_tour hr rfl mneed_tour kneed_tour bneed_tour .nil pass0 (pa_cons (pv 0) (pa_cons (pv 1) pa_nil))))
  (pss_one (ps_ret (pe_cmpR op_eq (pe_callB cr_lenIn (by rfl) B.len (by decide +kernel) (pa_cons (pe_callTy (cr_setIn rfl) (by rfl) B.set (by decide +kernel) (pa_cons (pv 1) pa_nil)) pa_nil)) (pe_prop (pv 0) WK.cl pWeb_many OWeb_many (hr.mono (by decide)) bWeb_many .nil pass0 (by rfl)) (nomark _)))))), ?_⟩
  refine ⟨_, rfl, a, N, ts, rfl, hw, _, rfl, _, rfl, a, N, ts, s, R, rfl, hw, .inl hs, ht, fun H1 hS1 => ?_⟩
  refine ⟨_, rfl, s, R.map fun n : Nat => (n : Int), rfl, SqL.of (by rw [hS1 _ _ hs, iv_iz]), by rw [List.length_map]; omega, fun p n hn hle np => ?_⟩
  rw [List.length_map] at hle
  have hS2 := hS1.trans (same_new np (InO w p (inI (R.map fun n : Nat => (n : Int))) n))
  have hw2 := hw.same hS2
  obtain ⟨dx, tl, fl, ol, h1, _⟩ := id hw2
  refine ⟨p, _, n, rfl, upd_same, by omega, _, rfl, a, dx, _, rfl, h1, a, N, ts, rfl, hw2, rfl, q _ _ ?_ hS2⟩
  have e1 := hn (((List.range ts.length).filter fun t => decide (t ∈ R)).map fun n : Nat => (n : Int)) (List.Pairwise.map _ (fun a b (z : a ≠ b) => show (a : Int) ≠ (b : Int) by omega) (List.Pairwise.filter _ List.nodup_range)) fun k => by
    simp only [List.mem_map, List.mem_filter, List.mem_range, decide_eq_true_eq]
    exact ⟨fun ⟨t, ⟨_, h⟩, e⟩ => ⟨t, h, e⟩, fun ⟨t, h, e⟩ => ⟨t, ⟨ht.ch.num t h, h⟩, e⟩⟩
  rw [List.length_map] at e1
  rw [decide_eq_true_iff, int_eq]
  have e2 : ((n : Int) = (ts.length : Int)) ↔ ((List.range ts.length).filter fun t => decide (t ∈ R)).length = (List.range ts.length).length := by
    rw [e1, List.length_range]
    omega
  rw [e2, List.length_filter_eq_length_iff]
  simp only [List.mem_range, decide_eq_true_eq]
def spneed_pieceweb (_ : PySem.W.Frag) (C C2 : Addr) : Sp := fun vs H Q _ => ∃ a P W ts, vs = [.ref a] ∧ PieceAt C C2 a P W ts H ∧ Q .non H
theorem okneed_pieceweb (D : Def K mg "need_pieceweb" sneed_pieceweb ["pieceweb"]) (B : Bs mg) (Glb : Glo mg) (WK : WebK K mg C) (PK : PieceK K mg C2) :
    Good P w K mg base "need_pieceweb" sneed_pieceweb ["pieceweb"] 3 (spneed_pieceweb K C C2) := by
  refine D.good fun f fd F => ?_
  refine F.ok scneed_pieceweb (fun vs H Q E h => ?_) (fun cdv A outer s H vs Q E hr h => ?_)
  · obtain ⟨a, P', W', ts, rfl, ⟨dx, pl, wl, x, h1, h2⟩, q⟩ := h
    first | rfl | (rcases h with ⟨_, _, rfl, _⟩ | ⟨_, rfl, _⟩ <;> rfl)
  obtain ⟨a, P', W', ts, rfl, ⟨dx, pl, wl, x, h1, h2⟩, q⟩ := h
  refine ⟨_, (pss_one (ps_if (pt_not (pt_val (pe_callB call_isi (by rfl) B.isinstance (by decide +kernel) (pa_cons (pv 0) (pa_cons (pe_glob (v := .ref C2) (by rfl) PK.mgC rfl) pa_nil)))))
    (pss_one ps_never) pss_nil)), ?_⟩
  exact ⟨_, rfl, _, _, _, _, true, rfl, .own C2, .base (.ins h1 PK.cl PK.i1 PK.i2 PK.i3 PK.i4), PK.i5, _, rfl, iteF q⟩
def spexplains (_ : PySem.W.Frag) (C C2 : Addr) : Sp := fun vs H Q _ => ∃ a P W ts s r, vs = [.ref a, T r] ∧ PieceAt C C2 a P W ts H ∧ PW P W ts s ∧ Wd r ∧ ∀ (b : Bool) H', (b = true ↔ ∀ k, k ∈ rps r s ↔ k ∈ P) → Same H H' → Q (.bl b) H'
theorem okexplains (D : Def K mg "explains" sexplains ["pieceweb", "ring"]) (B : Bs mg) (Glb : Glo mg) (WK : WebK K mg C) (PK : PieceK K mg C2)
    (hneed_pieceweb : Good P w K mg base "need_pieceweb" sneed_pieceweb ["pieceweb"] 3 (spneed_pieceweb K C C2))
    (hneed_ring : Good P w K mg base "need_ring" sneed_ring ["ring"] 4 (spneed_ring K C C2))
    (hhas_just : Good P w K mg base "has_just" shas_just ["ring", "pieces"] 6 (sphas_just K C C2))
    (hPieceWeb_pieces : GoodM P w K mg base C2 "pieces" "PieceWeb.pieces" sPieceWeb_pieces ["self"] 1 (spPieceWeb_pieces K C C2)) :
    Good P w K mg base "explains" sexplains ["pieceweb", "ring"] 7 (spexplains K C C2) := by
  refine D.good fun f fd F => ?_
  obtain ⟨fneed_pieceweb, dneed_pieceweb, Oneed_pieceweb, mneed_pieceweb, kneed_pieceweb, bneed_pieceweb, Fneed_pieceweb⟩ := hneed_pieceweb
  obtain ⟨fneed_ring, dneed_ring, Oneed_ring, mneed_ring, kneed_ring, bneed_ring, Fneed_ring⟩ := hneed_ring
  obtain ⟨fhas_just, dhas_just, Ohas_just, mhas_just, khas_just, bhas_just, Fhas_just⟩ := hhas_just
  obtain ⟨fPieceWeb_pieces, dPieceWeb_pieces, OPieceWeb_pieces, tPieceWeb_pieces, bPieceWeb_pieces, FPieceWeb_pieces⟩ := hPieceWeb_pieces
  refine F.ok scexplains (fun vs H Q E h => ?_) (fun cdv A outer s H vs Q E hr h => ?_)
  · obtain ⟨a, P', W', ts, s, r, rfl, hw, hP, hr2, q⟩ := h
    first | rfl | (rcases h with ⟨_, _, rfl, _⟩ | ⟨_, rfl, _⟩ <;> rfl)
  obtain ⟨a, P', W', ts, s, r, rfl, hw, hP, hr2, q⟩ := h
  refine ⟨_, (pss_cons (ps_expr (pe_call Oneed_pieceweb (hr.mono (by decide)) rfl mneed_pieceweb kneed_pieceweb bneed_pieceweb .nil pass0 (pa_cons (pv 0) pa_nil)))
  (pss_cons (ps_expr (pe_call Oneed_ring (hr.mono (by decide)) rfl mneed_ring kneed_ring bneed_ring .nil pass0 (pa_cons (pv 1) pa_nil)))
  (pss_one (ps_ret (pe_call Ohas_just hr rfl mhas_just khas_just bhas_just .nil pass0 (pa_cons (pv 1) (pa_cons (pe_meth0 (pv 0) PK.cl tPieceWeb_pieces OPieceWeb_pieces (hr.mono (by decide)) bPieceWeb_pieces .nil pass0) pa_nil))))))), ?_⟩
  obtain ⟨dx, pl, wl, x, h1, _⟩ := id hw
  refine ⟨_, rfl, a, P', W', ts, rfl, hw, _, rfl, r, rfl, hr2, _, rfl, _, rfl, a, dx, _, rfl, h1, wfP_no _ _ _ (by decide +kernel) (by decide +kernel) (by decide +kernel), a, P', W', ts, rfl, hw, fun p np => ?_⟩
  exact ⟨r, p, P', s, rfl, hr2, .inl upd_same, hP.p, fun b H1 hb hS => q b H1 hb ((same_new np _).trans hS)⟩
def spPieceWeb_round_of (_ : PySem.W.Frag) (C C2 : Addr) : Sp := fun vs H Q _ => ∃ a P W ts s r, vs = [.ref a, T r] ∧ PieceAt C C2 a P W ts H ∧ PW P W ts s ∧ Wd r ∧ ∀ v H', Same H H' → WalkIs P (tS (rd r 0 (r.length + s - 1))) s v H' → Q v H'
theorem okPieceWeb_round_of (D : DefM K C2 "round_of" "PieceWeb.round_of" sPieceWeb_round_of ["self", "ring"]) (B : Bs mg) (Glb : Glo mg) (WK : WebK K mg C) (PK : PieceK K mg C2)
    (hneed_ring : Good P w K mg base "need_ring" sneed_ring ["ring"] 4 (spneed_ring K C C2))
    (hopened : Good P w K mg base "opened" sopened ["ring", "size", "place"] 2 (spopened K C C2))
    (hPieceWeb__ties_along : GoodM P w K mg base C2 "_ties_along" "PieceWeb._ties_along" sPieceWeb__ties_along ["self", "text"] 3 (spPieceWeb__ties_along K C C2))
    (hPieceWeb_size : GoodP P w K mg base C2 "size" "PieceWeb.size" sPieceWeb_size ["self"] 1 (spPieceWeb_size K C C2)) :
    GoodM P w K mg base C2 "round_of" "PieceWeb.round_of" sPieceWeb_round_of ["self", "ring"] 5 (spPieceWeb_round_of K C C2) := by
  refine D.good fun f fd F => ?_
  obtain ⟨fneed_ring, dneed_ring, Oneed_ring, mneed_ring, kneed_ring, bneed_ring, Fneed_ring⟩ := hneed_ring
  obtain ⟨fopened, dopened, Oopened, mopened, kopened, bopened, Fopened⟩ := hopened
  obtain ⟨fPieceWeb__ties_along, dPieceWeb__ties_along, OPieceWeb__ties_along, tPieceWeb__ties_along, bPieceWeb__ties_along, FPieceWeb__ties_along⟩ := hPieceWeb__ties_along
  obtain ⟨qPieceWeb_size, fPieceWeb_size, dPieceWeb_size, OPieceWeb_size, pPieceWeb_size, bPieceWeb_size⟩ := hPieceWeb_size
  refine F.ok scPieceWeb_round_of (fun vs H Q E h => ?_) (fun cdv A outer s H vs Q E hr h => ?_)
  · obtain ⟨a, P', W', ts, s, r, rfl, hw, hP, hr2, q⟩ := h
    first | rfl | (rcases h with ⟨_, _, rfl, _⟩ | ⟨_, rfl, _⟩ <;> rfl)
  obtain ⟨a, P', W', ts, s, r, rfl, hw, hP, hr2, q⟩ := h
  refine ⟨_, (pss_cons (ps_expr (pe_call Oneed_ring hr rfl mneed_ring kneed_ring bneed_ring .nil pass0 (pa_cons (pv 1) pa_nil)))
  (pss_one (ps_ret (pe_meth (pv 0) PK.cl tPieceWeb__ties_along OPieceWeb__ties_along (hr.mono (by decide)) bPieceWeb__ties_along .nil pass0 (pa_cons (pe_call Oopened (hr.mono (by decide)) rfl mopened kopened bopened .nil pass0 (pa_cons (pv 1) (pa_cons (pe_prop (pv 0) PK.cl pPieceWeb_size OPieceWeb_size (hr.mono (by decide)) bPieceWeb_size .nil pass0 (by rfl)) (pa_cons pe_int pa_nil)))) pa_nil))))), ?_⟩
  obtain ⟨dx, pl, wl, x, h1, _⟩ := id hw
  obtain ⟨o1, o2, o3, o4, o5, o6⟩ := id hP.p
  have hl := hr2.2.1
  have h0 := hr2.1
  refine ⟨_, rfl, r, rfl, hr2, _, rfl, a, dx, _, rfl, h1, wfP_no _ _ _ (by decide +kernel) (by decide +kernel) (by decide +kernel), ?_⟩
  refine ⟨_, rfl, _, rfl, a, dx, _, rfl, h1, a, P', W', ts, s, rfl, hw, hP.p, r, s, 0, rfl, hr2, by omega, o5, fun H1 hS1 => ?_⟩
  refine ⟨a, P', W', ts, s, _, rfl, hw.same hS1, hP, ?_, ?_, fun v H2 hS2 hv => q v H2 (hS1.trans hS2) hv⟩
  · have := rd_wd hr2 0 (r.length + s - 1) (by omega)
    refine Lts.ok (fun c hc => ?_) (by rw [rd_len]; omega)
    obtain ⟨k, _, rfl⟩ := List.mem_map.mp (show c ∈ (List.range (r.length + s - 1)).map fun k => r.getD ((0 + k) % r.length) 0 from hc)
    have hk : (0 + k) % r.length < r.length := Nat.mod_lt _ h0
    refine hr2.2.2 _ ?_
    rw [List.getD_eq_getElem?_getD, List.getElem?_eq_getElem hk]
    exact List.getElem_mem hk
  · rw [T_len, rd_len]
    omega
def spPieceWeb_ring_of (_ : PySem.W.Frag) (C C2 : Addr) : Sp := fun vs H Q _ => ∃ a P W ts s t R, vs = [.ref a, .ref t] ∧ PieceAt C C2 a P W ts H ∧ PW P W ts s ∧ SeqAt H t R ∧ Tour ts R ∧ R.length ≤ 100 ∧ ∀ m H', IsLeast (letters P R) m → Same H H' → Q (T m) H'
theorem okPieceWeb_ring_of (D : DefM K C2 "ring_of" "PieceWeb.ring_of" sPieceWeb_ring_of ["self", "tour"]) (B : Bs mg) (Glb : Glo mg) (WK : WebK K mg C) (PK : PieceK K mg C2)
    (hneed_tour : Good P w K mg base "need_tour" sneed_tour ["web", "tour"] 7 (spneed_tour K C C2))
    (h_need_letters : Good P w K mg base "_need_letters" s_need_letters ["many"] 3 (sp_need_letters K C C2))
    (hnormal : Good P w K mg base "normal" snormal ["ring"] 5 (spnormal K C C2))
    (hPieceWeb__letters_of : GoodM P w K mg base C2 "_letters_of" "PieceWeb._letters_of" sPieceWeb__letters_of ["self", "ties"] 1 (spPieceWeb__letters_of K C C2)) :
    GoodM P w K mg base C2 "ring_of" "PieceWeb.ring_of" sPieceWeb_ring_of ["self", "tour"] 8 (spPieceWeb_ring_of K C C2) := by
  refine D.good fun f fd F => ?_
  obtain ⟨fneed_tour, dneed_tour, Oneed_tour, mneed_tour, kneed_tour, bneed_tour, Fneed_tour⟩ := hneed_tour
  obtain ⟨f_need_letters, d_need_letters, O_need_letters, m_need_letters, k_need_letters, b_need_letters, F_need_letters⟩ := h_need_letters
  obtain ⟨fnormal, dnormal, Onormal, mnormal, knormal, bnormal, Fnormal⟩ := hnormal
  obtain ⟨fPieceWeb__letters_of, dPieceWeb__letters_of, OPieceWeb__letters_of, tPieceWeb__letters_of, bPieceWeb__letters_of, FPieceWeb__letters_of⟩ := hPieceWeb__letters_of
  refine F.ok scPieceWeb_ring_of (fun vs H Q E h => ?_) (fun cdv A outer s H vs Q E hr h => ?_)
  · obtain ⟨a, P', W', ts, s, t, R, rfl, hw, hP, hs, ht, h100, q⟩ := h
    first | rfl | (rcases h with ⟨_, _, rfl, _⟩ | ⟨_, rfl, _⟩ <;> rfl)
  obtain ⟨a, P', W', ts, s, t, R, rfl, hw, hP, hs, ht, h100, q⟩ := h
  refine ⟨_, (pss_cons (ps_expr (pe_call Oneed_tour hr rfl mneed_tour kneed_tour bneed_tour .nil pass0 (pa_cons (pe_fld (pv 0) rfl) (pa_cons (pv 1) pa_nil))))
  (pss_cons (ps_expr (pe_call O_need_letters (hr.mono (by decide)) rfl m_need_letters k_need_letters b_need_letters .nil pass0 (pa_cons (pe_callB call_len_seq (by rfl) B.len (by decide +kernel) (pa_cons (pv 1) pa_nil)) pa_nil)))
  (pss_one (ps_ret (pe_call Onormal (hr.mono (by decide)) rfl mnormal knormal bnormal .nil pass0 (pa_cons (pe_meth (pv 0) PK.cl tPieceWeb__letters_of OPieceWeb__letters_of (hr.mono (by decide)) bPieceWeb__letters_of .nil pass0 (pa_cons (pv 1) pa_nil)) pa_nil)))))), ?_⟩
  obtain ⟨dx, pl, wl, x, h1, h2, h3, h4⟩ := id hw
  have hR : ∀ t ∈ R, t < P'.length := fun t h => by rw [← hP.t.1]; exact ht.ch.num t h
  refine ⟨_, rfl, a, C2, dx, _, _, rfl, h1, PK.cl, PK.nB, wfP_B _ _ _, _, rfl, x, W'.length, ts, t, R, rfl, h4, hs, ht, fun H1 hS1 => ?_⟩
  refine ⟨_, rfl, t, _, rfl, (hs.same hS1).seq, _, rfl, by rw [List.length_map]; omega, ?_⟩
  refine ⟨_, rfl, a, dx, _, rfl, hS1 _ _ h1, wfP_no _ _ _ (by decide +kernel) (by decide +kernel) (by decide +kernel), _, rfl, a, P', W', ts, s, t, R, rfl, hw.same hS1, hP, hs.same hS1, hR, h100, fun H2 hS2 => ?_⟩
  refine ⟨letters P' R, rfl, ⟨by rw [List.length_map]; exact ht.ch.n0, by rw [List.length_map]; exact h100, lett_lts hP hR⟩, fun m H3 hm hS3 => q m H3 hm ((hS1.trans hS2).trans hS3)⟩
end
end My
namespace My
open PySem L2 PyProof.Rows
abbrev rows (l : List Nat) (n : Nat) : List (List Nat) := (List.range n).map (rot l)
theorem rows_succ (l : List Nat) (n : Nat) : rows l (n + 1) = rows l n ++ [rot l n] := by
  unfold rows
  rw [List.range_succ, List.map_append]
  rfl
theorem rows_len (l : List Nat) (n : Nat) : (rows l n).length = n := by simp [rows]
theorem flat_get {l : List Nat} (h0 : 0 < l.length) : ∀ (n i : Nat), i < n * l.length → (List.replicate n l).flatten[i]? = some (l.getD (i % l.length) 0)
  | 0, i, h => by simp at h
  | n + 1, i, h => by
    rw [List.replicate_succ, List.flatten_cons]
    by_cases c : i < l.length
    · rw [List.getElem?_append_left c, Nat.mod_eq_of_lt c, List.getD_eq_getElem?_getD, List.getElem?_eq_getElem c]
      rfl
    · rw [Nat.succ_mul] at h
      rw [List.getElem?_append_right (by omega), flat_get h0 n (i - l.length) (by omega)]
      have : (i - l.length) % l.length = i % l.length := by
        conv => rhs; rw [show i = i - l.length + l.length by omega]
        rw [Nat.add_mod_right]
      rw [this]
theorem flat_cut {l : List Nat} (h0 : 0 < l.length) {n p s : Nat} (h : p + s ≤ n * l.length) : ((List.replicate n l).flatten.drop p).take s = rd l p s := by
  refine List.ext_getElem? fun i => ?_
  by_cases c : i < s
  · rw [List.getElem?_take_of_lt c, List.getElem?_drop, flat_get h0 n (p + i) (by omega), rd_get _ _ _ _ c]
  · have hl : (((List.replicate n l).flatten.drop p).take s).length ≤ s := by rw [List.length_take]; omega
    rw [List.getElem?_eq_none (by omega), List.getElem?_eq_none (by rw [rd_len]; omega)]
theorem flat_len (l : List Nat) (n : Nat) : (List.replicate n l).flatten.length = n * l.length := by simp
theorem letters_of {v : V} (h : v ∈ [V.str (Str.ofString "ab"), V.str (Str.ofString "abc"), V.str (Str.ofString "a")]) : ∃ l, v = T l ∧ 0 < l.length ∧ l.length ≤ 3 ∧ Lts l := by
  have of_a2 : Str.ofString "a" = tS [97] := by decide +kernel
  have hv2 : v = T [97, 98] ∨ v = T [97, 98, 99] ∨ v = T [97] := by
    simpa [of_ab, of_abc, of_a2] using h
  rcases hv2 with rfl | rfl | rfl
  · exact ⟨[97, 98], rfl, by decide, by decide, by unfold Lts; decide⟩
  · exact ⟨[97, 98, 99], rfl, by decide, by decide, by unfold Lts; decide⟩
  · exact ⟨[97], rfl, by decide, by decide, by unfold Lts; decide⟩
theorem T_app3 (a b c : List Nat) : (⟨a.toArray⟩ : Str) ++ (⟨b.toArray⟩ : Str) ++ (⟨c.toArray⟩ : Str) = ⟨(a ++ b ++ c).toArray⟩ := by rw [T_app, T_app]
theorem Lts.sub {m n : List Nat} (h : Lts m) (k : ∀ c ∈ n, c ∈ m) : Lts n := fun c hc => h c (k c hc)
theorem Lts.app {m n : List Nat} (h : Lts m) (k : Lts n) : Lts (m ++ n) := fun c hc => (List.mem_append.mp hc).elim (h c) (k c)
theorem Lts.take {m : List Nat} (h : Lts m) (p : Nat) : Lts (m.take p) := h.sub fun _ hc => List.mem_of_mem_take hc
theorem Lts.drop {m : List Nat} (h : Lts m) (p : Nat) : Lts (m.drop p) := h.sub fun _ hc => List.mem_of_mem_drop hc
section
variable {P : Program} {w : World} {K : PySem.W.Frag} {mg : Str → Option Value} {base : Heap} {C C2 : Addr}
def sp_law_turnings (_ : PySem.W.Frag) (_ _ : Addr) : Sp := fun vs H Q _ => ∃ l, vs = [T l] ∧ Wd l ∧ ∀ p H', Same H H' → H p = none → H' p = some (.lst ((rows l l.length).map T)) → Q (.ref p) H'
theorem ok_law_turnings (D : Def K mg "_law_turnings" s_law_turnings ["_law_ring_here"]) (B : Bs mg) (Glb : Glo mg) (WK : WebK K mg C) (PK : PieceK K mg C2) :
    Good P w K mg base "_law_turnings" s_law_turnings ["_law_ring_here"] 1 (sp_law_turnings K C C2) := by
  refine D.good fun f fd F => ?_
  refine F.ok sc_law_turnings (fun vs H Q E h => ?_) (fun cdv A outer s H vs Q E hr h => ?_)
  · obtain ⟨l, rfl, hl, q⟩ := h
    first | rfl | (rcases h with ⟨_, _, rfl, _⟩ | ⟨_, rfl, _⟩ <;> rfl)
  obtain ⟨l, rfl, hl, q⟩ := h
  refine ⟨_, (pss_one (ps_ret (pe_lc (own := [("_law_at", 1)]) (g := gName 1) (by rfl) sc_law_turnings.nd (pi_range1 (by rfl) B.range (pa_cons (pe_callB call_len_str (by rfl) B.len (by decide +kernel) (pa_cons (pv 0) pa_nil)) pa_nil)) (blkOk_by (own := [("_law_at", 1)]) (N := ["_law_ring_here", "_law_at"]) (sc := defScope s_law_turnings) (by decide +kernel)) (fun _ _ _ _ _ => (pg_name (i := 1) sc_law_turnings.nd rfl (by first | exact Or.inl rfl | exact Or.inr rfl))) (fun _ _ _ _ _ => pts_nil) (fun _ _ _ _ _ => (pe_op op_add_str (pe_slice sl_str (pv 0) (po_some (pv 1)) po_none) (pe_slice sl_str (pv 0) po_none (po_some (pv 1)))))))), ?_⟩
  have hlen := hl.2.1
  refine ⟨_, rfl, _, rfl, T_line (by omega), _, rfl, by rw [T_len]; omega, by rw [T_len]; omega, fun D nD => ?_⟩
  rw [show ((((⟨l.toArray⟩ : Str).length : Nat) : Int)).toNat = l.length by rw [T_len]; rfl]
  refine lc_range (lo := 0) (n := l.length) (fun i H' => Same H H' ∧ H' D = some (.lst ((rows l i).map T))) ⟨same_new nD _, upd_same⟩ ?_ ?_
  · rintro i H1 hi ⟨hS, hD⟩
    rw [Int.zero_add]
    refine ⟨rfl, _, rfl, _, rfl, _, rfl, _, rfl, T_line (by omega), _, rfl, _, rfl, _, rfl, _, rfl, T_line (by omega), _, _, rfl, rfl, ?_, _, hD, ?_, same_upd hS nD, ?_⟩
    · rw [cut_from, cut_to, T_len, T_len, List.length_drop, List.length_take]
      exact Nat.le_of_lt (small1000 (by omega))
    · rw [List.length_map, rows_len]
      exact small1000 (by omega)
    · rw [upd_same, cut_from, cut_to, T_app, ← rd_turn l i hi, rows_succ, List.map_append]
      rfl
  · rintro H1 ⟨hS, hD⟩
    exact q D H1 hS nD hD
def sp_law_read (_ : PySem.W.Frag) (_ _ : Addr) : Sp := fun vs H Q _ => ∃ r, ∃ s : Nat, vs = [T r, .int (s : Int)] ∧ Wd r ∧ 2 ≤ s ∧ s ≤ 8 ∧ ∀ p H', Same H H' → H p = none → H' p = some (.lst ((rps r s).map V.str)) → Q (.ref p) H'
theorem ok_law_read (D : Def K mg "_law_read" s_law_read ["_law_ring_here", "_law_size"]) (B : Bs mg) (Glb : Glo mg) (WK : WebK K mg C) (PK : PieceK K mg C2) :
    Good P w K mg base "_law_read" s_law_read ["_law_ring_here", "_law_size"] 1 (sp_law_read K C C2) := by
  refine D.good fun f fd F => ?_
  refine F.ok sc_law_read (fun vs H Q E h => ?_) (fun cdv A outer s H vs Q E hr h => ?_)
  · obtain ⟨r, s, rfl, hr2, hs1, hs2, q⟩ := h
    first | rfl | (rcases h with ⟨_, _, rfl, _⟩ | ⟨_, rfl, _⟩ <;> rfl)
  obtain ⟨r, s, rfl, hr2, hs1, hs2, q⟩ := h
  refine ⟨_, (pss_cons (ps_set (i := 2) sc_law_read.nd rfl (by first | exact Or.inl rfl | exact Or.inr rfl) (pe_op op_mul_str (pv 0) (pe_op op_add (pv 1) pe_int)))
  (pss_one (ps_ret (pe_lc (own := [("_law_at", 3)]) (g := gName 3) (by rfl) sc_law_read.nd (pi_range1 (by rfl) B.range (pa_cons (pe_callB call_len_str (by rfl) B.len (by decide +kernel) (pa_cons (pv 0) pa_nil)) pa_nil)) (blkOk_by (own := [("_law_at", 3)]) (N := ["_law_ring_here", "_law_size", "_law_whole", "_law_at"]) (sc := defScope s_law_read) (by decide +kernel)) (fun _ _ _ _ _ => (pg_name (i := 3) sc_law_read.nd rfl (by first | exact Or.inl rfl | exact Or.inr rfl))) (fun _ _ _ _ _ => pts_nil) (fun _ _ _ _ _ => (pe_slice sl_str (pv 2) (po_some (pv 3)) (po_some (pe_op op_add (pv 3) (pv 1))))))))), ?_⟩
  have hlen := hr2.2.1
  have h0 := hr2.1
  have hmul : (s + 1) * r.length ≤ 900 := Nat.le_trans (Nat.mul_le_mul (by omega : s + 1 ≤ 9) hlen) (by omega)
  refine ⟨_, rfl, _, rfl, _, _, rfl, rfl, r, s + 1, rfl, rfl, by omega, by omega, by omega, ?_⟩
  refine ⟨_, rfl, _, rfl, T_line (by omega), _, rfl, by rw [T_len]; omega, by rw [T_len]; omega, fun D nD => ?_⟩
  rw [show ((((⟨r.toArray⟩ : Str).length : Nat) : Int)).toNat = r.length by rw [T_len]; rfl]
  have hfl := flat_len r (s + 1)
  refine lc_range (lo := 0) (n := r.length) (fun i H' => Same H H' ∧ H' D = some (.lst (((rps r s).take i).map V.str))) ⟨same_new nD _, upd_same⟩ ?_ ?_
  · rintro i H1 hi ⟨hS, hD⟩
    rw [Int.zero_add]
    have hat : (rps r s)[i]? = some (tS (rd r i s)) := by
      unfold rps
      rw [List.getElem?_map, List.getElem?_range hi]
      rfl
    refine ⟨rfl, _, rfl, _, rfl, _, rfl, _, rfl, _, rfl, _, _, rfl, rfl, _, rfl, _, rfl, T_line (by omega), _, hD, ?_, same_upd hS nD, ?_⟩
    · rw [List.length_map, List.length_take]
      exact small1000 (by omega)
    · have e : cutS (tS (List.replicate (s + 1) r).flatten) (some (i : Int)) (some ((i : Int) + (s : Int))) = tS (rd r i s) := by
        have := cutS_at (List.replicate (s + 1) r).flatten i s
        rw [flat_cut h0 (by rw [Nat.succ_mul]; have := Nat.mul_le_mul_left s h0; omega)] at this
        exact this
      rw [upd_same, take_snoc hat, List.map_append, e]
      rfl
  · rintro H1 ⟨hS, hD⟩
    rw [List.take_of_length_le (by rw [rps_len]; exact Nat.le_refl _)] at hD
    exact q D H1 hS nD hD
def sp_law_ring (_ : PySem.W.Frag) (_ _ : Addr) : Sp := fun vs H Q _ => ∃ a, ∃ m : Nat, vs = [.ref a, .int (m : Int)] ∧ PotAt H a ∧ 0 < m ∧ m ≤ 9 ∧ ∀ l H', Wd l → l.length ≤ 9 → Kept a H H' → PotAt H' a → Q (T l) H'
theorem ok_law_ring (D : Def K mg "_law_ring" s_law_ring ["_law_pot_here", "_law_most"]) (B : Bs mg) (Glb : Glo mg) (WK : WebK K mg C) (PK : PieceK K mg C2)
    (h_law_pick : Good P w K mg base "_law_pick" s_law_pick ["_law_pot_here", "_law_some"] 2 (sp_law_pick K C C2))
    (h_law_draw : Good P w K mg base "_law_draw" s_law_draw ["_law_pot_here", "_law_size"] 1 (sp_law_draw K C C2)) :
    Good P w K mg base "_law_ring" s_law_ring ["_law_pot_here", "_law_most"] 3 (sp_law_ring K C C2) := by
  refine D.good fun f fd F => ?_
  obtain ⟨f_law_pick, d_law_pick, O_law_pick, m_law_pick, k_law_pick, b_law_pick, F_law_pick⟩ := h_law_pick
  obtain ⟨f_law_draw, d_law_draw, O_law_draw, m_law_draw, k_law_draw, b_law_draw, F_law_draw⟩ := h_law_draw
  refine F.ok sc_law_ring (fun vs H Q E h => ?_) (fun cdv A outer s H vs Q E hr h => ?_)
  · obtain ⟨a, m, rfl, hp, hm0, hm, q⟩ := h
    first | rfl | (rcases h with ⟨_, _, rfl, _⟩ | ⟨_, rfl, _⟩ <;> rfl)
  obtain ⟨a, m, rfl, hp, hm0, hm, q⟩ := h
  refine ⟨_, (pss_cons (ps_par (i := 2) (j := 3) (by rfl) sc_law_ring.nd rfl rfl (by decide) rfl rfl (pa_cons (pe_call O_law_pick hr rfl m_law_pick k_law_pick b_law_pick .nil pass0 (pa_cons (pv 0) (pa_cons (pe_lst (pa_cons pe_str (pa_cons pe_str (pa_cons pe_str pa_nil)))) pa_nil))) (pa_cons pe_str pa_nil)) (by rfl))
  (pss_cons (ps_for PassesOwn.never rfl (pi_range1 (by rfl) B.range (pa_cons (pe_op op_add pe_int (pe_call O_law_draw (hr.mono (by decide)) rfl m_law_draw k_law_draw b_law_draw .nil pass0 (pa_cons (pv 0) (pa_cons (pv 1) pa_nil)))) pa_nil)) (pg_name (i := 4) sc_law_ring.nd rfl (by first | exact Or.inl rfl | exact Or.inr rfl))
    (pss_one (ps_set (i := 3) sc_law_ring.nd rfl (by first | exact Or.inl rfl | exact Or.inr rfl) (pe_op op_add_str (pv 3) (pe_call O_law_pick hr rfl m_law_pick k_law_pick b_law_pick .nil pass0 (pa_cons (pv 0) (pa_cons (pv 2) pa_nil)))))))
  (pss_one (ps_ret (pv 3))))), ?_⟩
  refine ⟨_, rfl, (by show 3 ≤ sizeLine; decide), fun p np => ⟨a, .inl ⟨p, _, rfl, upd_same, hp.ne np, by decide, by decide, hp.new np, fun v H1 hv hk1 hp1 => ?_⟩⟩⟩
  obtain ⟨ls, rfl, ls0, ls1, ls2⟩ := letters_of hv
  have hk1' : Kept a H H1 := (Same.kept (same_new np _)).trans hk1
  refine ⟨_, _, rfl, _, rfl, _, rfl, a, m, rfl, hp1, hm0, by omega, fun d H2 hd hk2 hp2 => ?_⟩
  refine ⟨_, _, rfl, rfl, _, rfl, (by omega), (by omega), ?_⟩
  rw [show ((1 : Int) + (d : Int)).toNat = 1 + d by omega]
  refine for_range (lo := 0) (n := 1 + d) (fun i σ H' => ∃ (fd : List Nat) (v : Option V), σ = [some (.ref a), some (.int (m : Int)), some (T ls), some (T fd), v] ∧ fd.length = i ∧ Lts fd ∧ Kept a H H' ∧ PotAt H' a)
    ⟨[], none, by rw [T_nil]; rfl, rfl, (fun c hc => by simp at hc), hk1'.trans hk2, hp2⟩ ?_ ?_
  · rintro i σ H3 hi ⟨fd, v, rfl, hl, hc, hk, hpp⟩
    refine ⟨_, rfl, _, rfl, _, rfl, a, .inr ⟨ls, rfl, ls0, by omega, hpp, fun c H4 hcl hk4 hp4 => ⟨_, _, rfl, rfl, ?_, fd ++ [c], some (.int (0 + (i : Int))), ?_, by rw [List.length_append, hl]; rfl, hc.app ?_, hk.trans hk4, hp4⟩⟩⟩
    · rw [T_len, T_len, List.length_singleton]
      exact line400 (by omega)
    · rw [T_app]
      rfl
    · intro z hz
      rw [List.mem_singleton.mp hz]
      exact ls2 c hcl
  · rintro σ H3 ⟨fd, v, rfl, hl, hc, hk, hpp⟩
    exact ⟨_, rfl, q fd H3 ⟨by omega, by omega, hc⟩ (by omega) hk hpp⟩
end
end My
namespace My
open PySem L2 PyProof.Rows
theorem of_b : Str.ofString "b" = tS [98] := by decide +kernel
theorem of_a2 : Str.ofString "a" = tS [97] := by decide +kernel
theorem WalkIs.none {P : List Str} {x : Str} {s : Nat} {H : Hp} (h : ¬ ∀ z ∈ pcs x s, z ∈ P) : WalkIs P x s .non H := .inl ⟨rfl, .inr h⟩
section
variable {P : Program} {w : World} {K : PySem.W.Frag} {mg : Str → Option Value} {base : Heap} {C C2 : Addr}
def sp_law_round (_ : PySem.W.Frag) (_ _ : Addr) : Sp := fun vs H Q _ => ∃ pl P s r, vs = [.ref pl, T r] ∧ H pl = some (.lst (P.map V.str)) ∧ OkP P s ∧ Wd r ∧ ∀ v H', Same H H' → WalkIs P (tS (rd r 0 (r.length + s - 1))) s v H' → (∀ l, v = .ref l → H l = none) → Q v H'
theorem ok_law_round (D : Def K mg "_law_round" s_law_round ["_law_pieces", "_law_ring_here"]) (B : Bs mg) (Glb : Glo mg) (WK : WebK K mg C) (PK : PieceK K mg C2)
    (h_law_read : Good P w K mg base "_law_read" s_law_read ["_law_ring_here", "_law_size"] 1 (sp_law_read K C C2)) :
    Good P w K mg base "_law_round" s_law_round ["_law_pieces", "_law_ring_here"] 2 (sp_law_round K C C2) := by
  refine D.good fun f fd F => ?_
  obtain ⟨f_law_read, d_law_read, O_law_read, m_law_read, k_law_read, b_law_read, F_law_read⟩ := h_law_read
  refine F.ok sc_law_round (fun vs H Q E h => ?_) (fun cdv A outer s H vs Q E hr h => ?_)
  · obtain ⟨pl, P', s, r, rfl, hpl, ho, hr2, q⟩ := h
    first | rfl | (rcases h with ⟨_, _, rfl, _⟩ | ⟨_, rfl, _⟩ <;> rfl)
  obtain ⟨pl, P', s, r, rfl, hpl, ho, hr2, q⟩ := h
  refine ⟨_, (pss_cons (ps_set (i := 2) sc_law_round.nd rfl (by first | exact Or.inl rfl | exact Or.inr rfl) (pe_call O_law_read hr rfl m_law_read k_law_read b_law_read .nil pass0 (pa_cons (pv 1) (pa_cons (pe_callB call_len_str (by rfl) B.len (by decide +kernel) (pa_cons (pe_ix ix_list (pv 0) pe_int (fun _ _ => rfl)) pa_nil)) pa_nil))))
  (pss_cons (ps_if (pt_cmpR (op_neD hr.units) (pe_lc (own := [("_law_piece", 3)]) (g := gName 3) (by rfl) sc_law_round.nd (pi_list (pv 2)) (blkOk_by (own := [("_law_piece", 3)]) (N := ["_law_pieces", "_law_ring_here", "_law_read_here", "_law_piece"]) (sc := defScope s_law_round) (by decide +kernel)) (fun _ _ _ _ _ => (pg_name (i := 3) sc_law_round.nd rfl (by first | exact Or.inl rfl | exact Or.inr rfl))) (fun _ _ _ _ _ => (pts_one (pt_cmpR (op_notIn_seqK (K := K) rfl) (pv 3) (pv 0) (by rfl)))) (fun _ _ _ _ _ => (pv 3))) (pe_lst pa_nil) (nomark _))
    (pss_one (ps_ret pe_non)) pss_nil)
  (pss_one (ps_ret (pe_lc (own := [("_law_piece", 3)]) (g := gName 3) (by rfl) sc_law_round.nd (pi_list (pv 2)) (blkOk_by (own := [("_law_piece", 3)]) (N := ["_law_pieces", "_law_ring_here", "_law_read_here", "_law_piece"]) (sc := defScope s_law_round) (by decide +kernel)) (fun _ _ _ _ _ => (pg_name (i := 3) sc_law_round.nd rfl (by first | exact Or.inl rfl | exact Or.inr rfl))) (fun _ _ _ _ _ => pts_nil) (fun _ _ _ _ _ => (pe_bmK (K := K) rfl PySem.F.plainAttrs_list PySem.F.slot_list_index PySem.F.type_list_index (mt_indexK (K := K) rfl) (pv 0) (pa_cons (pv 3) pa_nil)))))))), ?_⟩
  obtain ⟨o1, o2, o3, o4, o5, o6⟩ := id ho
  have h0 := hr2.1
  have hrl := hr2.2.1
  have hpc : pcs (tS (rd r 0 (r.length + s - 1))) s = rps r s := rps_opened h0 (by omega)
  obtain ⟨x0, hx0⟩ : ∃ x, P'[0]? = some x := ⟨P'[0]'(by omega), List.getElem?_eq_getElem _⟩
  have hs0 := (o3 x0 (List.mem_of_getElem? hx0)).2
  refine ⟨_, rfl, _, rfl, _, _, _, .str x0, rfl, rfl, SqL.of hpl, atI_nat (j := 0) (by rw [List.getElem?_map, hx0]; rfl), x0, rfl, line400 (by omega), ?_⟩
  rw [hs0]
  refine ⟨r, s, rfl, hr2, o4, o5, fun D H1 hS1 nD hD1 => ?_⟩
  have hpl1 := hS1 _ _ hpl
  have hlen := rps_len r s
  refine ⟨_, rfl, D, rfl, ⟨_, SqL.of hD1⟩, fun D2 nD2 => ?_⟩
  refine lc_list (K := K) (a := D) (xs := (rps r s).map V.str) (fun i H' => Same H1 H' ∧ H' D2 = some (.lst ((((rps r s).take i).filter fun z => decide (z ∉ P')).map V.str))) ⟨same_new nD2 _, upd_same⟩ (fun i H' _ ⟨hS', _⟩ => SqL.of (hS' _ _ hD1)) ?_ ?_
  · rintro i y H2 hy ⟨hS2, hD2⟩
    obtain ⟨z, hz, rfl⟩ := str_at hy
    have hil := (List.getElem?_eq_some_iff.mp hz).1
    refine ⟨rfl, _, rfl, _, rfl, pl, _, rfl, .inl (SqL.of (hS2 _ _ hpl1)), rfl, flat_st P', _, rfl, ?_⟩
    rw [inV_st]
    by_cases c : z ∈ P'
    · refine iteNot' c ⟨hS2, ?_⟩
      rw [take_snoc hz, List.filter_append, List.filter_cons_of_neg (by simpa using c), List.filter_nil, List.append_nil]
      exact hD2
    · refine iteNot c ⟨_, rfl, _, hD2, ?_, same_upd hS2 nD2, ?_⟩
      · rw [List.length_map]
        have := List.length_filter_le (fun z => decide (z ∉ P')) ((rps r s).take i)
        rw [List.length_take] at this
        exact small1000 (by omega)
      · rw [upd_same, take_snoc hz, List.filter_append, List.filter_cons_of_pos (by simpa using c), List.filter_nil, List.map_append]
        rfl
  rintro H2 ⟨hS2, hD2⟩
  rw [List.length_map, List.take_length] at hD2
  have okF : ∀ z ∈ (rps r s).filter fun z => decide (z ∉ P'), OkT z := fun z hz => (rps_okT hr2 (by omega) o5 z (List.mem_filter.mp hz).1).1
  refine ⟨Nat.zero_le _, fun p0 np0 => ⟨_, _, dp_ls (same_new np0 _ _ _ hD2), dp_ls (L := []) upd_same, shaped_st okF, shaped_st (fun z hz => by simp at hz), _, rfl, ?_⟩⟩
  have hS3 := hS2.trans (same_new np0 (.lst []))
  generalize upd H2 p0 (.lst []) = H3 at hS3
  rw [eqv_s]
  by_cases c : (rps r s).filter (fun z => decide (z ∉ P')) = []
  · have hall : ∀ z ∈ rps r s, z ∈ P' := fun z hz => by
      have := List.filter_eq_nil_iff.mp c z hz
      simpa using this
    refine iteNot' c ⟨_, rfl, D, rfl, ⟨_, SqL.of (hS3 _ _ hD1)⟩, fun D3 nD3 => ?_⟩
    refine lc_list (K := K) (a := D) (xs := (rps r s).map V.str) (fun i H' => ∃ R, Same H3 H' ∧ H' D3 = some (.lst (iv R)) ∧ IsAlong P' ((rps r s).take i) R) ⟨[], same_new nD3 _, upd_same, IsAlong.nil⟩ (fun i H' _ ⟨_, hS', _⟩ => SqL.of (hS' _ _ (hS3 _ _ hD1))) ?_ ?_
    · rintro i y H4 hy ⟨R, hS4, hD4, hA⟩
      obtain ⟨z, hz, rfl⟩ := str_at hy
      have hil := (List.getElem?_eq_some_iff.mp hz).1
      obtain ⟨j, hj⟩ := List.getElem?_of_mem (hall z (List.mem_of_getElem? hz))
      have hp4 := hS4 _ _ (hS3 _ _ hpl1)
      refine ⟨rfl, _, rfl, .inl ⟨rfl, _, SqL.of hp4⟩, _, rfl, ?_⟩
      dsimp only [tNil]
      refine index_st o6 hp4 hj ⟨_, hD4, ?_, R ++ [j], same_upd hS4 nD3, by rw [upd_same, iv_app], by rw [take_snoc hz]; exact hA.snoc hj⟩
      rw [List.length_map, hA.1, List.length_take]
      exact small1000 (by omega)
    rintro H4 ⟨R, hS4, hD4, hA⟩
    rw [List.length_map, List.take_length] at hA
    refine q _ _ ((hS1.trans hS3).trans hS4) (.inr ⟨D3, R, rfl, hD4, ?_, by rw [hpc]; exact hA⟩) (fun l z => by cases z; exact (hS1.trans hS3).free nD3)
    rw [hpc]
    intro z
    rw [z, List.length_nil] at hlen
    omega
  · refine iteNot c (q _ _ (hS1.trans hS3) (WalkIs.none ?_) (fun l z => by cases z))
    rw [hpc]
    intro h
    exact c (List.filter_eq_nil_iff.mpr fun z hz => by simpa using h z hz)
def RingOk (l : List Nat) : Prop := Wd l ∧ l.length ≤ 20
def sp_law_rings (_ : PySem.W.Frag) (_ _ : Addr) : Sp := fun vs H Q _ => ∃ a r, vs = [.ref a, T r] ∧ PotAt H a ∧ Wd r ∧ r.length ≤ 9 ∧ ∀ (p : Addr) (LL : List (List Nat)) H', (∀ l ∈ LL, RingOk l) → LL.length = 10 → Kept a H H' → PotAt H' a → H p = none → p ≠ a → H' p = some (.lst (LL.map T)) → Q (.ref p) H'
theorem ok_law_rings (D : Def K mg "_law_rings" s_law_rings ["_law_pot_here", "_law_ring_here"]) (B : Bs mg) (Glb : Glo mg) (WK : WebK K mg C) (PK : PieceK K mg C2)
    (h_law_draw : Good P w K mg base "_law_draw" s_law_draw ["_law_pot_here", "_law_size"] 1 (sp_law_draw K C C2))
    (h_law_ring : Good P w K mg base "_law_ring" s_law_ring ["_law_pot_here", "_law_most"] 3 (sp_law_ring K C C2)) :
    Good P w K mg base "_law_rings" s_law_rings ["_law_pot_here", "_law_ring_here"] 4 (sp_law_rings K C C2) := by
  refine D.good fun f fd F => ?_
  obtain ⟨f_law_draw, d_law_draw, O_law_draw, m_law_draw, k_law_draw, b_law_draw, F_law_draw⟩ := h_law_draw
  obtain ⟨f_law_ring, d_law_ring, O_law_ring, m_law_ring, k_law_ring, b_law_ring, F_law_ring⟩ := h_law_ring
  refine F.ok sc_law_rings (fun vs H Q E h => ?_) (fun cdv A outer s H vs Q E hr h => ?_)
  · obtain ⟨a, r, rfl, hp, hr2, h9, q⟩ := h
    first | rfl | (rcases h with ⟨_, _, rfl, _⟩ | ⟨_, rfl, _⟩ <;> rfl)
  obtain ⟨a, r, rfl, hp, hr2, h9, q⟩ := h
  refine ⟨_, (pss_cons (ps_set (i := 2) sc_law_rings.nd rfl (by first | exact Or.inl rfl | exact Or.inr rfl) (pe_call O_law_draw (hr.mono (by decide)) rfl m_law_draw k_law_draw b_law_draw .nil pass0 (pa_cons (pv 0) (pa_cons (pe_callB call_len_str (by rfl) B.len (by decide +kernel) (pa_cons (pv 1) pa_nil)) pa_nil))))
  (pss_cons (ps_set (i := 3) sc_law_rings.nd rfl (by first | exact Or.inl rfl | exact Or.inr rfl) (pe_lst (pa_cons (pv 1) (pa_cons (pe_op op_add_str (pe_slice sl_str (pv 1) (po_some (pv 2)) po_none) (pe_slice sl_str (pv 1) po_none (po_some (pv 2)))) (pa_cons (pe_op op_add_str (pv 1) (pv 1)) (pa_cons (pe_op op_add_str (pe_op op_add_str (pe_slice sl_str (pv 1) po_none (po_some (pv 2))) pe_str) (pe_slice sl_str (pv 1) (po_some (pe_op op_add (pv 2) pe_int)) po_none)) pa_nil))))))
  (pss_cons (ps_set (i := 3) sc_law_rings.nd rfl (by first | exact Or.inl rfl | exact Or.inr rfl) (pe_op op_cat (pv 3) (pe_lst (pa_cons (pe_op op_add_str (pv 1) (pe_ix ix_str (pv 1) (pv 2) (fun _ _ => rfl))) (pa_cons (pe_revS (pv 1)) (pa_cons (pe_op op_add_str (pv 1) (pe_slice sl_str (pv 1) po_none (po_some (pe_op op_add (pv 2) pe_int)))) pa_nil))))))
  (pss_one (ps_ret (pe_op op_cat (pv 3) (pe_lst (pa_cons (pe_call O_law_ring hr rfl m_law_ring k_law_ring b_law_ring .nil pass0 (pa_cons (pv 0) (pa_cons pe_int pa_nil))) (pa_cons pe_str (pa_cons pe_str pa_nil)))))))))), ?_⟩
  have h0 := hr2.1
  have hm : Lts r := hr2.2.2
  refine ⟨_, rfl, _, rfl, _, rfl, T_line (by omega), a, r.length, by rw [T_len]; rfl, hp, h0, by omega, fun d H1 hd hk1 hp1 => ?_⟩
  have c1 : cutS (tS r) none (some (d : Int)) = tS (r.take d) := cut_to
  have c2 : cutS (tS r) (some (d : Int)) none = tS (r.drop d) := cut_from
  have c3 : cutS (tS r) (some ((d : Int) + 1)) none = tS (r.drop (d + 1)) := cut_from (p := d + 1)
  have c4 : cutS (tS r) none (some ((d : Int) + 1)) = tS (r.take (d + 1)) := cut_to (p := d + 1)
  have hx : (tS r).length ≤ sizeLine := T_line (by omega)
  have sm : ∀ n : Nat, n ≤ 100 → n ≤ sizeLine := fun n h => Nat.le_trans h (by decide)
  refine ⟨_, rfl, _, rfl, _, rfl, _, rfl, _, rfl, hx, _, rfl, _, rfl, _, rfl, _, rfl, hx, _, _, rfl, rfl, ?_, _, rfl, _, rfl, _, _, rfl, rfl, ?_, _, rfl, _, rfl, _, rfl, _, rfl, hx, _, _, rfl, rfl, ?_, _, rfl, _, rfl, _, _, rfl, rfl, _, rfl, _, rfl, hx, _, _, rfl, rfl, ?_, (by show 4 ≤ sizeLine; decide), fun p1 n1 => ?_⟩
  · rw [c1, c2, T_len, T_len]; exact sm _ (by rw [List.length_drop, List.length_take]; omega)
  · rw [T_len]; exact sm _ (by omega)
  · rw [c1, of_b, T_len, T_len]; exact sm _ (by rw [List.length_take, List.length_singleton]; omega)
  · rw [c1, c3, of_b, T_app, T_len, T_len]; exact sm _ (by rw [List.length_append, List.length_drop, List.length_take, List.length_singleton]; omega)
  simp only [c1, c2, c3, of_b, T_app]
  have n1H : H p1 = none := hk1.free n1 (hp1.ne n1)
  have hk2 := hk1.new (o := .lst [T r, T (r.drop d ++ r.take d), T (r ++ r), T (r.take d ++ [98] ++ r.drop (d + 1))]) n1
  have hp2 := hp1.new (o := .lst [T r, T (r.drop d ++ r.take d), T (r ++ r), T (r.take d ++ [98] ++ r.drop (d + 1))]) n1
  have hf2 : upd H1 p1 (.lst [T r, T (r.drop d ++ r.take d), T (r ++ r), T (r.take d ++ [98] ++ r.drop (d + 1))]) p1 = some (.lst ([r, r.drop d ++ r.take d, r ++ r, r.take d ++ [98] ++ r.drop (d + 1)].map T)) := upd_same
  generalize upd H1 p1 (.lst [T r, T (r.drop d ++ r.take d), T (r ++ r), T (r.take d ++ [98] ++ r.drop (d + 1))]) = H2 at hk2 hp2 hf2
  refine ⟨_, rfl, _, rfl, _, rfl, _, rfl, _, _, r[d], rfl, rfl, hx, at_nat (List.getElem?_eq_getElem hd), _, _, rfl, rfl, ?_, _, rfl, r, rfl, by omega, _, rfl, _, rfl, _, rfl, _, _, rfl, rfl, _, rfl, _, rfl, hx, _, _, rfl, rfl, ?_, (by show 3 ≤ sizeLine; decide), fun p2 n2 => ?_⟩
  · rw [T_len]; exact sm _ (by show r.length + 1 ≤ 100; omega)
  · rw [c4, T_len, T_len]; exact sm _ (by rw [List.length_take]; omega)
  have c5 : (⟨r.toArray⟩ : Str) ++ (⟨#[r[d]]⟩ : Str) = tS (r ++ [r[d]]) := T_app r [r[d]]
  have c6 : (⟨r.toArray⟩ : Str) ++ cutS (tS r) none (some ((d : Int) + 1)) = tS (r ++ r.take (d + 1)) := by rw [c4, T_app]
  simp only [c5, c6]
  have hk3 := hk2.new (o := .lst [T (r ++ [r[d]]), T r.reverse, T (r ++ r.take (d + 1))]) n2
  have hp3 := hp2.new (o := .lst [T (r ++ [r[d]]), T r.reverse, T (r ++ r.take (d + 1))]) n2
  have hf3 := same_new n2 (.lst [T (r ++ [r[d]]), T r.reverse, T (r ++ r.take (d + 1))]) _ _ hf2
  have hg3 : upd H2 p2 (.lst [T (r ++ [r[d]]), T r.reverse, T (r ++ r.take (d + 1))]) p2 = some (.lst ([r ++ [r[d]], r.reverse, r ++ r.take (d + 1)].map T)) := upd_same
  generalize upd H2 p2 (.lst [T (r ++ [r[d]]), T r.reverse, T (r ++ r.take (d + 1))]) = H3 at hk3 hp3 hf3 hg3
  refine ⟨p1, p2, _, _, rfl, rfl, hf3, hg3, (by show 4 + 3 ≤ sizeLine; decide), fun p3 n3 => ?_⟩
  obtain ⟨A, hAe⟩ : ∃ A, A = [r, r.drop d ++ r.take d, r ++ r, r.take d ++ [98] ++ r.drop (d + 1)] := ⟨_, rfl⟩
  obtain ⟨B', hBe⟩ : ∃ A, A = [r ++ [r[d]], r.reverse, r ++ r.take (d + 1)] := ⟨_, rfl⟩
  rw [← hAe, ← hBe]
  have p3a := hp3.ne n3
  have hk4 := hk3.new (o := .lst (A.map T ++ B'.map T)) n3
  have hp4 := hp3.new (o := .lst (A.map T ++ B'.map T)) n3
  have hf4 : upd H3 p3 (.lst (A.map T ++ B'.map T)) p3 = some (.lst ((A ++ B').map T)) := by rw [upd_same, List.map_append]
  generalize upd H3 p3 (.lst (A.map T ++ B'.map T)) = H4 at hk4 hp4 hf4
  have hAB : (A ++ B').length = 7 := by rw [hAe, hBe]; rfl
  refine ⟨_, rfl, _, rfl, a, 7, rfl, hp4, by decide, by decide, fun l2 H5 hl2 hl29 hk5 hp5 => ⟨(by show 3 ≤ sizeLine; decide), fun p4 n4 => ?_⟩⟩
  have hf5 := hk5 _ _ hf4 p3a
  refine ⟨p3, p4, _, _, rfl, rfl, same_new n4 _ _ _ hf5, upd_same, ?_, fun p5 n5 => ?_⟩
  · rw [List.length_map, hAB]
    show 7 + 3 ≤ sizeLine
    decide
  have hk6 := ((hk4.trans hk5).new (o := .lst [T l2, V.str (Str.ofString "a"), V.str (Str.ofString "z")]) n4)
  have hp6 := hp5.new (o := .lst [T l2, V.str (Str.ofString "a"), V.str (Str.ofString "z")]) n4
  generalize upd H5 p4 (.lst [T l2, V.str (Str.ofString "a"), V.str (Str.ofString "z")]) = H6 at hk6 hp6 n5
  have ok : ∀ {l : List Nat}, Lts l → 0 < l.length → l.length ≤ 20 → RingOk l := fun h1 h2 h3 => ⟨⟨h2, by omega, h1⟩, h3⟩
  have lb : Lts [98] := by unfold Lts; decide
  have la : Lts [97] := by unfold Lts; decide
  have lz : Lts [122] := by unfold Lts; decide
  have ld : Lts [r[d]] := fun c hc => by rw [List.mem_singleton.mp hc]; exact hm _ (List.getElem_mem hd)
  have lr : Lts r.reverse := fun c hc => hm c (List.mem_reverse.mp hc)
  refine q p5 (A ++ B' ++ [l2, [97], [122]]) _ ?_ (by rw [List.length_append, hAB]; rfl) (hk6.new n5) (hp6.new n5) (hk6.free n5 (hp6.ne n5)) (hp6.ne n5) ?_
  · intro l hl
    rw [hAe, hBe] at hl
    simp only [List.cons_append, List.nil_append, List.mem_cons, List.not_mem_nil, or_false] at hl
    rcases hl with rfl | rfl | rfl | rfl | rfl | rfl | rfl | rfl | rfl | rfl
    · exact ok hm h0 (by omega)
    · exact ok ((hm.drop d).app (hm.take d)) (by rw [List.length_append, List.length_drop, List.length_take]; omega) (by rw [List.length_append, List.length_drop, List.length_take]; omega)
    · exact ok (hm.app hm) (by rw [List.length_append]; omega) (by rw [List.length_append]; omega)
    · exact ok (((hm.take d).app lb).app (hm.drop _)) (by rw [List.length_append, List.length_append, List.length_singleton]; omega) (by rw [List.length_append, List.length_append, List.length_singleton, List.length_drop, List.length_take]; omega)
    · exact ok (hm.app ld) (by rw [List.length_append, List.length_singleton]; omega) (by rw [List.length_append, List.length_singleton]; omega)
    · exact ok lr (by rw [List.length_reverse]; exact h0) (by rw [List.length_reverse]; omega)
    · exact ok (hm.app (hm.take _)) (by rw [List.length_append]; omega) (by rw [List.length_append, List.length_take]; omega)
    · exact ⟨hl2, by omega⟩
    · exact ok la (by decide) (by decide)
    · exact ok lz (by decide) (by decide)
  · rw [upd_same, of_a2, of_z]
    simp only [List.map_append]
    rfl
end
end My
namespace My
open PySem L2 PyProof.Rows
theorem len_sub {α : Type} [DecidableEq α] : ∀ {A B : List α}, A.Nodup → (∀ x ∈ A, x ∈ B) → A.length ≤ B.length
  | [], _, _, _ => Nat.zero_le _
  | a :: r, B, hn, h => by
    obtain ⟨h1, h2⟩ := List.nodup_cons.mp hn
    have ha := h a List.mem_cons_self
    have := len_sub (B := B.erase a) h2 fun x hx => (List.mem_erase_of_ne (fun z => h1 (by rw [← z]; exact hx))).mpr (h x (List.mem_cons_of_mem _ hx))
    rw [List.length_erase_of_mem ha] at this
    have := List.length_pos_of_mem ha
    rw [List.length_cons]
    omega
/-- what is met, counted once -/
def dc (N : Nat) (R : List Nat) : List Nat := (List.range N).filter fun x => decide (x ∈ R)
theorem dc_mem {N x : Nat} {R : List Nat} : x ∈ dc N R ↔ x < N ∧ x ∈ R := by
  unfold dc
  rw [List.mem_filter, List.mem_range, decide_eq_true_iff]
theorem dc_nodup (N : Nat) (R : List Nat) : (dc N R).Nodup := List.Pairwise.filter _ List.nodup_range
theorem dc_le (N : Nat) (R : List Nat) : (dc N R).length ≤ N := by
  have := List.length_filter_le (fun x => decide (x ∈ R)) (List.range N)
  rw [List.length_range] at this
  exact this
theorem dc_all {N : Nat} {R : List Nat} : (dc N R).length = N ↔ ∀ x, x < N → x ∈ R := by
  have : (dc N R).length = (List.range N).length ↔ _ := List.length_filter_eq_length_iff
  rw [List.length_range] at this
  rw [this]
  simp only [List.mem_range, decide_eq_true_eq]
structure Met (E : Nat → Nat → Prop) (N b j : Nat) (R : List Nat) : Prop where
  rch : ∀ x ∈ R, x < N ∧ Rch E b x
  beg : b ∈ R
  far : (∀ u v, u ∈ R → E u v → v ∈ R) ∨ j + 1 ≤ (dc N R).length
theorem met_start {E : Nat → Nat → Prop} {N b : Nat} (h : b < N) : Met E N b 0 [b] := by
  refine ⟨fun x hx => by rw [List.mem_singleton.mp hx]; exact ⟨h, rch_refl b⟩, List.mem_singleton.mpr rfl, .inr ?_⟩
  exact List.length_pos_of_mem (dc_mem.mpr ⟨h, List.mem_singleton.mpr rfl⟩)
theorem met_step {E : Nat → Nat → Prop} {N b j : Nat} {R A : List Nat} (hE : ∀ u v, E u v → v < N) (h : Met E N b j R) (hA : ∀ v, v ∈ A ↔ ∃ u, E u v ∧ u ∈ R ∧ v ∉ R) : Met E N b (j + 1) (R ++ A) := by
  refine ⟨fun x hx => ?_, List.mem_append_left _ h.beg, ?_⟩
  · rcases List.mem_append.mp hx with hx | hx
    · exact h.rch x hx
    · obtain ⟨u, e, hu, _⟩ := (hA x).mp hx
      exact ⟨hE u x e, rch_trans (h.rch u hu).2 (rch_one e)⟩
  · cases A with
    | nil =>
      left
      intro u v hu e
      rw [List.append_nil] at hu ⊢
      by_cases c : v ∈ R
      · exact c
      · have := (hA v).mpr ⟨u, e, hu, c⟩
        simp at this
    | cons a r =>
      obtain ⟨u, e, hu, hv⟩ := (hA a).mp List.mem_cons_self
      rcases h.far with k | k
      · exact absurd (k u a hu e) hv
      · right
        have := len_sub (A := a :: dc N R) (B := dc N (R ++ a :: r)) (List.nodup_cons.mpr ⟨fun z => hv (dc_mem.mp z).2, dc_nodup N R⟩) fun x hx => by
          rcases List.mem_cons.mp hx with rfl | hx
          · exact dc_mem.mpr ⟨hE u x e, List.mem_append_right _ List.mem_cons_self⟩
          · exact dc_mem.mpr ⟨(dc_mem.mp hx).1, List.mem_append_left _ (dc_mem.mp hx).2⟩
        rw [List.length_cons] at this
        omega
theorem met_end {E : Nat → Nat → Prop} {N b : Nat} {R : List Nat} (h : Met E N b N R) (x : Nat) : x ∈ R ↔ Rch E b x := by
  constructor
  · exact fun hx => (h.rch x hx).2
  · intro r
    rcases h.far with k | k
    · exact rch_closed (S := fun x => x ∈ R) k h.beg r
    · have := dc_le N R
      omega
theorem parts_one {E : Nat → Nat → Prop} {N : Nat} (h0 : 0 < N) : (partsL E N).length = 1 ↔ ∀ b, b < N → ∀ x, x < N → Rch E b x := by
  unfold partsL
  rw [List.length_map]
  constructor
  · intro h b hb x hx
    obtain ⟨p, hp⟩ := List.length_eq_one_iff.mp h
    obtain ⟨p1, m1, e1⟩ := head_of (E := E) hb
    obtain ⟨p2, m2, e2⟩ := head_of (E := E) hx
    rw [hp] at m1 m2
    rw [List.mem_singleton.mp m1] at e1
    rw [List.mem_singleton.mp m2] at e2
    exact rch_trans e1.1 e2.2
  · intro h
    have z0 : 0 ∈ headsL E N := headsL_mem.mpr ⟨h0, fun x hx => absurd hx (Nat.not_lt_zero x)⟩
    have all : ∀ p ∈ headsL E N, p ∈ [0] := fun p hp => by
      obtain ⟨p1, p2⟩ := headsL_mem.mp hp
      cases p with
      | zero => exact List.mem_singleton.mpr rfl
      | succ p => exact absurd ⟨h _ p1 0 h0, h 0 h0 _ p1⟩ (p2 0 (Nat.succ_pos p))
    have l1 := len_sub (headsL_rising.imp (fun {a b} (z : a < b) (e : a = b) => by omega)) all
    have l2 := List.length_pos_of_mem z0
    rw [List.length_singleton] at l1
    omega
/-- the ties, each with its address -/
theorem ks_of {H : Hp} : ∀ {tas : List Addr} {ts : List (Nat × Nat)}, Paired (TupAt H) tas ts → ∃ ks : List (Addr × List Int), ks.map (fun p => V.ref p.1) = tas.map V.ref ∧ ks.length = ts.length ∧ (∀ p ∈ ks, ∃ e ∈ ts, p.2 = [(e.1 : Int), (e.2 : Int)] ∧ TupAt H p.1 e) ∧ (∀ e ∈ ts, [(e.1 : Int), (e.2 : Int)] ∈ ks.map (·.2))
  | _, _, .nil => ⟨[], rfl, rfl, fun p hp => by simp at hp, fun e he => by simp at he⟩
  | _, _, .cons (a := a) (b := e0) r t => by
    obtain ⟨ks, h1, h2, h3, h4⟩ := ks_of t
    refine ⟨(a, [(e0.1 : Int), (e0.2 : Int)]) :: ks, by rw [List.map_cons, List.map_cons, h1], by rw [List.length_cons, List.length_cons, h2], fun p hp => ?_, fun e he => ?_⟩
    · rcases List.mem_cons.mp hp with rfl | hp
      · exact ⟨e0, List.mem_cons_self, rfl, r⟩
      · obtain ⟨e, k1, k2, k3⟩ := h3 p hp
        exact ⟨e, List.mem_cons_of_mem _ k1, k2, k3⟩
    · rw [List.map_cons]
      rcases List.mem_cons.mp he with rfl | he
      · exact List.mem_cons_self
      · exact List.mem_cons_of_mem _ (h4 e he)
end My
namespace My
open PySem L2 PyProof.Rows
section
variable {P : Program} {w : World} {K : PySem.W.Frag} {mg : Str → Option Value} {base : Heap} {C C2 : Addr}
def sp_law_is_close (_ : PySem.W.Frag) (_ _ : Addr) : Sp := fun vs H Q _ => ∃ pl P W ts s, vs = [.ref pl] ∧ H pl = some (.lst (P.map V.str)) ∧ PW P W ts s ∧ P.mergeSort leS = P ∧ P.length ≤ 12 ∧ ∀ H', Same H H' → Q (.bl (closedB W.length ts)) H'
theorem ok_law_is_close (D : Def K mg "_law_is_close" s_law_is_close ["_law_pieces"]) (B : Bs mg) (Glb : Glo mg) (WK : WebK K mg C) (PK : PieceK K mg C2)
    (h_law_words : Good P w K mg base "_law_words" s_law_words ["_law_pieces"] 1 (sp_law_words K C C2))
    (h_law_ties : Good P w K mg base "_law_ties" s_law_ties ["_law_pieces"] 2 (sp_law_ties K C C2)) :
    Good P w K mg base "_law_is_close" s_law_is_close ["_law_pieces"] 3 (sp_law_is_close K C C2) := by
  refine D.good fun f fd F => ?_
  obtain ⟨f_law_words, d_law_words, O_law_words, m_law_words, k_law_words, b_law_words, F_law_words⟩ := h_law_words
  obtain ⟨f_law_ties, d_law_ties, O_law_ties, m_law_ties, k_law_ties, b_law_ties, F_law_ties⟩ := h_law_ties
  refine F.ok sc_law_is_close (fun vs H Q E h => ?_) (fun cdv A outer s H vs Q E hr h => ?_)
  · obtain ⟨pl, P', W', ts, s, rfl, hpl, hPW, hsort, h12, q⟩ := h
    first | rfl | (rcases h with ⟨_, _, rfl, _⟩ | ⟨_, rfl, _⟩ <;> rfl)
  obtain ⟨pl, P', W', ts, s, rfl, hpl, hPW, hsort, h12, q⟩ := h
  refine ⟨_, (pss_cons (ps_par (i := 1) (j := 2) (by rfl) sc_law_is_close.nd rfl rfl (by decide) rfl rfl (pa_cons (pe_call O_law_words (hr.mono (by decide)) rfl m_law_words k_law_words b_law_words .nil pass0 (pa_cons (pv 0) pa_nil)) (pa_cons (pe_call O_law_ties hr rfl m_law_ties k_law_ties b_law_ties .nil pass0 (pa_cons (pv 0) pa_nil)) pa_nil)) (by rfl))
  (pss_cons (ps_for PassesOwn.never rfl (pi_range1 (by rfl) B.range (pa_cons (pe_callB call_len_seq (by rfl) B.len (by decide +kernel) (pa_cons (pv 1) pa_nil)) pa_nil)) (pg_name (i := 3) sc_law_is_close.nd rfl (by first | exact Or.inl rfl | exact Or.inr rfl))
    (pss_cons (ps_set (i := 4) sc_law_is_close.nd rfl (by first | exact Or.inl rfl | exact Or.inr rfl) (pe_lst (pa_cons (pv 3) pa_nil)))
  (pss_cons (ps_for PassesOwn.never rfl (pi_range1 (by rfl) B.range (pa_cons (pe_callB call_len_seq (by rfl) B.len (by decide +kernel) (pa_cons (pv 1) pa_nil)) pa_nil)) (pg_name (i := 5) sc_law_is_close.nd rfl (by first | exact Or.inl rfl | exact Or.inr rfl))
    (pss_one (ps_set (i := 4) sc_law_is_close.nd rfl (by first | exact Or.inl rfl | exact Or.inr rfl) (pe_op op_cat (pv 4) (pe_lc (own := [("_law_near", 6), ("_law_far", 7)]) (g := gTup K 2 (gCons (gName 6) (gCons (gName 7) gNil))) (by rfl) sc_law_is_close.nd (pi_list (pe_callB (cr_sortedT rfl) (by rfl) B.sorted (by decide +kernel) (pa_cons (pe_callTy (cr_setOfT rfl hr.units) (by rfl) B.set (by decide +kernel) (pa_cons (pv 2) pa_nil)) pa_nil))) (blkOk_by (own := [("_law_near", 6), ("_law_far", 7)]) (N := ["_law_pieces", "_law_words_here", "_law_ties_here", "_law_begin", "_law_met", "_law_turn", "_law_near", "_law_far"]) (sc := defScope s_law_is_close) (by decide +kernel)) (fun _ _ _ _ _ => (pg_tup rfl (pgs_cons (pg_name (i := 6) sc_law_is_close.nd rfl (by first | exact Or.inl rfl | exact Or.inr rfl)) (pgs_cons (pg_name (i := 7) sc_law_is_close.nd rfl (by first | exact Or.inl rfl | exact Or.inr rfl)) pgs_nil)))) (fun _ _ _ _ _ => (pts_one (PW.pt (pw_and (pt_cmpR (op_in_seqK (K := K) rfl) (pv 6) (pv 4) (by rfl)) (pw_and1 (pt_cmpR (op_notIn_seqK (K := K) rfl) (pv 7) (pv 4) (by rfl))))))) (fun _ _ _ _ _ => (pv 7)))))))
  (pss_one (ps_if (pt_cmpR op_ne (pe_callB call_len_seq (by rfl) B.len (by decide +kernel) (pa_cons (pe_callB (cr_sortIn rfl) (by rfl) B.sorted (by decide +kernel) (pa_cons (pe_callTy (cr_setIn rfl) (by rfl) B.set (by decide +kernel) (pa_cons (pv 4) pa_nil)) pa_nil)) pa_nil)) (pe_callB call_len_seq (by rfl) B.len (by decide +kernel) (pa_cons (pv 1) pa_nil)) (nomark _))
    (pss_one (ps_ret pe_bl)) pss_nil)))))
  (pss_one (ps_ret pe_bl)))), ?_⟩
  obtain ⟨o1, o2, o3, o4, o5, o6⟩ := id hPW.p
  have h8 : ∀ z ∈ P', z.length ≤ 8 := fun z hz => by have := (o3 z hz).2; omega
  refine ⟨_, rfl, pl, P', rfl, hpl, by omega, h8, fun H1 wl W1 hS1 nwl hwl1 hW1 => ?_⟩
  have eW := hW1.unique hPW.w
  subst eW
  refine ⟨_, rfl, pl, P', rfl, hS1 _ _ hpl, by omega, h8, fun H2 tl W2 us hS2 ntl hT2 hW2 hus => ?_⟩
  have eW := hW2.unique hPW.w
  subst eW
  rw [hsort] at hus
  have ets := hus.unique hPW.w.nodup hPW.t
  subst ets
  have hS02 := hS1.trans hS2
  have hwl2 := hS2 _ _ hwl1
  have hul : us.length = P'.length := hPW.t.1
  have hN0 : 0 < W2.length := hPW.o.n0
  have hN24 : W2.length ≤ 24 := by
    have := len_sub hPW.w.nodup (fun x hx => (hPW.w.2 x).mp hx)
    rw [List.length_append, List.length_map, List.length_map] at this
    omega
  have hE : ∀ u v, Ed us u v → v < W2.length := fun u v ⟨i, e, _⟩ => (hPW.o.ok _ (List.mem_of_getElem? e)).2
  have hEm : ∀ u v, Ed us u v ↔ (u, v) ∈ us := fun u v => ⟨fun ⟨i, e, _⟩ => List.mem_of_getElem? e, fun h => by
    obtain ⟨i, e⟩ := List.getElem?_of_mem h
    exact ⟨i, e, by simp⟩⟩
  obtain ⟨tas, ht1, ht2⟩ := id hT2
  obtain ⟨ks, k1, k2, k3, k4⟩ := ks_of ht2
  obtain ⟨N, hN⟩ : ∃ N, N = W2.length := ⟨_, rfl⟩
  rw [← hN] at hN0 hN24 hE
  refine ⟨_, _, rfl, _, rfl, wl, _, rfl, .inl (SqL.of hwl2), _, rfl, by omega, by rw [List.length_map]; omega, ?_⟩
  rw [List.length_map, ← hN, show ((N : Nat) : Int).toNat = N by omega]
  refine for_range (lo := 0) (n := N) (fun i σ H' => Same H2 H' ∧ (∀ b, b < i → ∀ x, x < N → Rch (Ed us) b x) ∧ ∃ v3 v4 v5 : Option V, σ = [some (.ref pl), some (.ref wl), some (.ref tl), v3, v4, v5, none, none]) ⟨Same.refl _, (fun b hb => absurd hb (Nat.not_lt_zero b)), none, none, none, rfl⟩ ?_ ?_
  · rintro i σ H3 hi ⟨hS3, hall, v3, v4, v5, rfl⟩
    rw [Int.zero_add]
    refine ⟨_, rfl, (by show 1 ≤ sizeLine; decide), fun m0 nm0 => ?_⟩
    have hS4 := hS3.trans (same_new nm0 (.lst [V.int (i : Int)]))
    have hm4 : upd H3 m0 (.lst [V.int (i : Int)]) m0 = some (.lst (iv [i])) := upd_same
    generalize upd H3 m0 (.lst [V.int (i : Int)]) = H4 at hS4 hm4
    refine ⟨_, rfl, wl, _, rfl, .inl (SqL.of (hS4 _ _ hwl2)), _, rfl, by omega, by rw [List.length_map]; omega, ?_⟩
    rw [List.length_map, ← hN, show ((N : Nat) : Int).toNat = N by omega]
    refine for_range (lo := 0) (n := N) (fun j σ H' => ∃ (R : List Nat) (m : Addr) (v5 : Option V), σ = [some (.ref pl), some (.ref wl), some (.ref tl), some (.int (i : Int)), some (.ref m), v5, none, none] ∧ Same H2 H' ∧ H' m = some (.lst (iv R)) ∧ Met (Ed us) N i j R ∧ R.length ≤ 1 + j * 12) ⟨[i], m0, v5, rfl, hS4, hm4, met_start hi, by simp⟩ ?_ ?_
    · rintro j σ H5 hj ⟨R, m, v5, rfl, hS5, hm5, hM, hRl⟩
      have hRb : R.length ≤ 300 := by
        have := Nat.mul_le_mul_right 12 (Nat.le_of_lt (Nat.lt_of_lt_of_le hj hN24))
        omega
      have tup : ∀ H', Same H2 H' → ∀ p ∈ ks, SqT K H' p.1 (p.2.map V.int) := fun H' hS p hp => by
        obtain ⟨e, _, e2, e3⟩ := k3 p hp
        rw [e2]
        exact SqT.of (hS _ _ e3)
      refine ⟨_, rfl, _, rfl, tl, ks, rfl, SqL.of (by rw [hS5 _ _ ht1, k1]), tup _ hS5, by omega, fun sa L nsa hsub hsup => ?_⟩
      have hS6 := hS5.trans (same_new nsa (SetTO P w sa L))
      have hm6 := same_new nsa (SetTO P w sa L) _ _ hm5
      refine ⟨sa, L, 2, 64, rfl, upd_same, fun p hp => tup _ hS6 p (hsub p hp), by decide, fun p hp => ?_, fun L' lp hperm hnd hlt hpw nlp => ?_⟩
      · obtain ⟨e, e1, e2, _⟩ := k3 p (hsub p hp)
        obtain ⟨b1, b2⟩ := hPW.o.ok e e1
        rw [e2]
        refine ⟨rfl, fun z hz => ?_⟩
        rcases List.mem_cons.mp hz with rfl | hz
        · omega
        · rw [List.mem_singleton.mp hz]
          omega
      have hS7 := hS6.trans (same_new nlp (.lst (L'.map fun q : Addr × List Int => V.ref q.1)))
      have hm7 := same_new nlp (.lst (L'.map fun q : Addr × List Int => V.ref q.1)) _ _ hm6
      have hlp : upd (upd H5 sa (SetTO P w sa L)) lp (.lst (L'.map fun q : Addr × List Int => V.ref q.1)) lp = some (.lst (L'.map fun q : Addr × List Int => V.ref q.1)) := upd_same
      have hL12 : L'.length ≤ 12 := by
        have := len_sub hnd (B := ks.map (·.2)) fun x hx => by
          obtain ⟨p, hp, rfl⟩ := List.mem_map.mp hx
          exact List.mem_map.mpr ⟨p, hsub p (hperm.mem_iff.mp hp), rfl⟩
        rw [List.length_map, List.length_map] at this
        omega
      refine ⟨lp, rfl, ⟨_, SqL.of hlp⟩, fun D nD => ?_⟩
      refine lc_list (K := K) (a := lp) (xs := L'.map fun q : Addr × List Int => V.ref q.1) (fun i H' => ∃ A : List Nat, Same (upd (upd H5 sa (SetTO P w sa L)) lp (.lst (L'.map fun q : Addr × List Int => V.ref q.1))) H' ∧ H' D = some (.lst (iv A)) ∧ A.length ≤ i ∧ ∀ v : Nat, v ∈ A ↔ ∃ (k : Nat) (p : Addr × List Int) (u : Nat), k < i ∧ L'[k]? = some p ∧ p.2 = [(u : Int), (v : Int)] ∧ u ∈ R ∧ v ∉ R) ⟨[], same_new nD _, upd_same, Nat.le_refl _, fun v => by simp⟩ (fun i H' _ ⟨_, hS', _⟩ => SqL.of (hS' _ _ hlp)) ?_ ?_
      · rintro i' y H8 hy ⟨A, hS8, hD8, hAl, hAm⟩
        rw [List.getElem?_map] at hy
        obtain ⟨p, hp, rfl⟩ : ∃ p, L'[i']? = some p ∧ y = V.ref p.1 := by
          cases e : L'[i']? with
          | none => rw [e] at hy; cases hy
          | some p => rw [e] at hy; exact ⟨p, rfl, (Option.some.inj hy).symm⟩
        have hil := (List.getElem?_eq_some_iff.mp hp).1
        obtain ⟨⟨u, v⟩, e1, e2, e3⟩ := k3 p (hsub p (hperm.mem_iff.mp (List.mem_of_getElem? hp)))
        have hp8 : H8 p.1 = some (.tup [.int (u : Int), .int (v : Int)]) := hS8 _ _ (hS7 _ _ e3)
        have hm8 := hS8 _ _ hm7
        have skipA : ¬ (u ∈ R ∧ v ∉ R) → ∀ v' : Nat, v' ∈ A ↔ ∃ (k : Nat) (p : Addr × List Int) (u : Nat), k < i' + 1 ∧ L'[k]? = some p ∧ p.2 = [(u : Int), (v' : Int)] ∧ u ∈ R ∧ v' ∉ R := fun c v' => by
          rw [hAm]
          constructor
          · rintro ⟨k, p', u', a1, a2⟩
            exact ⟨k, p', u', by omega, a2⟩
          · rintro ⟨k, p', u', a1, a2, a3, a4, a5⟩
            by_cases z : k = i'
            · subst z
              rw [hp] at a2
              cases a2
              rw [e2] at a3
              injection a3 with b1 b2
              injection b2 with b2 _
              exact absurd ⟨by rw [show u = u' by omega]; exact a4, by rw [show v = v' by omega]; exact a5⟩ c
            · exact ⟨k, p', u', by omega, a2, a3, a4, a5⟩
        refine ⟨p.1, _, rfl, SqT.of hp8, rfl, _, _, rfl, _, _, rfl, rfl, rfl, ?_⟩
        refine ⟨_, rfl, _, rfl, m, _, rfl, .inl (SqL.of hm8), rfl, flat_iv R, _, rfl, ?_⟩
        rw [inV_iv]
        by_cases c1 : u ∈ R
        · refine iteYes c1 ⟨_, rfl, _, rfl, m, _, rfl, .inl (SqL.of hm8), rfl, flat_iv R, _, rfl, ?_⟩
          rw [inV_iv]
          by_cases c2 : v ∈ R
          · exact iteNot' c2 ⟨A, hS8, hD8, by omega, skipA fun z => z.2 c2⟩
          · refine iteNot c2 ⟨_, rfl, _, hD8, ?_, A ++ [v], same_upd hS8 nD, by rw [upd_same, iv_app], by rw [List.length_append, List.length_singleton]; omega, fun v' => ?_⟩
            · rw [List.length_map]
              exact small1000 (by omega)
            · rw [List.mem_append, List.mem_singleton, hAm]
              constructor
              · rintro (⟨k, p', u', a1, a2⟩ | rfl)
                · exact ⟨k, p', u', by omega, a2⟩
                · exact ⟨i', p, u, by omega, hp, e2, c1, c2⟩
              · rintro ⟨k, p', u', a1, a2, a3, a4, a5⟩
                by_cases z : k = i'
                · subst z
                  rw [hp] at a2
                  cases a2
                  rw [e2] at a3
                  injection a3 with b1 b2
                  injection b2 with b2 _
                  right
                  omega
                · exact .inl ⟨k, p', u', by omega, a2, a3, a4, a5⟩
        · exact iteNo c1 ⟨A, hS8, hD8, by omega, skipA fun z => c1 z.1⟩
      rintro H8 ⟨A, hS8, hD8, hAl, hAm⟩
      rw [List.length_map] at hAl hAm
      have hA : ∀ v, v ∈ A ↔ ∃ u, Ed us u v ∧ u ∈ R ∧ v ∉ R := fun v => by
        rw [hAm]
        constructor
        · rintro ⟨k, p, u, a1, a2, a3, a4, a5⟩
          obtain ⟨⟨u', v'⟩, e1, e2, e3⟩ := k3 p (hsub p (hperm.mem_iff.mp (List.mem_of_getElem? a2)))
          rw [e2] at a3
          injection a3 with b1 b2
          injection b2 with b2 _
          have eu : u' = u := by omega
          have ev : v' = v := by omega
          subst eu ev
          exact ⟨u', (hEm _ _).mpr e1, a4, a5⟩
        · rintro ⟨u, e, a4, a5⟩
          have h1 := k4 _ ((hEm u v).mp e)
          obtain ⟨p0, hp0, e0⟩ := List.mem_map.mp h1
          obtain ⟨p, hp, e1⟩ := List.mem_map.mp (hsup p0 hp0)
          obtain ⟨k, hk⟩ := List.getElem?_of_mem (hperm.mem_iff.mpr hp)
          exact ⟨k, p, u, (List.getElem?_eq_some_iff.mp hk).1, hk, by rw [e1]; exact e0, a4, a5⟩
      have hm8 := hS8 _ _ hm7
      refine ⟨m, D, _, _, rfl, rfl, hm8, hD8, ?_, fun m' nm' => ?_⟩
      · rw [List.length_map, List.length_map]
        exact Nat.le_of_lt (small1000 (by omega))
      refine ⟨R ++ A, m', some (.int (0 + (j : Int))), rfl, (hS7.trans hS8).trans (same_new nm' _), by rw [upd_same]; unfold iv; rw [List.map_append], met_step hE hM hA, ?_⟩
      rw [List.length_append, Nat.succ_mul]
      omega
    · rintro σ H5 ⟨R, m, v5, rfl, hS5, hm5, hM, hRl⟩
      have hR1000 : R.length ≤ 300 := by
        have := Nat.mul_le_mul_right 12 hN24
        omega
      refine ⟨_, rfl, m, R.map fun n : Nat => (n : Int), rfl, SqL.of (by rw [hm5, iv_iz]), by rw [List.length_map]; omega, fun sp n hn hle nsp => ?_⟩
      have e1 := hn ((dc N R).map fun n : Nat => (n : Int)) (List.Pairwise.map _ (fun a b (z : a ≠ b) => show (a : Int) ≠ (b : Int) by omega) (dc_nodup N R)) fun k => by
        simp only [List.mem_map]
        exact ⟨fun ⟨t, h, e⟩ => ⟨t, (dc_mem.mp h).2, e⟩, fun ⟨t, h, e⟩ => ⟨t, dc_mem.mpr ⟨(hM.rch t h).1, h⟩, e⟩⟩
      rw [List.length_map] at e1
      have hdl := dc_le N R
      refine ⟨sp, _, n, rfl, upd_same, by omega, fun M mp hPw hmem hMl nmp => ?_⟩
      have hS6 := hS5.trans ((same_new nsp (InO w sp (inI (R.map fun n : Nat => (n : Int))) n)).trans (same_new nmp (.lst (M.map V.int))))
      have hmp : upd (upd H5 sp (InO w sp (inI (R.map fun n : Nat => (n : Int))) n)) mp (.lst (M.map V.int)) mp = some (.lst (M.map V.int)) := upd_same
      refine ⟨mp, _, rfl, .inl (SqL.of hmp), _, rfl, wl, _, rfl, .inl (SqL.of (hS6 _ _ hwl2)), rfl, _, rfl, ?_⟩
      rw [List.length_map, List.length_map, hMl, ← hN]
      by_cases c : (dc N R).length = N
      · refine iteNot' (by rw [← e1, c]) ⟨hS6, fun b hb x hx => ?_, _, _, _, rfl⟩
        by_cases z : b = i
        · subst z
          exact (met_end hM x).mp (dc_all.mp c x hx)
        · exact hall b (by omega) x hx
      · refine iteNot (fun z => c (by have := int_eq.mp z; omega)) ?_
        have e : closedB W2.length us = false := by
          unfold closedB
          rw [← hN]
          have : ¬ (partsL (Ed us) N).length = 1 := fun z => c (dc_all.mpr fun x hx => (met_end hM x).mpr ((parts_one hN0).mp z i hi x hx))
          rw [decide_eq_false this, Bool.and_false]
        have := q (upd (upd H5 sp (InO w sp (inI (R.map fun n : Nat => (n : Int))) n)) mp (.lst (M.map V.int))) (hS02.trans hS6)
        rw [e] at this
        exact this
  · rintro σ H3 ⟨hS3, hall, v3, v4, v5, rfl⟩
    have e : closedB W2.length us = true := by
      unfold closedB
      rw [← hN, decide_eq_true (show 0 < us.length by omega), decide_eq_true ((parts_one hN0).mpr hall)]
      rfl
    have := q H3 (hS02.trans hS3)
    rw [e] at this
    exact this
end
end My
namespace My
open PySem L2 PyProof.Rows
theorem str_tS (x : Str) : x = tS x.cps.toList := by cases x; simp
theorem fst_tS (l : List Nat) : fst_ (tS l) = tS l.dropLast := cut_last l
theorem lst_tS (l : List Nat) : lst_ (tS l) = tS (l.drop 1) := cut_from (p := 1)
theorem ltr_tS {l : List Nat} (h : 0 < l.length) : l = l.dropLast ++ [ltr (tS l)] := by
  have e : l.dropLast ++ [l.getLast (List.ne_nil_of_length_pos h)] = l := List.dropLast_concat_getLast _
  have e2 : ltr (tS l) = l.getLast (List.ne_nil_of_length_pos h) := by
    unfold ltr
    show (tS l).cps.toList.getD _ 0 = _
    have : (tS l).cps.toList = l := by simp
    rw [this, List.getD_eq_getElem?_getD, List.getLast_eq_getElem, List.getElem?_eq_getElem (by omega)]
    rfl
  rw [e2]
  exact e.symm
theorem turn_min {l m : List Nat} (h0 : 0 < l.length) (h : m ∈ rows l l.length) (hm : ∀ t ∈ rows l l.length, ¬ t < m) : IsLeast l m := by
  obtain ⟨p, hp, rfl⟩ := List.mem_map.mp h
  refine ⟨p, List.mem_range.mp hp, rfl, fun q hq => ?_⟩
  rw [← rot_mod l q] at hq
  exact hm _ (List.mem_map.mpr ⟨q % l.length, List.mem_range.mpr (Nat.mod_lt _ h0), rfl⟩) hq
theorem rows_some {l : List Nat} (h0 : 0 < l.length) : rows l l.length ≠ [] := fun z => by
  have := rows_len l l.length
  rw [z, List.length_nil] at this
  omega
theorem rps_at {r : List Nat} {s i : Nat} (h : i < r.length) : (rps r s)[i]? = some (tS (rd r i s)) := by
  unfold rps
  rw [List.getElem?_map, List.getElem?_range h]
  rfl
theorem rd_tail {r : List Nat} {i s : Nat} (hs : 0 < s) : (rd r i s).drop 1 = rd r (i + 1) (s - 1) := rd_drop r i s 1
theorem rd_front {r : List Nat} {i s : Nat} (hs : 0 < s) : (rd r i s).dropLast = rd r i (s - 1) := by
  obtain ⟨t, rfl⟩ : ∃ t, s = t + 1 := ⟨s - 1, by omega⟩
  rw [rd_succ, List.dropLast_concat]
  rfl
theorem rd_last {r : List Nat} {i s : Nat} (hs : 0 < s) : ltr (tS (rd r i s)) = gt r (i + (s - 1)) := by
  obtain ⟨t, rfl⟩ : ∃ t, s = t + 1 := ⟨s - 1, by omega⟩
  have h1 : 0 < (rd r i (t + 1)).length := by rw [rd_len]; omega
  have := ltr_tS h1
  rw [rd_succ, List.dropLast_concat] at this
  have e := List.append_cancel_left this
  rw [← rd_succ] at e
  exact (List.cons.inj e).1.symm
/-- a round of the pieces of a ring is a round of the web, and its letters are the ring, turned -/
theorem tour_along {P W : List Str} {ts : List (Nat × Nat)} {s : Nat} {r R : List Nat} (hP : PW P W ts s) (hr : Wd r) (h20 : r.length ≤ 100) (hA : IsAlong P (rps r s) R) : Tour ts R ∧ letters P R = rot r (s - 1) ∧ R.length = r.length := by
  obtain ⟨o1, o2, o3, o4, o5, o6⟩ := id hP.p
  have h0 := hr.1
  have hl : R.length = r.length := by rw [hA.1, rps_len]
  have at_ : ∀ i, i < r.length → ∃ t, R[i]? = some t ∧ P[t]? = some (tS (rd r i s)) := fun i hi => hA.2 i _ (rps_at hi)
  have link : ∀ i j x y, i < r.length → j < r.length → R[i]? = some x → R[j]? = some y → rd r (i + 1) (s - 1) = rd r j (s - 1) → ∃ e f, ts[x]? = some e ∧ ts[y]? = some f ∧ f.1 = e.2 := fun i j x y hi hj hx hy hrd => by
    obtain ⟨x', a1, a2⟩ := at_ i hi
    obtain ⟨y', b1, b2⟩ := at_ j hj
    rw [hx] at a1
    rw [hy] at b1
    cases a1
    cases b1
    obtain ⟨u, v, c1, c2, c3⟩ := hP.t.2 x _ a2
    obtain ⟨u', v', d1, d2, d3⟩ := hP.t.2 y _ b2
    rw [lst_tS, rd_tail (by omega), hrd] at c3
    rw [fst_tS, rd_front (by omega)] at d2
    exact ⟨_, _, c1, d1, nodup_get hP.w.nodup d2 c3⟩
  refine ⟨⟨⟨by omega, fun x hx => ?_, fun i hi => ?_⟩, by omega, ?_⟩, ?_, hl⟩
  · obtain ⟨i, hi⟩ := List.getElem?_of_mem hx
    have hil := (List.getElem?_eq_some_iff.mp hi).1
    obtain ⟨t, a1, a2⟩ := at_ i (by omega)
    rw [hi] at a1
    cases a1
    rw [hP.t.1]
    exact (List.getElem?_eq_some_iff.mp a2).1
  · have e1 : R[i]? = some (R[i]'(by omega)) := List.getElem?_eq_getElem _
    have e2 : R[i + 1]? = some (R[i + 1]'hi) := List.getElem?_eq_getElem _
    obtain ⟨e, f, k1, k2, k3⟩ := link i (i + 1) _ _ (by omega) (by omega) e1 e2 rfl
    exact ⟨_, _, e, f, e1, e2, k1, k2, k3⟩
  · have e1 : R[R.length - 1]? = some (R[R.length - 1]'(by omega)) := List.getElem?_eq_getElem _
    have e2 : R[0]? = some (R[0]'(by omega)) := List.getElem?_eq_getElem _
    obtain ⟨e, f, k1, k2, k3⟩ := link (R.length - 1) 0 _ _ (by omega) (by omega) e1 e2 (by
      rw [show R.length - 1 + 1 = r.length by omega, ← rd_mod r r.length, Nat.mod_self])
    exact ⟨_, _, f, e, e2, e1, k2, k1, k3⟩
  · unfold rot
    rw [rd_gt]
    refine List.ext_getElem? fun i => ?_
    by_cases c : i < r.length
    · obtain ⟨t, a1, a2⟩ := at_ i c
      rw [List.getElem?_map, a1, List.getElem?_map, List.getElem?_range c]
      show some (ltr (pce P t)) = some (gt r (s - 1 + i))
      have e : pce P t = tS (rd r i s) := by
        have := pce_at (List.getElem?_eq_some_iff.mp a2).1
        rw [a2] at this
        exact (Option.some.inj this).symm
      rw [e, rd_last (by omega), Nat.add_comm]
    · rw [List.getElem?_eq_none (by rw [List.length_map]; omega), List.getElem?_eq_none (by rw [List.length_map, List.length_range]; omega)]
theorem IsAlong.turn {P L : List Str} {R : List Nat} (h : IsAlong P L R) (d : Nat) (hd : d ≤ L.length) : IsAlong P (L.drop d ++ L.take d) (R.drop d ++ R.take d) := by
  have h1 := h.1
  refine ⟨by rw [List.length_append, List.length_append, List.length_drop, List.length_drop, List.length_take, List.length_take, h1], fun i z hz => ?_⟩
  by_cases c : i < L.length - d
  · rw [List.getElem?_append_left (by rw [List.length_drop]; omega), List.getElem?_drop] at hz
    obtain ⟨t, a1, a2⟩ := h.2 _ z hz
    exact ⟨t, by rw [List.getElem?_append_left (by rw [List.length_drop]; omega), List.getElem?_drop]; exact a1, a2⟩
  · rw [List.getElem?_append_right (by rw [List.length_drop]; omega), List.length_drop] at hz
    have hi := (List.getElem?_eq_some_iff.mp hz).1
    rw [List.length_take] at hi
    rw [List.getElem?_take_of_lt (by omega)] at hz
    obtain ⟨t, a1, a2⟩ := h.2 _ z hz
    exact ⟨t, by rw [List.getElem?_append_right (by rw [List.length_drop]; omega), List.length_drop, h1, List.getElem?_take_of_lt (by omega)]; exact a1, a2⟩
theorem rps_turn {r : List Nat} {s d : Nat} (h0 : 0 < r.length) (hd : d < r.length) : rps (rot r d) s = (rps r s).drop d ++ (rps r s).take d := by
  have hl := rps_len r s
  refine List.ext_getElem? fun i => ?_
  by_cases c : i < r.length
  · rw [rps_at (by rw [rot_len]; exact c)]
    have e : rd (rot r d) i s = rd r (d + i) s := rd_turned r d i s h0
    rw [e]
    by_cases c2 : i < r.length - d
    · rw [List.getElem?_append_left (by rw [List.length_drop]; omega), List.getElem?_drop, rps_at (by omega)]
    · rw [List.getElem?_append_right (by rw [List.length_drop]; omega), List.length_drop, hl, List.getElem?_take_of_lt (by omega), rps_at (by omega)]
      have : rd r (d + i) s = rd r (i - (r.length - d)) s := by
        rw [← rd_mod r (d + i), ← rd_mod r (i - (r.length - d))]
        congr 1
        conv => lhs; rw [show d + i = i - (r.length - d) + r.length by omega]
        rw [Nat.add_mod_right]
      rw [this]
  · rw [List.getElem?_eq_none (by rw [rps_len, rot_len]; omega), List.getElem?_eq_none (by rw [List.length_append, List.length_drop, List.length_take]; omega)]
theorem wd_turn {r : List Nat} (h : Wd r) (d : Nat) : Wd (rot r d) := wd_rot h d
/-- what is so of a ring -/
theorem so_covers {P W : List Str} {ts : List (Nat × Nat)} {s : Nat} {r R : List Nat} (hP : PW P W ts s) (hA : IsAlong P (rps r s) R) : (∀ k, k ∈ rps r s ↔ k ∈ P) ↔ ∀ t, t < ts.length → t ∈ R := by
  obtain ⟨o1, o2, o3, o4, o5, o6⟩ := id hP.p
  have sub : ∀ k ∈ rps r s, k ∈ P := fun k hk => by
    obtain ⟨i, hi⟩ := List.getElem?_of_mem hk
    obtain ⟨t, _, e⟩ := hA.2 i k hi
    exact List.mem_of_getElem? e
  rw [hP.t.1]
  constructor
  · intro h t ht
    have hp := pce_at ht
    obtain ⟨i, hi⟩ := List.getElem?_of_mem ((h _).mpr (List.mem_of_getElem? hp))
    obtain ⟨t', a1, a2⟩ := hA.2 i _ hi
    rw [nodup_get o6 hp a2]
    exact List.mem_of_getElem? a1
  · intro h k
    refine ⟨sub k, fun hk => ?_⟩
    obtain ⟨t, ht⟩ := List.getElem?_of_mem hk
    obtain ⟨i, hi⟩ := List.getElem?_of_mem (h t (List.getElem?_eq_some_iff.mp ht).1)
    have hil := (List.getElem?_eq_some_iff.mp hi).1
    rw [hA.1] at hil
    obtain ⟨t', a1, a2⟩ := hA.2 i _ (List.getElem?_eq_getElem hil)
    rw [hi] at a1
    cases a1
    rw [ht] at a2
    rw [Option.some.inj a2]
    exact List.getElem_mem hil
end My
namespace My
open PySem L2 PyProof.Rows
theorem cutV_to {xs : List V} {k : Nat} : cutV xs none (some (k : Int)) = xs.take k := by
  unfold cutV
  rw [HT.sIx_none, HT.sIx_nat]
  show (xs.drop 0).take _ = _
  rw [List.drop_zero]
  by_cases h : k ≤ xs.length
  · rw [Nat.min_eq_left h]; rfl
  · rw [Nat.min_eq_right (by omega), List.take_of_length_le (by omega), List.take_of_length_le (by omega)]
theorem cutV_from {xs : List V} {k : Nat} : cutV xs (some (k : Int)) none = xs.drop k := by
  unfold cutV
  rw [HT.sIx_none, HT.sIx_nat]
  by_cases h : k ≤ xs.length
  · rw [Nat.min_eq_left h, List.take_of_length_le (by rw [List.length_drop]; omega)]
  · rw [Nat.min_eq_right (by omega), List.drop_of_length_le (by omega), List.drop_of_length_le (by omega)]
    simp
theorem bool_iff {a b : Bool} {p : Prop} (h : a = true ↔ p) (k : b = true ↔ p) : a = b := by
  cases a <;> cases b <;> simp_all
theorem stay {a : Addr} {S H H' : Hp} (h : Same S H) (k : Kept a H H') (n : S a = none) : Same S H' := fun b o e => k b o (h b o e) (fun z => by rw [z, n] at e; cases e)
section
variable {P : Program} {w : World} {K : PySem.W.Frag} {mg : Str → Option Value} {base : Heap} {C C2 : Addr}
def sp_law_one_right (_ : PySem.W.Frag) (C C2 : Addr) : Sp := fun vs H Q _ => ∃ a x pl P W ts s S r, vs = [.ref a, .ref x, .ref pl, T r] ∧ PotAt H a ∧ PieceAt C C2 x P W ts S ∧ Same S H ∧ S a = none ∧ PW P W ts s ∧ P.mergeSort leS = P ∧ H pl = some (.lst (P.map V.str)) ∧ pl ≠ a ∧ RingOk r ∧ ∀ H', Kept a H H' → PotAt H' a → Q (.bl true) H'
theorem ok_law_one_right (D : Def K mg "_law_one_right" s_law_one_right ["_law_pot_here", "_law_web", "_law_pieces", "_law_ring_here"]) (B : Bs mg) (Glb : Glo mg) (WK : WebK K mg C) (PK : PieceK K mg C2)
    (h_law_draw : Good P w K mg base "_law_draw" s_law_draw ["_law_pot_here", "_law_size"] 1 (sp_law_draw K C C2))
    (h_law_round : Good P w K mg base "_law_round" s_law_round ["_law_pieces", "_law_ring_here"] 2 (sp_law_round K C C2))
    (h_law_turnings : Good P w K mg base "_law_turnings" s_law_turnings ["_law_ring_here"] 1 (sp_law_turnings K C C2))
    (his_round : Good P w K mg base "is_round" sis_round ["web", "value"] 6 (spis_round K C C2))
    (hexplains : Good P w K mg base "explains" sexplains ["pieceweb", "ring"] 7 (spexplains K C C2))
    (hcovers : Good P w K mg base "covers" scovers ["web", "tour"] 8 (spcovers K C C2))
    (h_law_read : Good P w K mg base "_law_read" s_law_read ["_law_ring_here", "_law_size"] 1 (sp_law_read K C C2))
    (hPieceWeb_web : GoodM P w K mg base C2 "web" "PieceWeb.web" sPieceWeb_web ["self"] 8 (spPieceWeb_web K C C2))
    (hPieceWeb_round_of : GoodM P w K mg base C2 "round_of" "PieceWeb.round_of" sPieceWeb_round_of ["self", "ring"] 5 (spPieceWeb_round_of K C C2))
    (hPieceWeb_ring_of : GoodM P w K mg base C2 "ring_of" "PieceWeb.ring_of" sPieceWeb_ring_of ["self", "tour"] 8 (spPieceWeb_ring_of K C C2)) :
    Good P w K mg base "_law_one_right" s_law_one_right ["_law_pot_here", "_law_web", "_law_pieces", "_law_ring_here"] 10 (sp_law_one_right K C C2) := by
  refine D.good fun f fd F => ?_
  obtain ⟨f_law_draw, d_law_draw, O_law_draw, m_law_draw, k_law_draw, b_law_draw, F_law_draw⟩ := h_law_draw
  obtain ⟨f_law_round, d_law_round, O_law_round, m_law_round, k_law_round, b_law_round, F_law_round⟩ := h_law_round
  obtain ⟨f_law_turnings, d_law_turnings, O_law_turnings, m_law_turnings, k_law_turnings, b_law_turnings, F_law_turnings⟩ := h_law_turnings
  obtain ⟨fis_round, dis_round, Ois_round, mis_round, kis_round, bis_round, Fis_round⟩ := his_round
  obtain ⟨fexplains, dexplains, Oexplains, mexplains, kexplains, bexplains, Fexplains⟩ := hexplains
  obtain ⟨fcovers, dcovers, Ocovers, mcovers, kcovers, bcovers, Fcovers⟩ := hcovers
  obtain ⟨f_law_read, d_law_read, O_law_read, m_law_read, k_law_read, b_law_read, F_law_read⟩ := h_law_read
  obtain ⟨fPieceWeb_web, dPieceWeb_web, OPieceWeb_web, tPieceWeb_web, bPieceWeb_web, FPieceWeb_web⟩ := hPieceWeb_web
  obtain ⟨fPieceWeb_round_of, dPieceWeb_round_of, OPieceWeb_round_of, tPieceWeb_round_of, bPieceWeb_round_of, FPieceWeb_round_of⟩ := hPieceWeb_round_of
  obtain ⟨fPieceWeb_ring_of, dPieceWeb_ring_of, OPieceWeb_ring_of, tPieceWeb_ring_of, bPieceWeb_ring_of, FPieceWeb_ring_of⟩ := hPieceWeb_ring_of
  have kb_PieceWeb_ring_of_tour : KBinds K dPieceWeb_ring_of ["self", "tour"] ["tour"] gm1 gm1 := fun_kbinds FPieceWeb_ring_of gm1 gm1 relm1 (fun _ _ _ _ _ _ us ws hl => by
    obtain ⟨a0, a1, rfl, rfl⟩ := gm1_inv hl
    rfl)
  refine F.ok sc_law_one_right (fun vs H Q E h => ?_) (fun cdv A outer s H vs Q E hr h => ?_)
  · obtain ⟨a, x, pl, P', W', ts, s, S, r, rfl, hp, hwS, hSS, hSa, hPW, hsort, hpl, hpa, ⟨hr2, h20⟩, q⟩ := h
    first | rfl | (rcases h with ⟨_, _, rfl, _⟩ | ⟨_, rfl, _⟩ <;> rfl)
  obtain ⟨a, x, pl, P', W', ts, s, S, r, rfl, hp, hwS, hSS, hSa, hPW, hsort, hpl, hpa, ⟨hr2, h20⟩, q⟩ := h
  refine ⟨_, (pss_cons (ps_par (i := 4) (j := 5) (by rfl) sc_law_one_right.nd rfl rfl (by decide) rfl rfl (pa_cons (pe_call O_law_round (hr.mono (by decide)) rfl m_law_round k_law_round b_law_round .nil pass0 (pa_cons (pv 2) (pa_cons (pv 3) pa_nil))) (pa_cons (pe_cmpR (op_eqD hr.units) (pe_callB (cr_sortTx rfl hr.units) (by rfl) B.sorted (by decide +kernel) (pa_cons (pe_callTy (cr_setTx rfl) (by rfl) B.set (by decide +kernel) (pa_cons (pe_call O_law_read (hr.mono (by decide)) rfl m_law_read k_law_read b_law_read .nil pass0 (pa_cons (pv 3) (pa_cons (pe_callB call_len_str (by rfl) B.len (by decide +kernel) (pa_cons (pe_ix ix_list (pv 2) pe_int (fun _ _ => rfl)) pa_nil)) pa_nil))) pa_nil)) pa_nil)) (pv 2) (nomark _)) pa_nil)) (by rfl))
  (pss_cons (ps_if (PW.pt (pw_or (pt_cmpR (op_neD hr.units) (pe_meth (pv 1) PK.cl tPieceWeb_round_of OPieceWeb_round_of (hr.mono (by decide)) bPieceWeb_round_of .nil pass0 (pa_cons (pv 3) pa_nil)) (pv 4) (nomark _)) (pw_or1 (pt_cmpR op_ne (pe_callB call_repr_bl (by rfl) B.repr (by decide +kernel) (pa_cons (pe_call Oexplains (hr.mono (by decide)) rfl mexplains kexplains bexplains .nil pass0 (pa_cons (pv 1) (pa_cons (pv 3) pa_nil))) pa_nil)) (pe_callB call_repr_bl (by rfl) B.repr (by decide +kernel) (pa_cons (pv 5) pa_nil)) (nomark _)))))
    (pss_one (ps_ret pe_bl)) pss_nil)
  (pss_cons (ps_if (pt_cmpR op_isN (pv 4) pe_non (nomark _))
    (pss_one (ps_ret (pe_not (pv 5)))) pss_nil)
  (pss_cons (ps_set (i := 6) sc_law_one_right.nd rfl (by first | exact Or.inl rfl | exact Or.inr rfl) (pe_meth0 (pv 1) PK.cl tPieceWeb_web OPieceWeb_web (hr.mono (by decide)) bPieceWeb_web .nil pass0))
  (pss_cons (ps_if (PW.pt (pw_or (pt_cmpR op_notBl (pe_call Ois_round (hr.mono (by decide)) rfl mis_round kis_round bis_round .nil pass0 (pa_cons (pv 6) (pa_cons (pv 4) pa_nil))) pe_bl (nomark _)) (pw_or1 (pt_cmpR op_ne (pe_callB call_repr_bl (by rfl) B.repr (by decide +kernel) (pa_cons (pe_call Ocovers (hr.mono (by decide)) rfl mcovers kcovers bcovers .nil pass0 (pa_cons (pv 6) (pa_cons (pv 4) pa_nil))) pa_nil)) (pe_callB call_repr_bl (by rfl) B.repr (by decide +kernel) (pa_cons (pv 5) pa_nil)) (nomark _)))))
    (pss_one (ps_ret pe_bl)) pss_nil)
  (pss_cons (ps_set (i := 7) sc_law_one_right.nd rfl (by first | exact Or.inl rfl | exact Or.inr rfl) (pe_call O_law_draw (hr.mono (by decide)) rfl m_law_draw k_law_draw b_law_draw .nil pass0 (pa_cons (pv 0) (pa_cons (pe_callB call_len_seq (by rfl) B.len (by decide +kernel) (pa_cons (pv 4) pa_nil)) pa_nil))))
  (pss_cons (ps_set (i := 8) sc_law_one_right.nd rfl (by first | exact Or.inl rfl | exact Or.inr rfl) (pe_callB (cr_minS rfl hr.units) (by rfl) B.min (by decide +kernel) (pa_cons (pe_call O_law_turnings (hr.mono (by decide)) rfl m_law_turnings k_law_turnings b_law_turnings .nil pass0 (pa_cons (pv 3) pa_nil)) pa_nil)))
  (pss_cons (ps_set (i := 9) sc_law_one_right.nd rfl (by first | exact Or.inl rfl | exact Or.inr rfl) (pe_op op_cat (pe_slice sl_list (pv 4) (po_some (pv 7)) po_none) (pe_slice sl_list (pv 4) po_none (po_some (pv 7)))))
  (pss_one (ps_ret (pe_and (pe_cmpR op_eq (pe_meth (pv 1) PK.cl tPieceWeb_ring_of OPieceWeb_ring_of (hr.mono (by decide)) bPieceWeb_ring_of .nil pass0 (pa_cons (pv 4) pa_nil)) (pv 8) (nomark _)) (pe_one (pe_cmpR op_eq (pe_methKK (pv 1) PK.cl tPieceWeb_ring_of OPieceWeb_ring_of (hr.mono (by decide)) kb_PieceWeb_ring_of_tour pass0 (pk_cons (pe_callTy call_tuple_of (by rfl) B.tuple (by decide +kernel) (pa_cons (pv 9) pa_nil)) pk_nil)) (pv 8) (nomark _)))))))))))))), ?_⟩
  obtain ⟨o1, o2, o3, o4, o5, o6⟩ := id hPW.p
  have h0 := hr2.1
  have hpc : pcs (tS (rd r 0 (r.length + s - 1))) s = rps r s := rps_opened h0 (by omega)
  have hrl := rps_len r s
  obtain ⟨x0, hx0⟩ : ∃ x, P'[0]? = some x := ⟨P'[0]'(by omega), List.getElem?_eq_getElem _⟩
  have hs0 := (o3 x0 (List.mem_of_getElem? hx0)).2
  have hokP : ∀ z ∈ P', OkT z := fun z hz => (o3 z hz).1
  refine ⟨_, rfl, _, rfl, pl, P', s, r, rfl, hpl, hPW.p, hr2, fun v H1 hS1 hv hnew => ?_⟩
  refine ⟨_, rfl, _, rfl, _, _, _, .str x0, rfl, rfl, SqL.of (hS1 _ _ hpl), atI_nat (j := 0) (by rw [List.getElem?_map, hx0]; rfl), x0, rfl, line400 (by omega), ?_⟩
  rw [hs0]
  refine ⟨r, s, rfl, hr2, o4, o5, fun D H2 hS2 nD hD2 => ?_⟩
  refine ⟨D, rps r s, rfl, .inl (SqL.of hD2), by omega, fun sp n _ hle nsp => ⟨sp, _, n, rfl, upd_same, by omega, fun M mp hPw hmem hMl nmp => ?_⟩⟩
  have hS3 : Same H (upd (upd H2 sp (TxO w sp (hasT (rps r s)) n)) mp (.lst (M.map V.str))) := (hS1.trans hS2).trans ((same_new nsp _).trans (same_new nmp _))
  have hv3 : WalkIs P' (tS (rd r 0 (r.length + s - 1))) s v (upd (upd H2 sp (TxO w sp (hasT (rps r s)) n)) mp (.lst (M.map V.str))) := hv.same (hS2.trans ((same_new nsp _).trans (same_new nmp _)))
  have hmem2 : ∀ k, k ∈ M ↔ k ∈ rps r s := fun k => (hmem k).trans (by unfold hasT; exact decide_eq_true_iff)
  have hokM : ∀ z ∈ M, OkT z := fun z hz => (rps_okT hr2 (by omega) o5 z ((hmem2 z).mp hz)).1
  refine ⟨_, rfl, _, _, dp_ls upd_same, dp_ls (hS3 _ _ hpl), shaped_st hokM, shaped_st hokP, ?_⟩
  rw [eqv_s]
  have hb : decide (M = P') = true ↔ ∀ k, k ∈ rps r s ↔ k ∈ P' := by
    rw [decide_eq_true_iff]
    conv => lhs; rw [← hsort]
    rw [sorted_same hPw o6]
    exact ⟨fun h k => (hmem2 k).symm.trans (h k), fun h k => (hmem2 k).trans (h k)⟩
  generalize decide (M = P') = isb at hb
  refine ⟨_, _, rfl, ?_⟩
  suffices fin : ∀ H3, Same H H3 → WalkIs P' (tS (rd r 0 (r.length + s - 1))) s v H3 → _ by exact fin _ hS3 hv3
  intro H3 hS3 hv3
  have hSS3 := hSS.trans hS3
  have hp3 := hp.same hS3
  have hpl3 := hS3 _ _ hpl
  have hw3 := hwS.same hSS3
  obtain ⟨dx, pa, pb, y0, h1S, _⟩ := id hwS
  have xIs : ∀ H', Same S H' → H' x = some (.ins C2 dx (wfP pa pb y0)) := fun H' h => h _ _ h1S
  refine ⟨_, rfl, x, dx, _, rfl, xIs _ hSS3, wfP_no _ _ _ (by decide +kernel) (by decide +kernel) (by decide +kernel), _, rfl, x, P', W', ts, s, r, rfl, hw3, hPW, hr2, fun v2 H4 hS4 hv4 => ?_⟩
  obtain ⟨d0, d1, d2, d3, d4⟩ := hv4.dp (K := K) o6 (hv3.same hS4)
  refine ⟨_, rfl, d0, d0, d1, d2, d3, d3, _, rfl, iteNb d4 ?_⟩
  have hSS4 := hSS3.trans hS4
  refine ⟨_, rfl, _, rfl, x, P', W', ts, s, r, rfl, hwS.same hSS4, hPW, hr2, fun b H5 hbb hS5 => ?_⟩
  have eb := bool_iff hbb hb
  subst eb
  refine ⟨b, rfl, _, rfl, b, rfl, rfl, _, rfl, iteNot' rfl ?_⟩
  have hS35 := hS4.trans hS5
  have hS5 := hS3.trans hS35
  have hSS5 := hSS3.trans hS35
  have hv5 := hv3.same hS35
  clear hS4 hv4 d1 d2 d3 d4 hSS4 hw3
  rcases hv5 with ⟨rfl, hbad⟩ | ⟨l, R, rfl, hl5, _, hA⟩
  · refine ⟨_, rfl, rfl, _, rfl, iteYes rfl ⟨_, rfl, _, rfl, ?_⟩⟩
    have hbf : b = false := by
      cases b with
      | false => rfl
      | true =>
        have hall := hb.mp rfl
        rw [hpc] at hbad
        rcases hbad with z | z
        · rw [z, List.length_nil] at hrl
          omega
        · exact absurd (fun k hk => (hall k).mp hk) z
    rw [hbf]
    exact q _ (Same.kept hS5) (hp.same hS5)
  rw [hpc] at hA
  obtain ⟨htour, hlet, hRl⟩ := tour_along hPW hr2 (by omega) hA
  have hla : l ≠ a := fun z => by
    have := hnew l rfl
    obtain ⟨u1, u2, e, _⟩ := hp
    rw [z, e] at this
    cases this
  refine ⟨_, rfl, rfl, _, rfl, iteNo (by intro z; cases z) ?_⟩
  refine ⟨_, rfl, x, dx, _, rfl, xIs _ hSS5, wfP_no _ _ _ (by decide +kernel) (by decide +kernel) (by decide +kernel), x, P', W', ts, rfl, hwS.same hSS5, hPW.o, fun y H6 S2 hwy hSy _ hS6 => ?_⟩
  have hwy6 := hwy.same hSy
  have hl6 := hS6 _ _ hl5
  refine ⟨_, rfl, _, rfl, y, W'.length, ts, l, R, rfl, hwy6, .inl hl6, htour, fun H7 hS7 => ⟨true, true, rfl, rfl, _, rfl, iteF ?_⟩⟩
  refine ⟨_, rfl, _, rfl, y, W'.length, ts, l, R, rfl, hwy6.same hS7, hS7 _ _ hl6, htour, by omega, fun b2 H8 hb2 hS8 => ?_⟩
  have eb := bool_iff hb2 (hb.trans (so_covers hPW hA))
  subst eb
  refine ⟨b2, rfl, _, rfl, b2, rfl, rfl, _, rfl, iteNot' rfl ?_⟩
  have hS58 := hS6.trans (hS7.trans hS8)
  have hS8 := hS5.trans hS58
  have hSS8 := hSS5.trans hS58
  have hl8 := hS58 _ _ hl5
  have hp8 := hp.same hS8
  clear hS6 hS7 hwy hwy6 hSy hl6 hl5 hS58 hSS5 hS5 hS35
  refine ⟨_, rfl, _, rfl, l, _, rfl, .inl (SqL.of hl8), a, R.length, by rw [List.length_map]; rfl, hp8, by omega, by omega, fun d H9 hd hk9 hp9 => ?_⟩
  have hl9 := hk9 _ _ hl8 hla
  have hSS9 := stay hSS8 hk9 hSa
  have hk09 := (Same.kept hS8).trans hk9
  refine ⟨_, rfl, r, rfl, hr2, fun p Ha hSa' np hpa' => ⟨p, rows r r.length, rfl, SqL.of hpa', rows_some h0, fun m hm hmin => ?_⟩⟩
  have hmr := turn_min h0 hm hmin
  have hla' := hSa' _ _ hl9
  refine ⟨_, rfl, _, rfl, _, rfl, l, _, rfl, SqL.of hla', ?_⟩
  rw [cutV_from]
  refine fun p1 np1 => ?_
  have hSb := same_new np1 (.lst ((iv R).drop d))
  have h1b : upd Ha p1 (.lst ((iv R).drop d)) p1 = some (.lst ((iv R).drop d)) := upd_same
  generalize upd Ha p1 (.lst ((iv R).drop d)) = Hb at hSb h1b
  refine ⟨_, rfl, _, rfl, _, rfl, l, _, rfl, SqL.of (hSb _ _ hla'), ?_⟩
  rw [cutV_to]
  refine fun p2 np2 => ⟨p1, p2, _, _, rfl, rfl, same_new np2 _ _ _ h1b, upd_same, ?_, fun p3 np3 => ?_⟩
  · rw [List.length_drop, List.length_take, List.length_map]
    exact Nat.le_of_lt (small1000 (by omega))
  have hSc : Same Ha (upd (upd Hb p2 (.lst ((iv R).take d))) p3 (.lst ((iv R).drop d ++ (iv R).take d))) := hSb.trans ((same_new np2 _).trans (same_new np3 _))
  have h3c : upd (upd Hb p2 (.lst ((iv R).take d))) p3 (.lst ((iv R).drop d ++ (iv R).take d)) p3 = some (.lst (iv (R.drop d ++ R.take d))) := by
    rw [upd_same]
    unfold iv
    rw [List.map_append, List.map_drop, List.map_take]
  generalize upd (upd Hb p2 (.lst ((iv R).take d))) p3 (.lst ((iv R).drop d ++ (iv R).take d)) = Hc at hSc h3c
  have hSSc := hSS9.trans (hSa'.trans hSc)
  have hlc := hSc _ _ hla'
  have hkc := hk09.trans (Same.kept (hSa'.trans hSc))
  have hpc' := hp9.same (hSa'.trans hSc)
  have hdr : d < r.length := by omega
  obtain ⟨htour2, hlet2, hRl2⟩ := tour_along (r := rot r d) (R := R.drop d ++ R.take d) hPW (wd_turn hr2 d) (by rw [rot_len]; omega) (by rw [rps_turn h0 hdr]; exact hA.turn d (by omega))
  rw [rot_len] at hRl2
  refine ⟨_, rfl, x, dx, _, rfl, xIs _ hSSc, wfP_no _ _ _ (by decide +kernel) (by decide +kernel) (by decide +kernel), _, rfl, x, P', W', ts, s, l, R, rfl, hwS.same hSSc, hPW, .inl hlc, htour, by omega, fun m1 Hd hm1 hSd => ?_⟩
  rw [hlet] at hm1
  have em1 := least_unique (least_rot h0 hm1) hmr
  subst em1
  have hSSd := hSSc.trans hSd
  refine ⟨_, rfl, rfl, _, rfl, iteYes rfl ?_⟩
  refine ⟨_, rfl, x, dx, _, rfl, xIs _ hSSd, wfP_no _ _ _ (by decide +kernel) (by decide +kernel) (by decide +kernel), _, rfl, p3, _, rfl, .inl ⟨SqL.of (hSd _ _ h3c), fun t nt => ?_⟩⟩
  refine ⟨x, P', W', ts, s, t, _, rfl, (hwS.same hSSd).same (same_new nt _), hPW, .inr upd_same, htour2, by omega, fun m2 He hm2 hSe => ?_⟩
  rw [hlet2, rot_rot r d (s - 1) h0] at hm2
  have em2 := least_unique (least_rot h0 hm2) hmr
  subst em2
  have hSf := hSd.trans ((same_new nt _).trans hSe)
  refine ⟨_, rfl, rfl, bl_true rfl (q _ (hkc.trans (Same.kept hSf)) (hpc'.same hSf))⟩
end
end My
namespace My
open PySem L2 PyProof.Rows
/-- all keywords, turned about -/
def gR {α : Type} : List α → List α → List α | [], ws => ws.reverse | _ :: _, _ => []
theorem gR_inv2 {α : Type} {us ws : List α} (h : (gR us ws).length = 2) : us = [] ∧ ∃ a b, ws = [a, b] := by
  match us, ws, h with
  | [], [a, b], _ => exact ⟨rfl, a, b, rfl⟩
  | [], [], h => exact absurd h (by simp [gR])
  | [], [_], h => exact absurd h (by simp [gR])
  | [], _ :: _ :: _ :: _, h => exact absurd h (by simp [gR])
  | _ :: _, _, h => exact absurd h (by simp [gR])
theorem relR {vs : List V} {us : List Value} {zs : List V} {ws : List Value} (a : Vals vs us) (b : Vals zs ws) : Vals (gR vs zs) (gR us ws) := by
  cases a with
  | nil => exact paired_rev b
  | cons r a => exact .nil
theorem okP_of {M : List Str} {s : Nat} (h : M.Pairwise sLt) (h0 : 0 < M.length) (h30 : M.length ≤ 30) (hs : 2 ≤ s) (hs8 : s ≤ 8) (hm : ∀ x ∈ M, OkT x ∧ x.length = s) : OkP M s :=
  ⟨h0, h30, hm, hs, hs8, h.imp fun {a b} (z : sLt a b) (e : a = b) => sLt_irr a (by rw [← e] at z; exact z)⟩
theorem sort_self {M : List Str} {s : Nat} (h : M.Pairwise sLt) (o : OkP M s) : M.mergeSort leS = M := ((sorted_same h o.2.2.2.2.2).mpr fun k => Iff.rfl).symm
section
variable {P : Program} {w : World} {K : PySem.W.Frag} {mg : Str → Option Value} {base : Heap} {C C2 : Addr}
def sp_law_right (_ : PySem.W.Frag) (_ _ : Addr) : Sp := fun vs H Q _ => ∃ a, vs = [.ref a] ∧ PotAt H a ∧ ∀ H', Q (.bl true) H'
theorem ok_law_right (D : Def K mg "_law_right" s_law_right ["_law_pot_here"]) (B : Bs mg) (Glb : Glo mg) (WK : WebK K mg C) (PK : PieceK K mg C2)
    (h_law_rings : Good P w K mg base "_law_rings" s_law_rings ["_law_pot_here", "_law_ring_here"] 4 (sp_law_rings K C C2))
    (h_law_ring : Good P w K mg base "_law_ring" s_law_ring ["_law_pot_here", "_law_most"] 3 (sp_law_ring K C C2))
    (h_law_draw : Good P w K mg base "_law_draw" s_law_draw ["_law_pot_here", "_law_size"] 1 (sp_law_draw K C C2))
    (hexplains : Good P w K mg base "explains" sexplains ["pieceweb", "ring"] 7 (spexplains K C C2))
    (his_close : Good P w K mg base "is_close" sis_close ["web"] 5 (spis_close K C C2))
    (h_law_is_close : Good P w K mg base "_law_is_close" s_law_is_close ["_law_pieces"] 3 (sp_law_is_close K C C2))
    (h_law_one_right : Good P w K mg base "_law_one_right" s_law_one_right ["_law_pot_here", "_law_web", "_law_pieces", "_law_ring_here"] 10 (sp_law_one_right K C C2))
    (h_law_read : Good P w K mg base "_law_read" s_law_read ["_law_ring_here", "_law_size"] 1 (sp_law_read K C C2))
    (h_law_pieces_drawn : Good P w K mg base "_law_pieces_drawn" s_law_pieces_drawn ["_law_pot_here", "_law_size", "_law_most"] 3 (sp_law_pieces_drawn K C C2))
    (hPieceWeb___init__ : GoodI P w K mg base C2 "__init__" "PieceWeb.__init__" sPieceWeb___init__ ["self", "pieces"] 8 (spPieceWeb___init__ K C C2))
    (hPieceWeb_web : GoodM P w K mg base C2 "web" "PieceWeb.web" sPieceWeb_web ["self"] 8 (spPieceWeb_web K C C2)) :
    Good P w K mg base "_law_right" s_law_right ["_law_pot_here"] 11 (sp_law_right K C C2) := by
  refine D.good fun f fd F => ?_
  obtain ⟨f_law_rings, d_law_rings, O_law_rings, m_law_rings, k_law_rings, b_law_rings, F_law_rings⟩ := h_law_rings
  obtain ⟨f_law_ring, d_law_ring, O_law_ring, m_law_ring, k_law_ring, b_law_ring, F_law_ring⟩ := h_law_ring
  obtain ⟨f_law_draw, d_law_draw, O_law_draw, m_law_draw, k_law_draw, b_law_draw, F_law_draw⟩ := h_law_draw
  obtain ⟨fexplains, dexplains, Oexplains, mexplains, kexplains, bexplains, Fexplains⟩ := hexplains
  obtain ⟨fis_close, dis_close, Ois_close, mis_close, kis_close, bis_close, Fis_close⟩ := his_close
  obtain ⟨f_law_is_close, d_law_is_close, O_law_is_close, m_law_is_close, k_law_is_close, b_law_is_close, F_law_is_close⟩ := h_law_is_close
  obtain ⟨f_law_one_right, d_law_one_right, O_law_one_right, m_law_one_right, k_law_one_right, b_law_one_right, F_law_one_right⟩ := h_law_one_right
  obtain ⟨f_law_read, d_law_read, O_law_read, m_law_read, k_law_read, b_law_read, F_law_read⟩ := h_law_read
  obtain ⟨f_law_pieces_drawn, d_law_pieces_drawn, O_law_pieces_drawn, m_law_pieces_drawn, k_law_pieces_drawn, b_law_pieces_drawn, F_law_pieces_drawn⟩ := h_law_pieces_drawn
  obtain ⟨fPieceWeb___init__, dPieceWeb___init__, OPieceWeb___init__, MKPieceWeb, bPieceWeb___init__⟩ := hPieceWeb___init__
  obtain ⟨fPieceWeb_web, dPieceWeb_web, OPieceWeb_web, tPieceWeb_web, bPieceWeb_web, FPieceWeb_web⟩ := hPieceWeb_web
  have kb_explains_ring_pieceweb : KBinds K dexplains ["pieceweb", "ring"] ["ring", "pieceweb"] g21 g21 := fun_kbinds Fexplains g21 g21 rel21 (fun _ _ _ _ _ _ us ws hl => by
    obtain ⟨rfl, a0, a1, rfl⟩ := g21_inv hl
    rfl)
  refine F.ok sc_law_right (fun vs H Q E h => ?_) (fun cdv A outer s H vs Q E hr h => ?_)
  · obtain ⟨a, rfl, hp, q⟩ := h
    first | rfl | (rcases h with ⟨_, _, rfl, _⟩ | ⟨_, rfl, _⟩ <;> rfl)
  obtain ⟨a, rfl, hp, q⟩ := h
  refine ⟨_, (pss_cons (ps_par (i := 1) (j := 2) (by rfl) sc_law_right.nd rfl rfl (by decide) rfl rfl (pa_cons (pe_op op_add pe_int (pe_call O_law_draw (hr.mono (by decide)) rfl m_law_draw k_law_draw b_law_draw .nil pass0 (pa_cons (pv 0) (pa_cons pe_int pa_nil)))) (pa_cons (pe_call O_law_ring (hr.mono (by decide)) rfl m_law_ring k_law_ring b_law_ring .nil pass0 (pa_cons (pv 0) (pa_cons pe_int pa_nil))) pa_nil)) (by rfl))
  (pss_cons (ps_par (i := 3) (j := 4) (by rfl) sc_law_right.nd rfl rfl (by decide) rfl rfl (pa_cons (pe_callB (cr_sortTx rfl hr.units) (by rfl) B.sorted (by decide +kernel) (pa_cons (pe_callTy (cr_setTx rfl) (by rfl) B.set (by decide +kernel) (pa_cons (pe_call O_law_read (hr.mono (by decide)) rfl m_law_read k_law_read b_law_read .nil pass0 (pa_cons (pv 2) (pa_cons (pv 1) pa_nil))) pa_nil)) pa_nil)) (pa_cons (pe_call O_law_draw (hr.mono (by decide)) rfl m_law_draw k_law_draw b_law_draw .nil pass0 (pa_cons (pv 0) (pa_cons pe_int pa_nil))) pa_nil)) (by rfl))
  (pss_cons (ps_if (pt_cmpR op_eq (pv 4) pe_int (nomark _))
    (pss_one (ps_set (i := 3) sc_law_right.nd rfl (by first | exact Or.inl rfl | exact Or.inr rfl) (pe_callB (cr_sortTx rfl hr.units) (by rfl) B.sorted (by decide +kernel) (pa_cons (pe_callTy (cr_setTx rfl) (by rfl) B.set (by decide +kernel) (pa_cons (pe_op op_cat (pv 3) (pe_call O_law_pieces_drawn (hr.mono (by decide)) rfl m_law_pieces_drawn k_law_pieces_drawn b_law_pieces_drawn .nil pass0 (pa_cons (pv 0) (pa_cons (pv 1) (pa_cons pe_int pa_nil))))) pa_nil)) pa_nil)))) pss_nil)
  (pss_cons (ps_if (PW.pt (pw_and (pt_cmpR op_eq (pv 4) pe_int (nomark _)) (pw_and1 (pt_cmpR op_gt (pe_callB call_len_seq (by rfl) B.len (by decide +kernel) (pa_cons (pv 3) pa_nil)) pe_int (nomark _)))))
    (pss_cons (ps_set (i := 5) sc_law_right.nd rfl (by first | exact Or.inl rfl | exact Or.inr rfl) (pe_call O_law_draw (hr.mono (by decide)) rfl m_law_draw k_law_draw b_law_draw .nil pass0 (pa_cons (pv 0) (pa_cons (pe_callB call_len_seq (by rfl) B.len (by decide +kernel) (pa_cons (pv 3) pa_nil)) pa_nil))))
  (pss_one (ps_set (i := 3) sc_law_right.nd rfl (by first | exact Or.inl rfl | exact Or.inr rfl) (pe_op op_cat (pe_slice sl_list (pv 3) po_none (po_some (pv 5))) (pe_slice sl_list (pv 3) (po_some (pe_op op_add (pv 5) pe_int)) po_none))))) pss_nil)
  (pss_cons (ps_set (i := 6) sc_law_right.nd rfl (by first | exact Or.inl rfl | exact Or.inr rfl) (pe_make MKPieceWeb OPieceWeb___init__ (hr.mono (by decide)) rfl PK.mgC bPieceWeb___init__ .nil pass0 (pa_cons (pv 3) pa_nil)))
  (pss_cons (ps_if (pt_cmpR op_ne (pe_callB call_repr_bl (by rfl) B.repr (by decide +kernel) (pa_cons (pe_call Ois_close (hr.mono (by decide)) rfl mis_close kis_close bis_close .nil pass0 (pa_cons (pe_meth0 (pv 6) PK.cl tPieceWeb_web OPieceWeb_web (hr.mono (by decide)) bPieceWeb_web .nil pass0) pa_nil)) pa_nil)) (pe_callB call_repr_bl (by rfl) B.repr (by decide +kernel) (pa_cons (pe_call O_law_is_close (hr.mono (by decide)) rfl m_law_is_close k_law_is_close b_law_is_close .nil pass0 (pa_cons (pv 3) pa_nil)) pa_nil)) (nomark _))
    (pss_one (ps_ret pe_bl)) pss_nil)
  (pss_cons (ps_for PassesOwn.never rfl (pi_list (pe_call O_law_rings (hr.mono (by decide)) rfl m_law_rings k_law_rings b_law_rings .nil pass0 (pa_cons (pv 0) (pa_cons (pv 2) pa_nil)))) (pg_name (i := 7) sc_law_right.nd rfl (by first | exact Or.inl rfl | exact Or.inr rfl))
    (pss_one (ps_if (pt_not (pt_val (pe_call O_law_one_right hr rfl m_law_one_right k_law_one_right b_law_one_right .nil pass0 (pa_cons (pv 0) (pa_cons (pv 6) (pa_cons (pv 3) (pa_cons (pv 7) pa_nil)))))))
    (pss_one (ps_ret pe_bl)) pss_nil)))
  (pss_one (ps_ret (pe_cmpR op_eq (pe_callKK Oexplains (hr.mono (by decide)) (by rfl) mexplains kexplains kb_explains_ring_pieceweb pass0 (pk_cons (pv 2) (pk_cons (pv 6) pk_nil))) (pe_or (pe_cmpR op_gt (pv 4) pe_int (nomark _)) (pe_one (pe_cmpR (op_eqD hr.units) (pv 3) (pe_callB (cr_sortTx rfl hr.units) (by rfl) B.sorted (by decide +kernel) (pa_cons (pe_callTy (cr_setTx rfl) (by rfl) B.set (by decide +kernel) (pa_cons (pe_call O_law_read (hr.mono (by decide)) rfl m_law_read k_law_read b_law_read .nil pass0 (pa_cons (pv 2) (pa_cons (pv 1) pa_nil))) pa_nil)) pa_nil)) (nomark _)))) (nomark _))))))))))), ?_⟩
  refine ⟨_, rfl, a, 3, rfl, hp, by decide, by decide, fun d1 H1 hd1 hk1 hp1 => ⟨_, _, rfl, rfl, ?_⟩⟩
  refine ⟨_, rfl, a, 9, rfl, hp1, by decide, by decide, fun r H2 hr2 h9 hk2 hp2 => ⟨_, _, rfl, ?_⟩⟩
  obtain ⟨s, es⟩ : ∃ s, s = 2 + d1 := ⟨_, rfl⟩
  have hsv : (2 : Int) + (d1 : Int) = (s : Int) := by omega
  have h0 := hr2.1
  have hrps := rps_okT hr2 (by omega : 0 < s) (by omega)
  have hrl := rps_len r s
  refine ⟨_, rfl, _, rfl, r, s, by rw [← hsv]; rfl, hr2, by omega, by omega, fun D H3 hS3 nD hD3 => ?_⟩
  refine ⟨D, rps r s, rfl, .inl (SqL.of hD3), by omega, fun sp n hn hle nsp => ⟨sp, _, n, rfl, upd_same, by omega, fun P0 mp hPw hmem hMl nmp => ?_⟩⟩
  have hmem0 : ∀ k, k ∈ P0 ↔ k ∈ rps r s := fun k => (hmem k).trans (by unfold hasT; exact decide_eq_true_iff)
  have hS4 : Same H2 (upd (upd H3 sp (TxO w sp (hasT (rps r s)) n)) mp (.lst (P0.map V.str))) := hS3.trans ((same_new nsp _).trans (same_new nmp _))
  have hp4 := hp2.same hS4
  have hmpa : mp ≠ a := (hp2.same (hS3.trans (same_new nsp _))).ne nmp
  refine ⟨_, rfl, a, 4, rfl, hp4, by decide, by decide, fun wy H5 hwy hk5 hp5 => ⟨_, _, rfl, ?_⟩⟩
  have hpl5 : H5 mp = some (.lst (P0.map V.str)) := hk5 _ _ upd_same hmpa
  clear hS4 hp4 hk5 hS3 nD hD3 nsp nmp hmem hp1 hp2 hk1 hk2
  have hl0 : 0 < P0.length := by
    obtain ⟨k, hk⟩ : ∃ k, k ∈ rps r s := ⟨_, List.mem_of_getElem? (rps_at h0)⟩
    exact List.length_pos_of_mem ((hmem0 k).mpr hk)
  have hl9 : P0.length ≤ 9 := by omega
  have hok0 : OkP P0 s := okP_of hPw hl0 (by omega) (by omega) (by omega) fun x hx => hrps x ((hmem0 x).mp hx)
  refine ⟨_, rfl, rfl, _, rfl, ?_⟩
  refine ite2 (fun z0 => ?b0) (fun z0 => ?bx)
  case' b0 =>
    have ew : wy = 0 := by have := int_eq.mp (of_decide_eq_true z0); omega
    refine ⟨_, rfl, _, rfl, _, rfl, a, s, 1, by rw [← hsv]; rfl, hp5, by omega, by omega, by decide, by decide, fun p L H6 hL hL1 np hpa' hpL hk6 hp6 => ⟨mp, p, _, _, rfl, rfl, hk6 _ _ hpl5 hmpa, hpL, ?_, fun p3 n3 => ?_⟩⟩
    · rw [List.length_map, List.length_map]; exact Nat.le_of_lt (small1000 (by omega))
    have hlen1 : (P0 ++ L).length ≤ 10 := by rw [List.length_append]; omega
    refine ⟨p3, P0 ++ L, rfl, .inl (SqL.of (by rw [upd_same, List.map_append])), by omega, fun sp2 n2 _ hle2 nsp2 => ⟨sp2, _, n2, rfl, upd_same, by omega, fun P' pl hPr hmem1 hMl1 npl => ?_⟩⟩
    have hmemL : ∀ k, k ∈ P' ↔ k ∈ P0 ++ L := fun k => (hmem1 k).trans (by unfold hasT; exact decide_eq_true_iff)
    have hPm : ∀ x ∈ P', OkT x ∧ x.length = s := fun x hx => by
      rcases List.mem_append.mp ((hmemL x).mp hx) with h | h
      · exact hrps x ((hmem0 x).mp h)
      · exact hL.2.2.1 x h
    have hP0 : 0 < P'.length := by
      obtain ⟨k, hk⟩ := List.exists_mem_of_length_pos hl0
      exact List.length_pos_of_mem ((hmemL k).mpr (List.mem_append_left _ hk))
    have hP12 : P'.length ≤ 12 := by omega
    have hway : 2 ≤ wy → ∀ k, k ∈ rps r s ↔ k ∈ P' := fun z => by omega
    have hp7 := ((hp6.new (o := .lst (P0.map V.str ++ L.map V.str)) n3).new (o := TxO w sp2 (hasT (P0 ++ L)) n2) nsp2).new (o := .lst (P'.map V.str)) npl
    have hpla : pl ≠ a := ((hp6.new (o := .lst (P0.map V.str ++ L.map V.str)) n3).new (o := TxO w sp2 (hasT (P0 ++ L)) n2) nsp2).ne npl
    suffices fin : ∀ H7, PotAt H7 a → H7 pl = some (.lst (P'.map V.str)) → _ by exact fin _ hp7 upd_same
    intro H7 hp7 hplx
    refine ⟨_, rfl, rfl, _, rfl, iteNo (fun z => by have := int_eq.mp z; omega) ?_⟩
    clear hmem1 hMl1 npl n3 nsp2 hle2 hk6 hp6 hpL hmemL
  case' bx =>
    have ew : ¬ wy = 0 := fun e => by rw [e] at z0; exact absurd rfl (of_decide_eq_false (Bool.eq_false_iff.mpr z0))
    refine ⟨_, rfl, rfl, _, rfl, ?_⟩
    refine ite2 (fun z1 => ?c1) (fun z1 => ?c0)
    case' c1 =>
      have ew1 : wy = 1 := by have := int_eq.mp (of_decide_eq_true z1); omega
      refine ⟨_, rfl, mp, _, rfl, .inl (SqL.of hpl5), _, _, rfl, rfl, _, rfl, ?_⟩
      rw [List.length_map]
      refine ite2 (fun z2 => ?c3) (fun z2 => ?c2)
      case' c3 =>
        have hl1 : 1 < P0.length := by have := of_decide_eq_true z2; omega
        refine ⟨_, rfl, _, rfl, mp, _, rfl, .inl (SqL.of hpl5), a, P0.length, by rw [List.length_map]; rfl, hp5, hl0, by omega, fun d H6 hd hk6 hp6 => ?_⟩
        have hpl6 := hk6 _ _ hpl5 hmpa
        refine ⟨_, rfl, _, rfl, _, rfl, mp, _, rfl, SqL.of hpl6, ?_⟩
        rw [cutV_to]
        refine fun p1 np1 => ?_
        have hSb := same_new np1 (.lst ((P0.map V.str).take d))
        have h1b : upd H6 p1 (.lst ((P0.map V.str).take d)) p1 = some (.lst ((P0.map V.str).take d)) := upd_same
        generalize upd H6 p1 (.lst ((P0.map V.str).take d)) = Hb at hSb h1b
        refine ⟨_, rfl, _, rfl, _, _, rfl, rfl, _, rfl, mp, _, rfl, SqL.of (hSb _ _ hpl6), ?_⟩
        rw [show ((d : Int) + 1) = ((d + 1 : Nat) : Int) by omega, cutV_from]
        refine fun p2 np2 => ⟨p1, p2, _, _, rfl, rfl, same_new np2 _ _ _ h1b, upd_same, ?_, fun pl npl => ?_⟩
        · rw [List.length_drop, List.length_take, List.length_map]
          exact Nat.le_of_lt (small1000 (by omega))
        have hplx : upd (upd Hb p2 (.lst ((P0.map V.str).drop (d + 1)))) pl (.lst ((P0.map V.str).take d ++ (P0.map V.str).drop (d + 1))) pl = some (.lst ((P0.take d ++ P0.drop (d + 1)).map V.str)) := by
          rw [upd_same, List.map_append, List.map_take, List.map_drop]
        have hp7 := ((hp6.same hSb).new (o := .lst ((P0.map V.str).drop (d + 1))) np2).new (o := .lst ((P0.map V.str).take d ++ (P0.map V.str).drop (d + 1))) npl
        have hpla : pl ≠ a := ((hp6.same hSb).new (o := .lst ((P0.map V.str).drop (d + 1))) np2).ne npl
        generalize upd (upd Hb p2 (.lst ((P0.map V.str).drop (d + 1)))) pl (.lst ((P0.map V.str).take d ++ (P0.map V.str).drop (d + 1))) = H7 at hplx hp7
        have hsub : ∀ x ∈ P0.take d ++ P0.drop (d + 1), x ∈ P0 := fun x hx => (List.mem_append.mp hx).elim List.mem_of_mem_take List.mem_of_mem_drop
        have hPr : (P0.take d ++ P0.drop (d + 1)).Pairwise sLt := by
          rw [← List.eraseIdx_eq_take_drop_succ]
          exact hPw.sublist (List.eraseIdx_sublist P0 d)
        have hPl : (P0.take d ++ P0.drop (d + 1)).length = P0.length - 1 := by rw [List.length_append, List.length_take, List.length_drop]; omega
        generalize P0.take d ++ P0.drop (d + 1) = P' at hplx hsub hPr hPl
        have hPm : ∀ x ∈ P', OkT x ∧ x.length = s := fun x hx => hrps x ((hmem0 x).mp (hsub x hx))
        have hP0 : 0 < P'.length := by omega
        have hP12 : P'.length ≤ 12 := by omega
        have hway : 2 ≤ wy → ∀ k, k ∈ rps r s ↔ k ∈ P' := fun z => by omega
        skip
      case' c2 =>
        have hPm : ∀ x ∈ P0, OkT x ∧ x.length = s := fun x hx => hrps x ((hmem0 x).mp hx)
        have hway : 2 ≤ wy → ∀ k, k ∈ rps r s ↔ k ∈ P0 := fun z k => (hmem0 k).symm
        have hP0 := hl0
        have hP12 : P0.length ≤ 12 := by omega
        have hPr := hPw
        have hp7 := hp5
        have hplx := hpl5
        have hpla := hmpa
        obtain ⟨P', eP⟩ : ∃ P, P = P0 := ⟨_, rfl⟩
        subst eP
        obtain ⟨H7, e7⟩ : ∃ Hx, Hx = H5 := ⟨_, rfl⟩
        subst e7
        obtain ⟨pl, e8⟩ : ∃ p, p = mp := ⟨_, rfl⟩
        subst e8
        skip
    case' c0 =>
      have hPm : ∀ x ∈ P0, OkT x ∧ x.length = s := fun x hx => hrps x ((hmem0 x).mp hx)
      have hway : 2 ≤ wy → ∀ k, k ∈ rps r s ↔ k ∈ P0 := fun z k => (hmem0 k).symm
      have hP0 := hl0
      have hP12 : P0.length ≤ 12 := by omega
      have hPr := hPw
      have hp7 := hp5
      have hplx := hpl5
      have hpla := hmpa
      obtain ⟨P', eP⟩ : ∃ P, P = P0 := ⟨_, rfl⟩
      subst eP
      obtain ⟨H7, e7⟩ : ∃ Hx, Hx = H5 := ⟨_, rfl⟩
      subst e7
      obtain ⟨pl, e8⟩ : ∃ p, p = mp := ⟨_, rfl⟩
      subst e8
      skip
  all_goals
    have hOk : OkP P' s := okP_of hPr hP0 (by omega) (by omega) (by omega) hPm
    have hsort := sort_self hPr hOk
    refine ⟨_, rfl, fun x dx nx ndx ndxx => ?_⟩
    have hS78 : Same H7 (upd (upd H7 dx (.own x)) x (.ins C2 dx [])) := fun b o e => by
      rw [upd_ne (ne_of_none e nx), upd_ne (ne_of_none e ndx)]
      exact e
    refine ⟨x, dx, pl, P', s, rfl, upd_same, .inl (hS78 _ _ hplx), hOk, fun H8 W ts S hPW hwS hSS hNew hk8 => ⟨rfl, ?_⟩⟩
    rw [hsort] at hPW hwS
    have hax : a ≠ x := by
      obtain ⟨u, v, e, _⟩ := hp7
      exact ne_of_none e nx
    have hS8 : Same H7 H8 := fun b o e => hk8 _ _ (hS78 _ _ e) (ne_of_none e nx)
    have hp8 := hp7.same hS8
    have hSa0 : S a = none := by
      cases e : S a with
      | none => rfl
      | some o =>
        obtain ⟨u, v, e1, _⟩ := hp7.same hS78
        rcases hNew a o e with z | z | ⟨xs, z⟩
        · rw [e1] at z; cases z
        · exact absurd z hax
        · obtain ⟨u, v, e2, _⟩ := hp8
          have e3 := hSS _ _ e
          rw [e2] at e3
          cases e3
          cases z
    have hpl8 := hS8 _ _ hplx
    clear hS78 hk8 hNew
    obtain ⟨dx1, pa, pb, y0, h1S, _⟩ := id hwS
    refine ⟨_, rfl, x, dx1, _, rfl, hSS _ _ h1S, wfP_no _ _ _ (by decide +kernel) (by decide +kernel) (by decide +kernel), x, P', W, ts, rfl, hwS.same hSS, hPW.o, fun y H9 S' hwy hSy _ hS9 => ?_⟩
    refine ⟨y, W.length, ts, rfl, hwy.same hSy, hPW.o, fun Ha hSa' => ⟨_, rfl, _, rfl, pl, P', W, ts, s, rfl, hSa' _ _ (hS9 _ _ hpl8), hPW, hsort, hP12, fun Hb hSb => ⟨_, rfl, rfl, _, rfl, iteNot' rfl ?_⟩⟩⟩
    have hS8b := hS9.trans (hSa'.trans hSb)
    have hpb := hp8.same hS8b
    have hSSb := hSS.trans hS8b
    have hplb := hS8b _ _ hpl8
    refine ⟨_, rfl, _, rfl, a, r, rfl, hpb, hr2, h9, fun p LL Hc hLL hLL10 hkc hpc np hpna hpL => ?_⟩
    have hSSc := stay hSSb hkc hSa0
    have hplc := hkc _ _ hplb hpla
    refine ⟨p, rfl, ⟨_, SqL.of hpL⟩, ?_⟩
    refine for_list (K := K) (a := p) (xs := LL.map T) (fun i σ H' => PotAt H' a ∧ Same S H' ∧ H' pl = some (.lst (P'.map V.str)) ∧ H' p = some (.lst (LL.map T)) ∧ ∃ v5 v7 : Option V, σ = [some (.ref a), some (.int ((2 : Int) + (d1 : Int))), some (T r), some (.ref pl), some (.int (wy : Int)), v5, some (.ref x), v7]) ⟨hpc, hSSc, hplc, hpL, _, _, rfl⟩ (fun i σ H' _ ⟨_, _, _, h, _⟩ => SqL.of h) ?_ ?_
    · rintro i yv σ Hd hy ⟨hpd, hSSd, hpld, hpLd, v5, v7, rfl⟩
      rw [List.getElem?_map] at hy
      obtain ⟨l, hl, rfl⟩ : ∃ l, LL[i]? = some l ∧ yv = T l := by
        cases e : LL[i]? with
        | none => rw [e] at hy; cases hy
        | some l => rw [e] at hy; exact ⟨l, rfl, (Option.some.inj hy).symm⟩
      refine ⟨_, rfl, _, rfl, _, rfl, _, rfl, a, x, pl, P', W, ts, s, S, l, rfl, hpd, hwS, hSSd, hSa0, hPW, hsort, hpld, hpla, hLL l (List.mem_of_getElem? hl), fun He hke hpe => ⟨_, rfl, iteF ?_⟩⟩
      exact ⟨hpe, stay hSSd hke hSa0, hke _ _ hpld hpla, hke _ _ hpLd hpna, _, _, rfl⟩
    · rintro σ Hd ⟨hpd, hSSd, hpld, hpLd, v5, v7, rfl⟩
      refine ⟨_, rfl, _, rfl, x, P', W, ts, s, r, rfl, hwS.same hSSd, hPW, hr2, fun b He hb hSe => ?_⟩
      refine ⟨_, rfl, _, _, rfl, rfl, ?_⟩
      by_cases cw : 2 ≤ wy
      · have eb : b = true := hb.mpr (hway cw)
        subst eb
        exact ⟨_, rfl, iteYes (by omega) ⟨rfl, bl_true rfl (q He)⟩⟩
      · refine ⟨_, rfl, iteNo (by omega) ?_⟩
        refine ⟨_, rfl, _, rfl, _, rfl, r, s, by rw [← hsv]; rfl, hr2, by omega, by omega, fun D2 Hf hSf nD2 hD2 => ?_⟩
        refine ⟨D2, rps r s, rfl, .inl (SqL.of hD2), by omega, fun sp3 n3 _ hle3 nsp3 => ⟨sp3, _, n3, rfl, upd_same, by omega, fun M3 mp3 hPw3 hmem3 hMl3 nmp3 => ?_⟩⟩
        have hmemr : ∀ k, k ∈ M3 ↔ k ∈ rps r s := fun k => (hmem3 k).trans (by unfold hasT; exact decide_eq_true_iff)
        have hokP : ∀ z ∈ P', OkT z := fun z hz => (hPm z hz).1
        have hokM : ∀ z ∈ M3, OkT z := fun z hz => (hrps z ((hmemr z).mp hz)).1
        refine ⟨_, _, dp_ls (same_new nmp3 _ _ _ (same_new nsp3 _ _ _ (hSf _ _ (hSe _ _ hpld)))), dp_ls upd_same, shaped_st hokP, shaped_st hokM, ?_⟩
        rw [eqv_s]
        have hb3 : decide (P' = M3) = true ↔ ∀ k, k ∈ rps r s ↔ k ∈ P' := by
          rw [decide_eq_true_iff]
          constructor
          · rintro rfl k
            exact (hmemr k).symm
          · intro h
            exact strict_ext (r := sLt) (fun a => sLt_irr a) (fun _ _ _ => sLt_trans) hPr hPw3 fun k => (h k).symm.trans (hmemr k).symm
        rw [bool_iff hb hb3]
        exact ⟨rfl, bl_true rfl (q _)⟩
def splaw (K : PySem.W.Frag) (_ _ : Addr) : Sp := fun vs H Q _ => ∃ a, ∃ ns : List Int, vs = [.ref a] ∧ SqL K H a (ns.map V.int) ∧ ns.length ≤ 63 ∧ ∀ H', Q (.bl true) H'
theorem oklaw (D : Def K mg "law" slaw ["_law_script"]) (B : Bs mg) (Glb : Glo mg) (WK : WebK K mg C) (PK : PieceK K mg C2)
    (h_law_right : Good P w K mg base "_law_right" s_law_right ["_law_pot_here"] 11 (sp_law_right K C C2))
    (h_law_pot : Good P w K mg base "_law_pot" s_law_pot ["_law_script", "_law_k"] 1 (sp_law_pot K C C2)) :
    Good P w K mg base "law" slaw ["_law_script"] 12 (splaw K C C2) := by
  refine D.good fun f fd F => ?_
  obtain ⟨f_law_right, d_law_right, O_law_right, m_law_right, k_law_right, b_law_right, F_law_right⟩ := h_law_right
  obtain ⟨f_law_pot, d_law_pot, O_law_pot, m_law_pot, k_law_pot, b_law_pot, F_law_pot⟩ := h_law_pot
  refine F.ok sclaw (fun vs H Q E h => ?_) (fun cdv A outer s H vs Q E hr h => ?_)
  · obtain ⟨sa, ns, rfl, hs, h63, q⟩ := h
    first | rfl | (rcases h with ⟨_, _, rfl, _⟩ | ⟨_, rfl, _⟩ <;> rfl)
  obtain ⟨sa, ns, rfl, hs, h63, q⟩ := h
  refine ⟨_, (pss_one (ps_ret (pe_call O_law_right hr rfl m_law_right k_law_right b_law_right .nil pass0 (pa_cons (pe_call O_law_pot (hr.mono (by decide)) rfl m_law_pot k_law_pot b_law_pot .nil pass0 (pa_cons (pv 0) (pa_cons pe_int pa_nil))) pa_nil)))), ?_⟩
  exact ⟨_, rfl, sa, ns, rfl, hs, fun p H1 hp hS np => ⟨p, rfl, hp, q⟩⟩
end
end My
namespace My
open PySem L2 PyProof.Rows
/-! ### the end -/
theorem kit_no {K : PySem.W.Frag} {C : Addr} (h1 : PySem.W.isClsIn K C = true) (h2 : PySem.W.typeIn K (.ref C) = some (.type "type")) (h3 : PySem.W.subIn K (.type "dict") (.ref C) = some false) : PySem.W.kitOne K (.type "dict") (.ref C) = some false := by
  unfold PySem.W.kitOne
  rw [if_neg (by simp)]
  show (if ((PySem.W.clsIn K C).isSome && PySem.W.typeIn K (.ref C) == some (.type "type")) = true then PySem.W.subIn K (.type "dict") (.ref C) else none) = some false
  have h1' : (PySem.W.clsIn K C).isSome = true := h1
  rw [h1', h2, if_pos (by simp)]
  exact h3
theorem fd_is {K : PySem.W.Frag} {x : Str} {st : Stmt} {f : Addr} {fd fe : FuncData} {oc : Value} {od : Option Addr} {sl : Array (Option Value)} (F : Fun K x x st f fd) (l : K.lookup f = some ⟨oc, od, .func fe, sl⟩) : fd = fe := by
  obtain ⟨oc2, od2, kV, doc, pm, an, cdv, ct, osl, e, lk, c⟩ := F.ex
  rw [lk] at l
  have := Option.some.inj l
  injection this with _ _ h3 _
  injection h3
set_option maxHeartbeats 4000000 in
theorem all_mk {l : PySem.W.OpenLaw} {w : World} {K : PySem.W.Frag} {h : Heap} {mg : Str → Option Value} {fa C C2 : Addr} (X : K.In h) (G : h.Ns mainGlobals mg) (hfa : mg "law" = some (.ref fa))
    {fM0 : Addr} {odM0 anM0 : Option Addr} {slM0 : Array (Option Value)} {ocM0 kVM0 dcM0 pmM0 cdM0 ctM0 : Value} {fM1 : Addr} {odM1 anM1 : Option Addr} {slM1 : Array (Option Value)} {ocM1 kVM1 dcM1 pmM1 cdM1 ctM1 : Value} {pM1 : Addr} {rsM1 : List Value} {fM2 : Addr} {odM2 anM2 : Option Addr} {slM2 : Array (Option Value)} {ocM2 kVM2 dcM2 pmM2 cdM2 ctM2 : Value} {pM2 : Addr} {rsM2 : List Value} {fM3 : Addr} {odM3 anM3 : Option Addr} {slM3 : Array (Option Value)} {ocM3 kVM3 dcM3 pmM3 cdM3 ctM3 : Value} {fM4 : Addr} {odM4 anM4 : Option Addr} {slM4 : Array (Option Value)} {ocM4 kVM4 dcM4 pmM4 cdM4 ctM4 : Value} {fM5 : Addr} {odM5 anM5 : Option Addr} {slM5 : Array (Option Value)} {ocM5 kVM5 dcM5 pmM5 cdM5 ctM5 : Value} {pM5 : Addr} {rsM5 : List Value} {fM6 : Addr} {odM6 anM6 : Option Addr} {slM6 : Array (Option Value)} {ocM6 kVM6 dcM6 pmM6 cdM6 ctM6 : Value} {fM7 : Addr} {odM7 anM7 : Option Addr} {slM7 : Array (Option Value)} {ocM7 kVM7 dcM7 pmM7 cdM7 ctM7 : Value} {fM8 : Addr} {odM8 anM8 : Option Addr} {slM8 : Array (Option Value)} {ocM8 kVM8 dcM8 pmM8 cdM8 ctM8 : Value} {fM9 : Addr} {odM9 anM9 : Option Addr} {slM9 : Array (Option Value)} {ocM9 kVM9 dcM9 pmM9 cdM9 ctM9 : Value} {fM10 : Addr} {odM10 anM10 : Option Addr} {slM10 : Array (Option Value)} {ocM10 kVM10 dcM10 pmM10 cdM10 ctM10 : Value} {fM11 : Addr} {odM11 anM11 : Option Addr} {slM11 : Array (Option Value)} {ocM11 kVM11 dcM11 pmM11 cdM11 ctM11 : Value} {f0 : Addr} {od0 an0 : Option Addr} {sl0 : Array (Option Value)} {oc0 kV0 dc0 pm0 cd0 ct0 : Value} {f1 : Addr} {od1 an1 : Option Addr} {sl1 : Array (Option Value)} {oc1 kV1 dc1 pm1 cd1 ct1 : Value} {f2 : Addr} {od2 an2 : Option Addr} {sl2 : Array (Option Value)} {oc2 kV2 dc2 pm2 cd2 ct2 : Value} {f3 : Addr} {od3 an3 : Option Addr} {sl3 : Array (Option Value)} {oc3 kV3 dc3 pm3 cd3 ct3 : Value} {f4 : Addr} {od4 an4 : Option Addr} {sl4 : Array (Option Value)} {oc4 kV4 dc4 pm4 cd4 ct4 : Value} {f5 : Addr} {od5 an5 : Option Addr} {sl5 : Array (Option Value)} {oc5 kV5 dc5 pm5 cd5 ct5 : Value} {f6 : Addr} {od6 an6 : Option Addr} {sl6 : Array (Option Value)} {oc6 kV6 dc6 pm6 cd6 ct6 : Value} {f7 : Addr} {od7 an7 : Option Addr} {sl7 : Array (Option Value)} {oc7 kV7 dc7 pm7 cd7 ct7 : Value} {f8 : Addr} {od8 an8 : Option Addr} {sl8 : Array (Option Value)} {oc8 kV8 dc8 pm8 cd8 ct8 : Value} {f9 : Addr} {od9 an9 : Option Addr} {sl9 : Array (Option Value)} {oc9 kV9 dc9 pm9 cd9 ct9 : Value} {f10 : Addr} {od10 an10 : Option Addr} {sl10 : Array (Option Value)} {oc10 kV10 dc10 pm10 cd10 ct10 : Value} {f11 : Addr} {od11 an11 : Option Addr} {sl11 : Array (Option Value)} {oc11 kV11 dc11 pm11 cd11 ct11 : Value} {f12 : Addr} {od12 an12 : Option Addr} {sl12 : Array (Option Value)} {oc12 kV12 dc12 pm12 cd12 ct12 : Value} {f13 : Addr} {od13 an13 : Option Addr} {sl13 : Array (Option Value)} {oc13 kV13 dc13 pm13 cd13 ct13 : Value} {f14 : Addr} {od14 an14 : Option Addr} {sl14 : Array (Option Value)} {oc14 kV14 dc14 pm14 cd14 ct14 : Value} {f15 : Addr} {od15 an15 : Option Addr} {sl15 : Array (Option Value)} {oc15 kV15 dc15 pm15 cd15 ct15 : Value} {f16 : Addr} {od16 an16 : Option Addr} {sl16 : Array (Option Value)} {oc16 kV16 dc16 pm16 cd16 ct16 : Value} {f17 : Addr} {od17 an17 : Option Addr} {sl17 : Array (Option Value)} {oc17 kV17 dc17 pm17 cd17 ct17 : Value} {f18 : Addr} {od18 an18 : Option Addr} {sl18 : Array (Option Value)} {oc18 kV18 dc18 pm18 cd18 ct18 : Value} {f19 : Addr} {od19 an19 : Option Addr} {sl19 : Array (Option Value)} {oc19 kV19 dc19 pm19 cd19 ct19 : Value} {f20 : Addr} {od20 an20 : Option Addr} {sl20 : Array (Option Value)} {oc20 kV20 dc20 pm20 cd20 ct20 : Value} {f21 : Addr} {od21 an21 : Option Addr} {sl21 : Array (Option Value)} {oc21 kV21 dc21 pm21 cd21 ct21 : Value} {f22 : Addr} {od22 an22 : Option Addr} {sl22 : Array (Option Value)} {oc22 kV22 dc22 pm22 cd22 ct22 : Value} {f23 : Addr} {od23 an23 : Option Addr} {sl23 : Array (Option Value)} {oc23 kV23 dc23 pm23 cd23 ct23 : Value} {f24 : Addr} {od24 an24 : Option Addr} {sl24 : Array (Option Value)} {oc24 kV24 dc24 pm24 cd24 ct24 : Value} {f25 : Addr} {od25 an25 : Option Addr} {sl25 : Array (Option Value)} {oc25 kV25 dc25 pm25 cd25 ct25 : Value} {f26 : Addr} {od26 an26 : Option Addr} {sl26 : Array (Option Value)} {oc26 kV26 dc26 pm26 cd26 ct26 : Value} {f27 : Addr} {od27 an27 : Option Addr} {sl27 : Array (Option Value)} {oc27 kV27 dc27 pm27 cd27 ct27 : Value} {f28 : Addr} {od28 an28 : Option Addr} {sl28 : Array (Option Value)} {oc28 kV28 dc28 pm28 cd28 ct28 : Value} {f29 : Addr} {od29 an29 : Option Addr} {sl29 : Array (Option Value)} {oc29 kV29 dc29 pm29 cd29 ct29 : Value} {f30 : Addr} {od30 an30 : Option Addr} {sl30 : Array (Option Value)} {oc30 kV30 dc30 pm30 cd30 ct30 : Value} {f31 : Addr} {od31 an31 : Option Addr} {sl31 : Array (Option Value)} {oc31 kV31 dc31 pm31 cd31 ct31 : Value} {f32 : Addr} {od32 an32 : Option Addr} {sl32 : Array (Option Value)} {oc32 kV32 dc32 pm32 cd32 ct32 : Value} {f33 : Addr} {od33 an33 : Option Addr} {sl33 : Array (Option Value)} {oc33 kV33 dc33 pm33 cd33 ct33 : Value} {f34 : Addr} {od34 an34 : Option Addr} {sl34 : Array (Option Value)} {oc34 kV34 dc34 pm34 cd34 ct34 : Value} {f35 : Addr} {od35 an35 : Option Addr} {sl35 : Array (Option Value)} {oc35 kV35 dc35 pm35 cd35 ct35 : Value} {f36 : Addr} {od36 an36 : Option Addr} {sl36 : Array (Option Value)} {oc36 kV36 dc36 pm36 cd36 ct36 : Value} {f37 : Addr} {od37 an37 : Option Addr} {sl37 : Array (Option Value)} {oc37 kV37 dc37 pm37 cd37 ct37 : Value} {f38 : Addr} {od38 an38 : Option Addr} {sl38 : Array (Option Value)} {oc38 kV38 dc38 pm38 cd38 ct38 : Value} {f39 : Addr} {od39 an39 : Option Addr} {sl39 : Array (Option Value)} {oc39 kV39 dc39 pm39 cd39 ct39 : Value} {f40 : Addr} {od40 an40 : Option Addr} {sl40 : Array (Option Value)} {oc40 kV40 dc40 pm40 cd40 ct40 : Value} {f41 : Addr} {od41 an41 : Option Addr} {sl41 : Array (Option Value)} {oc41 kV41 dc41 pm41 cd41 ct41 : Value} {f42 : Addr} {od42 an42 : Option Addr} {sl42 : Array (Option Value)} {oc42 kV42 dc42 pm42 cd42 ct42 : Value} {f43 : Addr} {od43 an43 : Option Addr} {sl43 : Array (Option Value)} {oc43 kV43 dc43 pm43 cd43 ct43 : Value} {f44 : Addr} {od44 an44 : Option Addr} {sl44 : Array (Option Value)} {oc44 kV44 dc44 pm44 cd44 ct44 : Value} {f45 : Addr} {od45 an45 : Option Addr} {sl45 : Array (Option Value)} {oc45 kV45 dc45 pm45 cd45 ct45 : Value} {f46 : Addr} {od46 an46 : Option Addr} {sl46 : Array (Option Value)} {oc46 kV46 dc46 pm46 cd46 ct46 : Value} {f47 : Addr} {od47 an47 : Option Addr} {sl47 : Array (Option Value)} {oc47 kV47 dc47 pm47 cd47 ct47 : Value} {f48 : Addr} {od48 an48 : Option Addr} {sl48 : Array (Option Value)} {oc48 kV48 dc48 pm48 cd48 ct48 : Value} {f49 : Addr} {od49 an49 : Option Addr} {sl49 : Array (Option Value)} {oc49 kV49 dc49 pm49 cd49 ct49 : Value} {f50 : Addr} {od50 an50 : Option Addr} {sl50 : Array (Option Value)} {oc50 kV50 dc50 pm50 cd50 ct50 : Value} {f51 : Addr} {od51 an51 : Option Addr} {sl51 : Array (Option Value)} {oc51 kV51 dc51 pm51 cd51 ct51 : Value} {t0 : Tok} {t1 : Tok} {t2 : Tok} {t3 : Tok} {t4 : Tok} {t5 : Tok}
    (aC : PySem.W.nsIn K mainGlobals "Web" = some (some (.ref C)))
    (aC2 : PySem.W.nsIn K mainGlobals "PieceWeb" = some (some (.ref C2)))
    (aM0 : PySem.W.findIn K (.ref C) "__init__" = some (some (.ref fM0))) (iM0 : PySem.W.isFn K (.ref fM0) = true) (lM0 : K.lookup fM0 = some ⟨ocM0, odM0, .func (PySem.W.fnOf "__init__" "Web.__init__" (defArgs sWeb___init__) (defBody sWeb___init__) (defScope sWeb___init__) .none kVM0 dcM0 pmM0 anM0 cdM0 ctM0), slM0⟩) (cM0 : PySem.W.codeIn K cdM0 "Web.__init__" = true) (kM0 : PySem.W.keepIn K (.ref fM0) = true)
    (aM1 : PySem.W.findIn K (.ref C) "places" = some (some (.ref pM1))) (gM1 : PySem.W.specialIn K (.ref pM1) "__get__" = some (some (.builtin "property.__get__"))) (tM1 : PySem.W.takesIn K (.ref pM1) = some true) (rM1 : PySem.W.recIn K pM1 "property" = some (.ref fM1 :: rsM1)) (lM1 : K.lookup fM1 = some ⟨ocM1, odM1, .func (PySem.W.fnOf "places" "Web.places" (defArgs sWeb_places) (defBody sWeb_places) (defScope sWeb_places) .none kVM1 dcM1 pmM1 anM1 cdM1 ctM1), slM1⟩) (cM1 : PySem.W.codeIn K cdM1 "Web.places" = true) (kM1 : PySem.W.keepIn K (.ref fM1) = true)
    (aM2 : PySem.W.findIn K (.ref C) "many" = some (some (.ref pM2))) (gM2 : PySem.W.specialIn K (.ref pM2) "__get__" = some (some (.builtin "property.__get__"))) (tM2 : PySem.W.takesIn K (.ref pM2) = some true) (rM2 : PySem.W.recIn K pM2 "property" = some (.ref fM2 :: rsM2)) (lM2 : K.lookup fM2 = some ⟨ocM2, odM2, .func (PySem.W.fnOf "many" "Web.many" (defArgs sWeb_many) (defBody sWeb_many) (defScope sWeb_many) .none kVM2 dcM2 pmM2 anM2 cdM2 ctM2), slM2⟩) (cM2 : PySem.W.codeIn K cdM2 "Web.many" = true) (kM2 : PySem.W.keepIn K (.ref fM2) = true)
    (aM3 : PySem.W.findIn K (.ref C) "ties" = some (some (.ref fM3))) (iM3 : PySem.W.isFn K (.ref fM3) = true) (lM3 : K.lookup fM3 = some ⟨ocM3, odM3, .func (PySem.W.fnOf "ties" "Web.ties" (defArgs sWeb_ties) (defBody sWeb_ties) (defScope sWeb_ties) .none kVM3 dcM3 pmM3 anM3 cdM3 ctM3), slM3⟩) (cM3 : PySem.W.codeIn K cdM3 "Web.ties" = true) (kM3 : PySem.W.keepIn K (.ref fM3) = true)
    (aM4 : PySem.W.findIn K (.ref C2) "__init__" = some (some (.ref fM4))) (iM4 : PySem.W.isFn K (.ref fM4) = true) (lM4 : K.lookup fM4 = some ⟨ocM4, odM4, .func (PySem.W.fnOf "__init__" "PieceWeb.__init__" (defArgs sPieceWeb___init__) (defBody sPieceWeb___init__) (defScope sPieceWeb___init__) .none kVM4 dcM4 pmM4 anM4 cdM4 ctM4), slM4⟩) (cM4 : PySem.W.codeIn K cdM4 "PieceWeb.__init__" = true) (kM4 : PySem.W.keepIn K (.ref fM4) = true)
    (aM5 : PySem.W.findIn K (.ref C2) "size" = some (some (.ref pM5))) (gM5 : PySem.W.specialIn K (.ref pM5) "__get__" = some (some (.builtin "property.__get__"))) (tM5 : PySem.W.takesIn K (.ref pM5) = some true) (rM5 : PySem.W.recIn K pM5 "property" = some (.ref fM5 :: rsM5)) (lM5 : K.lookup fM5 = some ⟨ocM5, odM5, .func (PySem.W.fnOf "size" "PieceWeb.size" (defArgs sPieceWeb_size) (defBody sPieceWeb_size) (defScope sPieceWeb_size) .none kVM5 dcM5 pmM5 anM5 cdM5 ctM5), slM5⟩) (cM5 : PySem.W.codeIn K cdM5 "PieceWeb.size" = true) (kM5 : PySem.W.keepIn K (.ref fM5) = true)
    (aM6 : PySem.W.findIn K (.ref C2) "web" = some (some (.ref fM6))) (iM6 : PySem.W.isFn K (.ref fM6) = true) (lM6 : K.lookup fM6 = some ⟨ocM6, odM6, .func (PySem.W.fnOf "web" "PieceWeb.web" (defArgs sPieceWeb_web) (defBody sPieceWeb_web) (defScope sPieceWeb_web) .none kVM6 dcM6 pmM6 anM6 cdM6 ctM6), slM6⟩) (cM6 : PySem.W.codeIn K cdM6 "PieceWeb.web" = true) (kM6 : PySem.W.keepIn K (.ref fM6) = true)
    (aM7 : PySem.W.findIn K (.ref C2) "pieces" = some (some (.ref fM7))) (iM7 : PySem.W.isFn K (.ref fM7) = true) (lM7 : K.lookup fM7 = some ⟨ocM7, odM7, .func (PySem.W.fnOf "pieces" "PieceWeb.pieces" (defArgs sPieceWeb_pieces) (defBody sPieceWeb_pieces) (defScope sPieceWeb_pieces) .none kVM7 dcM7 pmM7 anM7 cdM7 ctM7), slM7⟩) (cM7 : PySem.W.codeIn K cdM7 "PieceWeb.pieces" = true) (kM7 : PySem.W.keepIn K (.ref fM7) = true)
    (aM8 : PySem.W.findIn K (.ref C2) "ring_of" = some (some (.ref fM8))) (iM8 : PySem.W.isFn K (.ref fM8) = true) (lM8 : K.lookup fM8 = some ⟨ocM8, odM8, .func (PySem.W.fnOf "ring_of" "PieceWeb.ring_of" (defArgs sPieceWeb_ring_of) (defBody sPieceWeb_ring_of) (defScope sPieceWeb_ring_of) .none kVM8 dcM8 pmM8 anM8 cdM8 ctM8), slM8⟩) (cM8 : PySem.W.codeIn K cdM8 "PieceWeb.ring_of" = true) (kM8 : PySem.W.keepIn K (.ref fM8) = true)
    (aM9 : PySem.W.findIn K (.ref C2) "round_of" = some (some (.ref fM9))) (iM9 : PySem.W.isFn K (.ref fM9) = true) (lM9 : K.lookup fM9 = some ⟨ocM9, odM9, .func (PySem.W.fnOf "round_of" "PieceWeb.round_of" (defArgs sPieceWeb_round_of) (defBody sPieceWeb_round_of) (defScope sPieceWeb_round_of) .none kVM9 dcM9 pmM9 anM9 cdM9 ctM9), slM9⟩) (cM9 : PySem.W.codeIn K cdM9 "PieceWeb.round_of" = true) (kM9 : PySem.W.keepIn K (.ref fM9) = true)
    (aM10 : PySem.W.findIn K (.ref C2) "_letters_of" = some (some (.ref fM10))) (iM10 : PySem.W.isFn K (.ref fM10) = true) (lM10 : K.lookup fM10 = some ⟨ocM10, odM10, .func (PySem.W.fnOf "_letters_of" "PieceWeb._letters_of" (defArgs sPieceWeb__letters_of) (defBody sPieceWeb__letters_of) (defScope sPieceWeb__letters_of) .none kVM10 dcM10 pmM10 anM10 cdM10 ctM10), slM10⟩) (cM10 : PySem.W.codeIn K cdM10 "PieceWeb._letters_of" = true) (kM10 : PySem.W.keepIn K (.ref fM10) = true)
    (aM11 : PySem.W.findIn K (.ref C2) "_ties_along" = some (some (.ref fM11))) (iM11 : PySem.W.isFn K (.ref fM11) = true) (lM11 : K.lookup fM11 = some ⟨ocM11, odM11, .func (PySem.W.fnOf "_ties_along" "PieceWeb._ties_along" (defArgs sPieceWeb__ties_along) (defBody sPieceWeb__ties_along) (defScope sPieceWeb__ties_along) .none kVM11 dcM11 pmM11 anM11 cdM11 ctM11), slM11⟩) (cM11 : PySem.W.codeIn K cdM11 "PieceWeb._ties_along" = true) (kM11 : PySem.W.keepIn K (.ref fM11) = true)
    (a0 : PySem.W.nsIn K mainGlobals "is_integer" = some (some (.ref f0))) (l0 : K.lookup f0 = some ⟨oc0, od0, .func (PySem.W.fnOf "is_integer" "is_integer" (defArgs sis_integer) (defBody sis_integer) (defScope sis_integer) .none kV0 dc0 pm0 an0 cd0 ct0), sl0⟩) (c0 : PySem.W.codeIn K cd0 "is_integer" = true) (k0 : PySem.W.keepIn K (.ref f0) = true)
    (a1 : PySem.W.nsIn K mainGlobals "is_count" = some (some (.ref f1))) (l1 : K.lookup f1 = some ⟨oc1, od1, .func (PySem.W.fnOf "is_count" "is_count" (defArgs sis_count) (defBody sis_count) (defScope sis_count) .none kV1 dc1 pm1 an1 cd1 ct1), sl1⟩) (c1 : PySem.W.codeIn K cd1 "is_count" = true) (k1 : PySem.W.keepIn K (.ref f1) = true)
    (a2 : PySem.W.nsIn K mainGlobals "is_between" = some (some (.ref f2))) (l2 : K.lookup f2 = some ⟨oc2, od2, .func (PySem.W.fnOf "is_between" "is_between" (defArgs sis_between) (defBody sis_between) (defScope sis_between) .none kV2 dc2 pm2 an2 cd2 ct2), sl2⟩) (c2 : PySem.W.codeIn K cd2 "is_between" = true) (k2 : PySem.W.keepIn K (.ref f2) = true)
    (a3 : PySem.W.nsIn K mainGlobals "is_below" = some (some (.ref f3))) (l3 : K.lookup f3 = some ⟨oc3, od3, .func (PySem.W.fnOf "is_below" "is_below" (defArgs sis_below) (defBody sis_below) (defScope sis_below) .none kV3 dc3 pm3 an3 cd3 ct3), sl3⟩) (c3 : PySem.W.codeIn K cd3 "is_below" = true) (k3 : PySem.W.keepIn K (.ref f3) = true)
    (a4 : PySem.W.nsIn K mainGlobals "is_size" = some (some (.ref f4))) (l4 : K.lookup f4 = some ⟨oc4, od4, .func (PySem.W.fnOf "is_size" "is_size" (defArgs sis_size) (defBody sis_size) (defScope sis_size) .none kV4 dc4 pm4 an4 cd4 ct4), sl4⟩) (c4 : PySem.W.codeIn K cd4 "is_size" = true) (k4 : PySem.W.keepIn K (.ref f4) = true)
    (a5 : PySem.W.nsIn K mainGlobals "is_listed" = some (some (.ref f5))) (l5 : K.lookup f5 = some ⟨oc5, od5, .func (PySem.W.fnOf "is_listed" "is_listed" (defArgs sis_listed) (defBody sis_listed) (defScope sis_listed) .none kV5 dc5 pm5 an5 cd5 ct5), sl5⟩) (c5 : PySem.W.codeIn K cd5 "is_listed" = true) (k5 : PySem.W.keepIn K (.ref f5) = true)
    (a6 : PySem.W.nsIn K mainGlobals "is_letter" = some (some (.ref f6))) (l6 : K.lookup f6 = some ⟨oc6, od6, .func (PySem.W.fnOf "is_letter" "is_letter" (defArgs sis_letter) (defBody sis_letter) (defScope sis_letter) .none kV6 dc6 pm6 an6 cd6 ct6), sl6⟩) (c6 : PySem.W.codeIn K cd6 "is_letter" = true) (k6 : PySem.W.keepIn K (.ref f6) = true)
    (a7 : PySem.W.nsIn K mainGlobals "least_start" = some (some (.ref f7))) (l7 : K.lookup f7 = some ⟨oc7, od7, .func (PySem.W.fnOf "least_start" "least_start" (defArgs sleast_start) (defBody sleast_start) (defScope sleast_start) .none kV7 dc7 pm7 an7 cd7 ct7), sl7⟩) (c7 : PySem.W.codeIn K cd7 "least_start" = true) (k7 : PySem.W.keepIn K (.ref f7) = true)
    (a8 : PySem.W.nsIn K mainGlobals "is_text" = some (some (.ref f8))) (l8 : K.lookup f8 = some ⟨oc8, od8, .func (PySem.W.fnOf "is_text" "is_text" (defArgs sis_text) (defBody sis_text) (defScope sis_text) .none kV8 dc8 pm8 an8 cd8 ct8), sl8⟩) (c8 : PySem.W.codeIn K cd8 "is_text" = true) (k8 : PySem.W.keepIn K (.ref f8) = true)
    (a9 : PySem.W.nsIn K mainGlobals "is_ring" = some (some (.ref f9))) (l9 : K.lookup f9 = some ⟨oc9, od9, .func (PySem.W.fnOf "is_ring" "is_ring" (defArgs sis_ring) (defBody sis_ring) (defScope sis_ring) .none kV9 dc9 pm9 an9 cd9 ct9), sl9⟩) (c9 : PySem.W.codeIn K cd9 "is_ring" = true) (k9 : PySem.W.keepIn K (.ref f9) = true)
    (a10 : PySem.W.nsIn K mainGlobals "need_ring" = some (some (.ref f10))) (l10 : K.lookup f10 = some ⟨oc10, od10, .func (PySem.W.fnOf "need_ring" "need_ring" (defArgs sneed_ring) (defBody sneed_ring) (defScope sneed_ring) .none kV10 dc10 pm10 an10 cd10 ct10), sl10⟩) (c10 : PySem.W.codeIn K cd10 "need_ring" = true) (k10 : PySem.W.keepIn K (.ref f10) = true)
    (a11 : PySem.W.nsIn K mainGlobals "_turned_to" = some (some (.ref f11))) (l11 : K.lookup f11 = some ⟨oc11, od11, .func (PySem.W.fnOf "_turned_to" "_turned_to" (defArgs s_turned_to) (defBody s_turned_to) (defScope s_turned_to) .none kV11 dc11 pm11 an11 cd11 ct11), sl11⟩) (c11 : PySem.W.codeIn K cd11 "_turned_to" = true) (k11 : PySem.W.keepIn K (.ref f11) = true)
    (a12 : PySem.W.nsIn K mainGlobals "normal" = some (some (.ref f12))) (l12 : K.lookup f12 = some ⟨oc12, od12, .func (PySem.W.fnOf "normal" "normal" (defArgs snormal) (defBody snormal) (defScope snormal) .none kV12 dc12 pm12 an12 cd12 ct12), sl12⟩) (c12 : PySem.W.codeIn K cd12 "normal" = true) (k12 : PySem.W.keepIn K (.ref f12) = true)
    (a13 : PySem.W.nsIn K mainGlobals "read_on" = some (some (.ref f13))) (l13 : K.lookup f13 = some ⟨oc13, od13, .func (PySem.W.fnOf "read_on" "read_on" (defArgs sread_on) (defBody sread_on) (defScope sread_on) .none kV13 dc13 pm13 an13 cd13 ct13), sl13⟩) (c13 : PySem.W.codeIn K cd13 "read_on" = true) (k13 : PySem.W.keepIn K (.ref f13) = true)
    (a14 : PySem.W.nsIn K mainGlobals "words_of" = some (some (.ref f14))) (l14 : K.lookup f14 = some ⟨oc14, od14, .func (PySem.W.fnOf "words_of" "words_of" (defArgs swords_of) (defBody swords_of) (defScope swords_of) .none kV14 dc14 pm14 an14 cd14 ct14), sl14⟩) (c14 : PySem.W.codeIn K cd14 "words_of" = true) (k14 : PySem.W.keepIn K (.ref f14) = true)
    (a15 : PySem.W.nsIn K mainGlobals "are_pieces" = some (some (.ref f15))) (l15 : K.lookup f15 = some ⟨oc15, od15, .func (PySem.W.fnOf "are_pieces" "are_pieces" (defArgs sare_pieces) (defBody sare_pieces) (defScope sare_pieces) .none kV15 dc15 pm15 an15 cd15 ct15), sl15⟩) (c15 : PySem.W.codeIn K cd15 "are_pieces" = true) (k15 : PySem.W.keepIn K (.ref f15) = true)
    (a16 : PySem.W.nsIn K mainGlobals "need_pieces" = some (some (.ref f16))) (l16 : K.lookup f16 = some ⟨oc16, od16, .func (PySem.W.fnOf "need_pieces" "need_pieces" (defArgs sneed_pieces) (defBody sneed_pieces) (defScope sneed_pieces) .none kV16 dc16 pm16 an16 cd16 ct16), sl16⟩) (c16 : PySem.W.codeIn K cd16 "need_pieces" = true) (k16 : PySem.W.keepIn K (.ref f16) = true)
    (a17 : PySem.W.nsIn K mainGlobals "opened" = some (some (.ref f17))) (l17 : K.lookup f17 = some ⟨oc17, od17, .func (PySem.W.fnOf "opened" "opened" (defArgs sopened) (defBody sopened) (defScope sopened) .none kV17 dc17 pm17 an17 cd17 ct17), sl17⟩) (c17 : PySem.W.codeIn K cd17 "opened" = true) (k17 : PySem.W.keepIn K (.ref f17) = true)
    (a18 : PySem.W.nsIn K mainGlobals "pieces_along" = some (some (.ref f18))) (l18 : K.lookup f18 = some ⟨oc18, od18, .func (PySem.W.fnOf "pieces_along" "pieces_along" (defArgs spieces_along) (defBody spieces_along) (defScope spieces_along) .none kV18 dc18 pm18 an18 cd18 ct18), sl18⟩) (c18 : PySem.W.codeIn K cd18 "pieces_along" = true) (k18 : PySem.W.keepIn K (.ref f18) = true)
    (a19 : PySem.W.nsIn K mainGlobals "has_just" = some (some (.ref f19))) (l19 : K.lookup f19 = some ⟨oc19, od19, .func (PySem.W.fnOf "has_just" "has_just" (defArgs shas_just) (defBody shas_just) (defScope shas_just) .none kV19 dc19 pm19 an19 cd19 ct19), sl19⟩) (c19 : PySem.W.codeIn K cd19 "has_just" = true) (k19 : PySem.W.keepIn K (.ref f19) = true)
    (a20 : PySem.W.nsIn K mainGlobals "are_ties" = some (some (.ref f20))) (l20 : K.lookup f20 = some ⟨oc20, od20, .func (PySem.W.fnOf "are_ties" "are_ties" (defArgs sare_ties) (defBody sare_ties) (defScope sare_ties) .none kV20 dc20 pm20 an20 cd20 ct20), sl20⟩) (c20 : PySem.W.codeIn K cd20 "are_ties" = true) (k20 : PySem.W.keepIn K (.ref f20) = true)
    (a21 : PySem.W.nsIn K mainGlobals "need_web" = some (some (.ref f21))) (l21 : K.lookup f21 = some ⟨oc21, od21, .func (PySem.W.fnOf "need_web" "need_web" (defArgs sneed_web) (defBody sneed_web) (defScope sneed_web) .none kV21 dc21 pm21 an21 cd21 ct21), sl21⟩) (c21 : PySem.W.codeIn K cd21 "need_web" = true) (k21 : PySem.W.keepIn K (.ref f21) = true)
    (a22 : PySem.W.nsIn K mainGlobals "are_numbers" = some (some (.ref f22))) (l22 : K.lookup f22 = some ⟨oc22, od22, .func (PySem.W.fnOf "are_numbers" "are_numbers" (defArgs sare_numbers) (defBody sare_numbers) (defScope sare_numbers) .none kV22 dc22 pm22 an22 cd22 ct22), sl22⟩) (c22 : PySem.W.codeIn K cd22 "are_numbers" = true) (k22 : PySem.W.keepIn K (.ref f22) = true)
    (a23 : PySem.W.nsIn K mainGlobals "_go_on" = some (some (.ref f23))) (l23 : K.lookup f23 = some ⟨oc23, od23, .func (PySem.W.fnOf "_go_on" "_go_on" (defArgs s_go_on) (defBody s_go_on) (defScope s_go_on) .none kV23 dc23 pm23 an23 cd23 ct23), sl23⟩) (c23 : PySem.W.codeIn K cd23 "_go_on" = true) (k23 : PySem.W.keepIn K (.ref f23) = true)
    (a24 : PySem.W.nsIn K mainGlobals "is_round" = some (some (.ref f24))) (l24 : K.lookup f24 = some ⟨oc24, od24, .func (PySem.W.fnOf "is_round" "is_round" (defArgs sis_round) (defBody sis_round) (defScope sis_round) .none kV24 dc24 pm24 an24 cd24 ct24), sl24⟩) (c24 : PySem.W.codeIn K cd24 "is_round" = true) (k24 : PySem.W.keepIn K (.ref f24) = true)
    (a25 : PySem.W.nsIn K mainGlobals "need_tour" = some (some (.ref f25))) (l25 : K.lookup f25 = some ⟨oc25, od25, .func (PySem.W.fnOf "need_tour" "need_tour" (defArgs sneed_tour) (defBody sneed_tour) (defScope sneed_tour) .none kV25 dc25 pm25 an25 cd25 ct25), sl25⟩) (c25 : PySem.W.codeIn K cd25 "need_tour" = true) (k25 : PySem.W.keepIn K (.ref f25) = true)
    (a26 : PySem.W.nsIn K mainGlobals "covers" = some (some (.ref f26))) (l26 : K.lookup f26 = some ⟨oc26, od26, .func (PySem.W.fnOf "covers" "covers" (defArgs scovers) (defBody scovers) (defScope scovers) .none kV26 dc26 pm26 an26 cd26 ct26), sl26⟩) (c26 : PySem.W.codeIn K cd26 "covers" = true) (k26 : PySem.W.keepIn K (.ref f26) = true)
    (a27 : PySem.W.nsIn K mainGlobals "copied_web" = some (some (.ref f27))) (l27 : K.lookup f27 = some ⟨oc27, od27, .func (PySem.W.fnOf "copied_web" "copied_web" (defArgs scopied_web) (defBody scopied_web) (defScope scopied_web) .none kV27 dc27 pm27 an27 cd27 ct27), sl27⟩) (c27 : PySem.W.codeIn K cd27 "copied_web" = true) (k27 : PySem.W.keepIn K (.ref f27) = true)
    (a28 : PySem.W.nsIn K mainGlobals "web_steps" = some (some (.ref f28))) (l28 : K.lookup f28 = some ⟨oc28, od28, .func (PySem.W.fnOf "web_steps" "web_steps" (defArgs sweb_steps) (defBody sweb_steps) (defScope sweb_steps) .none kV28 dc28 pm28 an28 cd28 ct28), sl28⟩) (c28 : PySem.W.codeIn K cd28 "web_steps" = true) (k28 : PySem.W.keepIn K (.ref f28) = true)
    (a29 : PySem.W.nsIn K mainGlobals "_web_of" = some (some (.ref f29))) (l29 : K.lookup f29 = some ⟨oc29, od29, .func (PySem.W.fnOf "_web_of" "_web_of" (defArgs s_web_of) (defBody s_web_of) (defScope s_web_of) .none kV29 dc29 pm29 an29 cd29 ct29), sl29⟩) (c29 : PySem.W.codeIn K cd29 "_web_of" = true) (k29 : PySem.W.keepIn K (.ref f29) = true)
    (a30 : PySem.W.nsIn K mainGlobals "_need_letters" = some (some (.ref f30))) (l30 : K.lookup f30 = some ⟨oc30, od30, .func (PySem.W.fnOf "_need_letters" "_need_letters" (defArgs s_need_letters) (defBody s_need_letters) (defScope s_need_letters) .none kV30 dc30 pm30 an30 cd30 ct30), sl30⟩) (c30 : PySem.W.codeIn K cd30 "_need_letters" = true) (k30 : PySem.W.keepIn K (.ref f30) = true)
    (a31 : PySem.W.nsIn K mainGlobals "need_pieceweb" = some (some (.ref f31))) (l31 : K.lookup f31 = some ⟨oc31, od31, .func (PySem.W.fnOf "need_pieceweb" "need_pieceweb" (defArgs sneed_pieceweb) (defBody sneed_pieceweb) (defScope sneed_pieceweb) .none kV31 dc31 pm31 an31 cd31 ct31), sl31⟩) (c31 : PySem.W.codeIn K cd31 "need_pieceweb" = true) (k31 : PySem.W.keepIn K (.ref f31) = true)
    (a32 : PySem.W.nsIn K mainGlobals "explains" = some (some (.ref f32))) (l32 : K.lookup f32 = some ⟨oc32, od32, .func (PySem.W.fnOf "explains" "explains" (defArgs sexplains) (defBody sexplains) (defScope sexplains) .none kV32 dc32 pm32 an32 cd32 ct32), sl32⟩) (c32 : PySem.W.codeIn K cd32 "explains" = true) (k32 : PySem.W.keepIn K (.ref f32) = true)
    (a33 : PySem.W.nsIn K mainGlobals "parts_in_turn" = some (some (.ref f33))) (l33 : K.lookup f33 = some ⟨oc33, od33, .func (PySem.W.fnOf "parts_in_turn" "parts_in_turn" (defArgs sparts_in_turn) (defBody sparts_in_turn) (defScope sparts_in_turn) .none kV33 dc33 pm33 an33 cd33 ct33), sl33⟩) (c33 : PySem.W.codeIn K cd33 "parts_in_turn" = true) (k33 : PySem.W.keepIn K (.ref f33) = true)
    (a34 : PySem.W.nsIn K mainGlobals "_left_from" = some (some (.ref f34))) (l34 : K.lookup f34 = some ⟨oc34, od34, .func (PySem.W.fnOf "_left_from" "_left_from" (defArgs s_left_from) (defBody s_left_from) (defScope s_left_from) .none kV34 dc34 pm34 an34 cd34 ct34), sl34⟩) (c34 : PySem.W.codeIn K cd34 "_left_from" = true) (k34 : PySem.W.keepIn K (.ref f34) = true)
    (a35 : PySem.W.nsIn K mainGlobals "parts_of" = some (some (.ref f35))) (l35 : K.lookup f35 = some ⟨oc35, od35, .func (PySem.W.fnOf "parts_of" "parts_of" (defArgs sparts_of) (defBody sparts_of) (defScope sparts_of) .none kV35 dc35 pm35 an35 cd35 ct35), sl35⟩) (c35 : PySem.W.codeIn K cd35 "parts_of" = true) (k35 : PySem.W.keepIn K (.ref f35) = true)
    (a36 : PySem.W.nsIn K mainGlobals "is_close" = some (some (.ref f36))) (l36 : K.lookup f36 = some ⟨oc36, od36, .func (PySem.W.fnOf "is_close" "is_close" (defArgs sis_close) (defBody sis_close) (defScope sis_close) .none kV36 dc36 pm36 an36 cd36 ct36), sl36⟩) (c36 : PySem.W.codeIn K cd36 "is_close" = true) (k36 : PySem.W.keepIn K (.ref f36) = true)
    (a37 : PySem.W.nsIn K mainGlobals "_law_pot" = some (some (.ref f37))) (l37 : K.lookup f37 = some ⟨oc37, od37, .func (PySem.W.fnOf "_law_pot" "_law_pot" (defArgs s_law_pot) (defBody s_law_pot) (defScope s_law_pot) .none kV37 dc37 pm37 an37 cd37 ct37), sl37⟩) (c37 : PySem.W.codeIn K cd37 "_law_pot" = true) (k37 : PySem.W.keepIn K (.ref f37) = true)
    (a38 : PySem.W.nsIn K mainGlobals "_law_draw" = some (some (.ref f38))) (l38 : K.lookup f38 = some ⟨oc38, od38, .func (PySem.W.fnOf "_law_draw" "_law_draw" (defArgs s_law_draw) (defBody s_law_draw) (defScope s_law_draw) .none kV38 dc38 pm38 an38 cd38 ct38), sl38⟩) (c38 : PySem.W.codeIn K cd38 "_law_draw" = true) (k38 : PySem.W.keepIn K (.ref f38) = true)
    (a39 : PySem.W.nsIn K mainGlobals "_law_pick" = some (some (.ref f39))) (l39 : K.lookup f39 = some ⟨oc39, od39, .func (PySem.W.fnOf "_law_pick" "_law_pick" (defArgs s_law_pick) (defBody s_law_pick) (defScope s_law_pick) .none kV39 dc39 pm39 an39 cd39 ct39), sl39⟩) (c39 : PySem.W.codeIn K cd39 "_law_pick" = true) (k39 : PySem.W.keepIn K (.ref f39) = true)
    (a40 : PySem.W.nsIn K mainGlobals "_law_pieces_drawn" = some (some (.ref f40))) (l40 : K.lookup f40 = some ⟨oc40, od40, .func (PySem.W.fnOf "_law_pieces_drawn" "_law_pieces_drawn" (defArgs s_law_pieces_drawn) (defBody s_law_pieces_drawn) (defScope s_law_pieces_drawn) .none kV40 dc40 pm40 an40 cd40 ct40), sl40⟩) (c40 : PySem.W.codeIn K cd40 "_law_pieces_drawn" = true) (k40 : PySem.W.keepIn K (.ref f40) = true)
    (a41 : PySem.W.nsIn K mainGlobals "_law_words" = some (some (.ref f41))) (l41 : K.lookup f41 = some ⟨oc41, od41, .func (PySem.W.fnOf "_law_words" "_law_words" (defArgs s_law_words) (defBody s_law_words) (defScope s_law_words) .none kV41 dc41 pm41 an41 cd41 ct41), sl41⟩) (c41 : PySem.W.codeIn K cd41 "_law_words" = true) (k41 : PySem.W.keepIn K (.ref f41) = true)
    (a42 : PySem.W.nsIn K mainGlobals "_law_ties" = some (some (.ref f42))) (l42 : K.lookup f42 = some ⟨oc42, od42, .func (PySem.W.fnOf "_law_ties" "_law_ties" (defArgs s_law_ties) (defBody s_law_ties) (defScope s_law_ties) .none kV42 dc42 pm42 an42 cd42 ct42), sl42⟩) (c42 : PySem.W.codeIn K cd42 "_law_ties" = true) (k42 : PySem.W.keepIn K (.ref f42) = true)
    (a43 : PySem.W.nsIn K mainGlobals "_law_turnings" = some (some (.ref f43))) (l43 : K.lookup f43 = some ⟨oc43, od43, .func (PySem.W.fnOf "_law_turnings" "_law_turnings" (defArgs s_law_turnings) (defBody s_law_turnings) (defScope s_law_turnings) .none kV43 dc43 pm43 an43 cd43 ct43), sl43⟩) (c43 : PySem.W.codeIn K cd43 "_law_turnings" = true) (k43 : PySem.W.keepIn K (.ref f43) = true)
    (a44 : PySem.W.nsIn K mainGlobals "_law_read" = some (some (.ref f44))) (l44 : K.lookup f44 = some ⟨oc44, od44, .func (PySem.W.fnOf "_law_read" "_law_read" (defArgs s_law_read) (defBody s_law_read) (defScope s_law_read) .none kV44 dc44 pm44 an44 cd44 ct44), sl44⟩) (c44 : PySem.W.codeIn K cd44 "_law_read" = true) (k44 : PySem.W.keepIn K (.ref f44) = true)
    (a45 : PySem.W.nsIn K mainGlobals "_law_ring" = some (some (.ref f45))) (l45 : K.lookup f45 = some ⟨oc45, od45, .func (PySem.W.fnOf "_law_ring" "_law_ring" (defArgs s_law_ring) (defBody s_law_ring) (defScope s_law_ring) .none kV45 dc45 pm45 an45 cd45 ct45), sl45⟩) (c45 : PySem.W.codeIn K cd45 "_law_ring" = true) (k45 : PySem.W.keepIn K (.ref f45) = true)
    (a46 : PySem.W.nsIn K mainGlobals "_law_rings" = some (some (.ref f46))) (l46 : K.lookup f46 = some ⟨oc46, od46, .func (PySem.W.fnOf "_law_rings" "_law_rings" (defArgs s_law_rings) (defBody s_law_rings) (defScope s_law_rings) .none kV46 dc46 pm46 an46 cd46 ct46), sl46⟩) (c46 : PySem.W.codeIn K cd46 "_law_rings" = true) (k46 : PySem.W.keepIn K (.ref f46) = true)
    (a47 : PySem.W.nsIn K mainGlobals "_law_round" = some (some (.ref f47))) (l47 : K.lookup f47 = some ⟨oc47, od47, .func (PySem.W.fnOf "_law_round" "_law_round" (defArgs s_law_round) (defBody s_law_round) (defScope s_law_round) .none kV47 dc47 pm47 an47 cd47 ct47), sl47⟩) (c47 : PySem.W.codeIn K cd47 "_law_round" = true) (k47 : PySem.W.keepIn K (.ref f47) = true)
    (a48 : PySem.W.nsIn K mainGlobals "_law_is_close" = some (some (.ref f48))) (l48 : K.lookup f48 = some ⟨oc48, od48, .func (PySem.W.fnOf "_law_is_close" "_law_is_close" (defArgs s_law_is_close) (defBody s_law_is_close) (defScope s_law_is_close) .none kV48 dc48 pm48 an48 cd48 ct48), sl48⟩) (c48 : PySem.W.codeIn K cd48 "_law_is_close" = true) (k48 : PySem.W.keepIn K (.ref f48) = true)
    (a49 : PySem.W.nsIn K mainGlobals "_law_one_right" = some (some (.ref f49))) (l49 : K.lookup f49 = some ⟨oc49, od49, .func (PySem.W.fnOf "_law_one_right" "_law_one_right" (defArgs s_law_one_right) (defBody s_law_one_right) (defScope s_law_one_right) .none kV49 dc49 pm49 an49 cd49 ct49), sl49⟩) (c49 : PySem.W.codeIn K cd49 "_law_one_right" = true) (k49 : PySem.W.keepIn K (.ref f49) = true)
    (a50 : PySem.W.nsIn K mainGlobals "_law_right" = some (some (.ref f50))) (l50 : K.lookup f50 = some ⟨oc50, od50, .func (PySem.W.fnOf "_law_right" "_law_right" (defArgs s_law_right) (defBody s_law_right) (defScope s_law_right) .none kV50 dc50 pm50 an50 cd50 ct50), sl50⟩) (c50 : PySem.W.codeIn K cd50 "_law_right" = true) (k50 : PySem.W.keepIn K (.ref f50) = true)
    (a51 : PySem.W.nsIn K mainGlobals "law" = some (some (.ref f51))) (l51 : K.lookup f51 = some ⟨oc51, od51, .func (PySem.W.fnOf "law" "law" (defArgs slaw) (defBody slaw) (defScope slaw) .none kV51 dc51 pm51 an51 cd51 ct51), sl51⟩) (c51 : PySem.W.codeIn K cd51 "law" = true) (k51 : PySem.W.keepIn K (.ref f51) = true)
    (pgC : PySem.W.plainGet K C Str.empty = true) (hdC : PySem.W.hasDictIn K C = true) (poC : PySem.W.plainOver K C = true) (saC : PySem.W.findIn K (.ref C) "__setattr__" = some (some (.builtin "object.__setattr__"))) (mkC : PySem.W.makesIn K C = true) (kcC : PySem.W.keepIn K (.ref C) = true)
    (n0C : PySem.W.findIn K (.ref C) "_places" = some none)
    (n1C : PySem.W.findIn K (.ref C) "_ties" = some none)
    (n2C : PySem.W.findIn K (.ref C) "_ties_from" = some none)
    (n3C : PySem.W.findIn K (.ref C) "_ties_to" = some none)
    (q1C : PySem.W.findIn K (.ref C) "__class__" = some (some (.builtin "object.__class__"))) (q2C : PySem.W.specialIn K (.builtin "object.__class__") "__get__" = some (some (.builtin "getset_descriptor.__get__"))) (q3C : PySem.W.takesIn K (.builtin "object.__class__") = some true) (q4C : PySem.W.mroIn K C (.type "object") = some true)
    (w1C : PySem.W.findIn K (.ref C) "__ne__" = some (some (.builtin "object.__ne__")))
    (pgC2 : PySem.W.plainGet K C2 Str.empty = true) (hdC2 : PySem.W.hasDictIn K C2 = true) (poC2 : PySem.W.plainOver K C2 = true) (saC2 : PySem.W.findIn K (.ref C2) "__setattr__" = some (some (.builtin "object.__setattr__"))) (mkC2 : PySem.W.makesIn K C2 = true) (kcC2 : PySem.W.keepIn K (.ref C2) = true)
    (n0C2 : PySem.W.findIn K (.ref C2) "_pieces" = some none)
    (n1C2 : PySem.W.findIn K (.ref C2) "_words" = some none)
    (n2C2 : PySem.W.findIn K (.ref C2) "_web" = some none)
    (q1C2 : PySem.W.findIn K (.ref C2) "__class__" = some (some (.builtin "object.__class__"))) (q2C2 : PySem.W.specialIn K (.builtin "object.__class__") "__get__" = some (some (.builtin "getset_descriptor.__get__"))) (q3C2 : PySem.W.takesIn K (.builtin "object.__class__") = some true) (q4C2 : PySem.W.mroIn K C2 (.type "object") = some true)
    (w1C2 : PySem.W.findIn K (.ref C2) "__ne__" = some (some (.builtin "object.__ne__")))
    (w2C2 : PySem.W.notFirst K C2 (.type "list") = true) (w3C2 : PySem.W.isClsIn K C2 = true) (w4C2 : PySem.W.typeIn K (.ref C2) = some (.type "type")) (w5C2 : PySem.W.subIn K (.type "list") (.ref C2) = some false)
    (z0 : PySem.W.nsIn K mainGlobals "isinstance" = some none)
    (z1 : PySem.W.nsIn K mainGlobals "int" = some none)
    (z2 : PySem.W.nsIn K mainGlobals "bool" = some none)
    (z3 : PySem.W.nsIn K mainGlobals "str" = some none)
    (z4 : PySem.W.nsIn K mainGlobals "list" = some none)
    (z5 : PySem.W.nsIn K mainGlobals "tuple" = some none)
    (z6 : PySem.W.nsIn K mainGlobals "len" = some none)
    (z7 : PySem.W.nsIn K mainGlobals "range" = some none)
    (z8 : PySem.W.nsIn K mainGlobals "abs" = some none)
    (z9 : PySem.W.nsIn K mainGlobals "max" = some none)
    (z10 : PySem.W.nsIn K mainGlobals "min" = some none)
    (z11 : PySem.W.nsIn K mainGlobals "divmod" = some none)
    (z12 : PySem.W.nsIn K mainGlobals "enumerate" = some none)
    (z13 : PySem.W.nsIn K mainGlobals "all" = some none)
    (z14 : PySem.W.nsIn K mainGlobals "sorted" = some none)
    (z15 : PySem.W.nsIn K mainGlobals "set" = some none)
    (z16 : PySem.W.nsIn K mainGlobals "repr" = some none)
    (y0 : PySem.W.nsIn K mainGlobals "MOST_PLACES" = some (some (.int 60 t0)))
    (y1 : PySem.W.nsIn K mainGlobals "MOST_TIES" = some (some (.int 80 t1)))
    (y2 : PySem.W.nsIn K mainGlobals "LONGEST_ROUND" = some (some (.int 200000 t2)))
    (y3 : PySem.W.nsIn K mainGlobals "MOST_LETTERS" = some (some (.int 400 t3)))
    (y4 : PySem.W.nsIn K mainGlobals "MOST_PIECES" = some (some (.int 80 t4)))
    (y5 : PySem.W.nsIn K mainGlobals "MOST_WORDS" = some (some (.int 60 t5)))
    : ∃ fd : FuncData, (∀ (s : Shared) (v : Value), BindsTo s fd ⟨[v], []⟩ [("_law_script", v)]) ∧ ∀ base : Heap, K.In base → base.Ns mainGlobals mg → FnOk l.prog w K mg base CX0 12 fa fd ["_law_script"] (splaw K 0 0) := by
  have e := hfa.symm.trans (PySem.W.mg_of X G a51)
  cases e
  have B : Bs mg := ⟨PySem.W.mg_none_of X G z0, PySem.W.mg_none_of X G z1, PySem.W.mg_none_of X G z2, PySem.W.mg_none_of X G z3, PySem.W.mg_none_of X G z4, PySem.W.mg_none_of X G z5, PySem.W.mg_none_of X G z6, PySem.W.mg_none_of X G z7, PySem.W.mg_none_of X G z8, PySem.W.mg_none_of X G z9, PySem.W.mg_none_of X G z10, PySem.W.mg_none_of X G z11, PySem.W.mg_none_of X G z12, PySem.W.mg_none_of X G z13, PySem.W.mg_none_of X G z14, PySem.W.mg_none_of X G z15, PySem.W.mg_none_of X G z16⟩
  have Glb : Glo mg := ⟨⟨t0, PySem.W.mg_of X G y0⟩, ⟨t1, PySem.W.mg_of X G y1⟩, ⟨t2, PySem.W.mg_of X G y2⟩, ⟨t3, PySem.W.mg_of X G y3⟩, ⟨t4, PySem.W.mg_of X G y4⟩, ⟨t5, PySem.W.mg_of X G y5⟩⟩
  have WK : WebK K mg C := ⟨⟨pgC, hdC, poC, saC⟩, n0C, n1C, n2C, n3C, PySem.W.mg_of X G aC, q1C, q2C, q3C, q4C, (by unfold PySem.W.kitOne; exact if_pos (beq_self_eq_true _)), w1C⟩
  have PK : PieceK K mg C2 := ⟨⟨pgC2, hdC2, poC2, saC2⟩, n0C2, n1C2, n2C2, PySem.W.mg_of X G aC2, q1C2, q2C2, q3C2, q4C2, (by unfold PySem.W.kitOne; exact if_pos (beq_self_eq_true _)), w1C2, w2C2, kit_noL w3C2 w4C2 w5C2⟩
  have DWeb___init__ : DefI K C "__init__" "Web.__init__" sWeb___init__ ["self", "places", "ties"] := ⟨fM0, _, fun_mk (st := sWeb___init__) lM0 cM0 kM0, ⟨mkC, aM0, iM0, kcC⟩, (fun_mk (st := sWeb___init__) lM0 cM0 kM0).binds (ps := ["self", "places", "ties"]) fun _ _ _ _ _ _ us hl => match us, hl with | [_, _, _], _ => rfl⟩
  have DWeb_places : DefP K C "places" "Web.places" sWeb_places ["self"] := ⟨pM1, fM1, _, fun_mk (st := sWeb_places) lM1 cM1 kM1, ⟨aM1, gM1, tM1, _, rM1⟩, (fun_mk (st := sWeb_places) lM1 cM1 kM1).binds (ps := ["self"]) fun _ _ _ _ _ _ us hl => match us, hl with | [_], _ => rfl⟩
  have DWeb_many : DefP K C "many" "Web.many" sWeb_many ["self"] := ⟨pM2, fM2, _, fun_mk (st := sWeb_many) lM2 cM2 kM2, ⟨aM2, gM2, tM2, _, rM2⟩, (fun_mk (st := sWeb_many) lM2 cM2 kM2).binds (ps := ["self"]) fun _ _ _ _ _ _ us hl => match us, hl with | [_], _ => rfl⟩
  have DWeb_ties : DefM K C "ties" "Web.ties" sWeb_ties ["self"] := ⟨fM3, _, fun_mk (st := sWeb_ties) lM3 cM3 kM3, ⟨aM3, iM3, kM3⟩, (fun_mk (st := sWeb_ties) lM3 cM3 kM3).binds (ps := ["self"]) fun _ _ _ _ _ _ us hl => match us, hl with | [_], _ => rfl⟩
  have DPieceWeb___init__ : DefI K C2 "__init__" "PieceWeb.__init__" sPieceWeb___init__ ["self", "pieces"] := ⟨fM4, _, fun_mk (st := sPieceWeb___init__) lM4 cM4 kM4, ⟨mkC2, aM4, iM4, kcC2⟩, (fun_mk (st := sPieceWeb___init__) lM4 cM4 kM4).binds (ps := ["self", "pieces"]) fun _ _ _ _ _ _ us hl => match us, hl with | [_, _], _ => rfl⟩
  have DPieceWeb_size : DefP K C2 "size" "PieceWeb.size" sPieceWeb_size ["self"] := ⟨pM5, fM5, _, fun_mk (st := sPieceWeb_size) lM5 cM5 kM5, ⟨aM5, gM5, tM5, _, rM5⟩, (fun_mk (st := sPieceWeb_size) lM5 cM5 kM5).binds (ps := ["self"]) fun _ _ _ _ _ _ us hl => match us, hl with | [_], _ => rfl⟩
  have DPieceWeb_web : DefM K C2 "web" "PieceWeb.web" sPieceWeb_web ["self"] := ⟨fM6, _, fun_mk (st := sPieceWeb_web) lM6 cM6 kM6, ⟨aM6, iM6, kM6⟩, (fun_mk (st := sPieceWeb_web) lM6 cM6 kM6).binds (ps := ["self"]) fun _ _ _ _ _ _ us hl => match us, hl with | [_], _ => rfl⟩
  have DPieceWeb_pieces : DefM K C2 "pieces" "PieceWeb.pieces" sPieceWeb_pieces ["self"] := ⟨fM7, _, fun_mk (st := sPieceWeb_pieces) lM7 cM7 kM7, ⟨aM7, iM7, kM7⟩, (fun_mk (st := sPieceWeb_pieces) lM7 cM7 kM7).binds (ps := ["self"]) fun _ _ _ _ _ _ us hl => match us, hl with | [_], _ => rfl⟩
  have DPieceWeb_ring_of : DefM K C2 "ring_of" "PieceWeb.ring_of" sPieceWeb_ring_of ["self", "tour"] := ⟨fM8, _, fun_mk (st := sPieceWeb_ring_of) lM8 cM8 kM8, ⟨aM8, iM8, kM8⟩, (fun_mk (st := sPieceWeb_ring_of) lM8 cM8 kM8).binds (ps := ["self", "tour"]) fun _ _ _ _ _ _ us hl => match us, hl with | [_, _], _ => rfl⟩
  have DPieceWeb_round_of : DefM K C2 "round_of" "PieceWeb.round_of" sPieceWeb_round_of ["self", "ring"] := ⟨fM9, _, fun_mk (st := sPieceWeb_round_of) lM9 cM9 kM9, ⟨aM9, iM9, kM9⟩, (fun_mk (st := sPieceWeb_round_of) lM9 cM9 kM9).binds (ps := ["self", "ring"]) fun _ _ _ _ _ _ us hl => match us, hl with | [_, _], _ => rfl⟩
  have DPieceWeb__letters_of : DefM K C2 "_letters_of" "PieceWeb._letters_of" sPieceWeb__letters_of ["self", "ties"] := ⟨fM10, _, fun_mk (st := sPieceWeb__letters_of) lM10 cM10 kM10, ⟨aM10, iM10, kM10⟩, (fun_mk (st := sPieceWeb__letters_of) lM10 cM10 kM10).binds (ps := ["self", "ties"]) fun _ _ _ _ _ _ us hl => match us, hl with | [_, _], _ => rfl⟩
  have DPieceWeb__ties_along : DefM K C2 "_ties_along" "PieceWeb._ties_along" sPieceWeb__ties_along ["self", "text"] := ⟨fM11, _, fun_mk (st := sPieceWeb__ties_along) lM11 cM11 kM11, ⟨aM11, iM11, kM11⟩, (fun_mk (st := sPieceWeb__ties_along) lM11 cM11 kM11).binds (ps := ["self", "text"]) fun _ _ _ _ _ _ us hl => match us, hl with | [_, _], _ => rfl⟩
  have Dis_integer : Def K mg "is_integer" sis_integer ["value"] := def_mk X G a0 l0 c0 k0 fun _ _ _ _ _ _ us hl => match us, hl with | [_], _ => rfl
  have Dis_count : Def K mg "is_count" sis_count ["value"] := def_mk X G a1 l1 c1 k1 fun _ _ _ _ _ _ us hl => match us, hl with | [_], _ => rfl
  have Dis_between : Def K mg "is_between" sis_between ["value", "least", "most"] := def_mk X G a2 l2 c2 k2 fun _ _ _ _ _ _ us hl => match us, hl with | [_, _, _], _ => rfl
  have Dis_below : Def K mg "is_below" sis_below ["value", "limit"] := def_mk X G a3 l3 c3 k3 fun _ _ _ _ _ _ us hl => match us, hl with | [_, _], _ => rfl
  have Dis_size : Def K mg "is_size" sis_size ["value"] := def_mk X G a4 l4 c4 k4 fun _ _ _ _ _ _ us hl => match us, hl with | [_], _ => rfl
  have Dis_listed : Def K mg "is_listed" sis_listed ["value"] := def_mk X G a5 l5 c5 k5 fun _ _ _ _ _ _ us hl => match us, hl with | [_], _ => rfl
  have Dis_letter : Def K mg "is_letter" sis_letter ["sign"] := def_mk X G a6 l6 c6 k6 fun _ _ _ _ _ _ us hl => match us, hl with | [_], _ => rfl
  have Dleast_start : Def K mg "least_start" sleast_start ["cycle"] := def_mk X G a7 l7 c7 k7 fun _ _ _ _ _ _ us hl => match us, hl with | [_], _ => rfl
  have Dis_text : Def K mg "is_text" sis_text ["value"] := def_mk X G a8 l8 c8 k8 fun _ _ _ _ _ _ us hl => match us, hl with | [_], _ => rfl
  have Dis_ring : Def K mg "is_ring" sis_ring ["value"] := def_mk X G a9 l9 c9 k9 fun _ _ _ _ _ _ us hl => match us, hl with | [_], _ => rfl
  have Dneed_ring : Def K mg "need_ring" sneed_ring ["ring"] := def_mk X G a10 l10 c10 k10 fun _ _ _ _ _ _ us hl => match us, hl with | [_], _ => rfl
  have D_turned_to : Def K mg "_turned_to" s_turned_to ["ring", "place"] := def_mk X G a11 l11 c11 k11 fun _ _ _ _ _ _ us hl => match us, hl with | [_, _], _ => rfl
  have Dnormal : Def K mg "normal" snormal ["ring"] := def_mk X G a12 l12 c12 k12 fun _ _ _ _ _ _ us hl => match us, hl with | [_], _ => rfl
  have Dread_on : Def K mg "read_on" sread_on ["ring", "place", "many"] := def_mk X G a13 l13 c13 k13 fun _ _ _ _ _ _ us hl => match us, hl with | [_, _, _], _ => rfl
  have Dwords_of : Def K mg "words_of" swords_of ["pieces"] := def_mk X G a14 l14 c14 k14 fun _ _ _ _ _ _ us hl => match us, hl with | [_], _ => rfl
  have Dare_pieces : Def K mg "are_pieces" sare_pieces ["value"] := def_mk X G a15 l15 c15 k15 fun _ _ _ _ _ _ us hl => match us, hl with | [_], _ => rfl
  have Dneed_pieces : Def K mg "need_pieces" sneed_pieces ["pieces"] := def_mk X G a16 l16 c16 k16 fun _ _ _ _ _ _ us hl => match us, hl with | [_], _ => rfl
  have Dopened : Def K mg "opened" sopened ["ring", "size", "place"] := def_mk X G a17 l17 c17 k17 fun _ _ _ _ _ _ us hl => match us, hl with | [_, _, _], _ => rfl
  have Dpieces_along : Def K mg "pieces_along" spieces_along ["text", "size"] := def_mk X G a18 l18 c18 k18 fun _ _ _ _ _ _ us hl => match us, hl with | [_, _], _ => rfl
  have Dhas_just : Def K mg "has_just" shas_just ["ring", "pieces"] := def_mk X G a19 l19 c19 k19 fun _ _ _ _ _ _ us hl => match us, hl with | [_, _], _ => rfl
  have Dare_ties : Def K mg "are_ties" sare_ties ["places", "value"] := def_mk X G a20 l20 c20 k20 fun _ _ _ _ _ _ us hl => match us, hl with | [_, _], _ => rfl
  have Dneed_web : Def K mg "need_web" sneed_web ["web"] := def_mk X G a21 l21 c21 k21 fun _ _ _ _ _ _ us hl => match us, hl with | [_], _ => rfl
  have Dare_numbers : Def K mg "are_numbers" sare_numbers ["web", "value"] := def_mk X G a22 l22 c22 k22 fun _ _ _ _ _ _ us hl => match us, hl with | [_, _], _ => rfl
  have D_go_on : Def K mg "_go_on" s_go_on ["web", "value", "longest"] := def_mk X G a23 l23 c23 k23 fun _ _ _ _ _ _ us hl => match us, hl with | [_, _, _], _ => rfl
  have Dis_round : Def K mg "is_round" sis_round ["web", "value"] := def_mk X G a24 l24 c24 k24 fun _ _ _ _ _ _ us hl => match us, hl with | [_, _], _ => rfl
  have Dneed_tour : Def K mg "need_tour" sneed_tour ["web", "tour"] := def_mk X G a25 l25 c25 k25 fun _ _ _ _ _ _ us hl => match us, hl with | [_, _], _ => rfl
  have Dcovers : Def K mg "covers" scovers ["web", "tour"] := def_mk X G a26 l26 c26 k26 fun _ _ _ _ _ _ us hl => match us, hl with | [_, _], _ => rfl
  have Dcopied_web : Def K mg "copied_web" scopied_web ["web"] := def_mk X G a27 l27 c27 k27 fun _ _ _ _ _ _ us hl => match us, hl with | [_], _ => rfl
  have Dweb_steps : Def K mg "web_steps" sweb_steps ["web"] := def_mk X G a28 l28 c28 k28 fun _ _ _ _ _ _ us hl => match us, hl with | [_], _ => rfl
  have D_web_of : Def K mg "_web_of" s_web_of ["words", "pieces"] := def_mk X G a29 l29 c29 k29 fun _ _ _ _ _ _ us hl => match us, hl with | [_, _], _ => rfl
  have D_need_letters : Def K mg "_need_letters" s_need_letters ["many"] := def_mk X G a30 l30 c30 k30 fun _ _ _ _ _ _ us hl => match us, hl with | [_], _ => rfl
  have Dneed_pieceweb : Def K mg "need_pieceweb" sneed_pieceweb ["pieceweb"] := def_mk X G a31 l31 c31 k31 fun _ _ _ _ _ _ us hl => match us, hl with | [_], _ => rfl
  have Dexplains : Def K mg "explains" sexplains ["pieceweb", "ring"] := def_mk X G a32 l32 c32 k32 fun _ _ _ _ _ _ us hl => match us, hl with | [_, _], _ => rfl
  have Dparts_in_turn : Def K mg "parts_in_turn" sparts_in_turn ["points", "steps"] := def_mk X G a33 l33 c33 k33 fun _ _ _ _ _ _ us hl => match us, hl with | [_, _], _ => rfl
  have D_left_from : Def K mg "_left_from" s_left_from ["ends", "point", "seen"] := def_mk X G a34 l34 c34 k34 fun _ _ _ _ _ _ us hl => match us, hl with | [_, _, _], _ => rfl
  have Dparts_of : Def K mg "parts_of" sparts_of ["web"] := def_mk X G a35 l35 c35 k35 fun _ _ _ _ _ _ us hl => match us, hl with | [_], _ => rfl
  have Dis_close : Def K mg "is_close" sis_close ["web"] := def_mk X G a36 l36 c36 k36 fun _ _ _ _ _ _ us hl => match us, hl with | [_], _ => rfl
  have D_law_pot : Def K mg "_law_pot" s_law_pot ["_law_script", "_law_k"] := def_mk X G a37 l37 c37 k37 fun _ _ _ _ _ _ us hl => match us, hl with | [_, _], _ => rfl
  have D_law_draw : Def K mg "_law_draw" s_law_draw ["_law_pot_here", "_law_size"] := def_mk X G a38 l38 c38 k38 fun _ _ _ _ _ _ us hl => match us, hl with | [_, _], _ => rfl
  have D_law_pick : Def K mg "_law_pick" s_law_pick ["_law_pot_here", "_law_some"] := def_mk X G a39 l39 c39 k39 fun _ _ _ _ _ _ us hl => match us, hl with | [_, _], _ => rfl
  have D_law_pieces_drawn : Def K mg "_law_pieces_drawn" s_law_pieces_drawn ["_law_pot_here", "_law_size", "_law_most"] := def_mk X G a40 l40 c40 k40 fun _ _ _ _ _ _ us hl => match us, hl with | [_, _, _], _ => rfl
  have D_law_words : Def K mg "_law_words" s_law_words ["_law_pieces"] := def_mk X G a41 l41 c41 k41 fun _ _ _ _ _ _ us hl => match us, hl with | [_], _ => rfl
  have D_law_ties : Def K mg "_law_ties" s_law_ties ["_law_pieces"] := def_mk X G a42 l42 c42 k42 fun _ _ _ _ _ _ us hl => match us, hl with | [_], _ => rfl
  have D_law_turnings : Def K mg "_law_turnings" s_law_turnings ["_law_ring_here"] := def_mk X G a43 l43 c43 k43 fun _ _ _ _ _ _ us hl => match us, hl with | [_], _ => rfl
  have D_law_read : Def K mg "_law_read" s_law_read ["_law_ring_here", "_law_size"] := def_mk X G a44 l44 c44 k44 fun _ _ _ _ _ _ us hl => match us, hl with | [_, _], _ => rfl
  have D_law_ring : Def K mg "_law_ring" s_law_ring ["_law_pot_here", "_law_most"] := def_mk X G a45 l45 c45 k45 fun _ _ _ _ _ _ us hl => match us, hl with | [_, _], _ => rfl
  have D_law_rings : Def K mg "_law_rings" s_law_rings ["_law_pot_here", "_law_ring_here"] := def_mk X G a46 l46 c46 k46 fun _ _ _ _ _ _ us hl => match us, hl with | [_, _], _ => rfl
  have D_law_round : Def K mg "_law_round" s_law_round ["_law_pieces", "_law_ring_here"] := def_mk X G a47 l47 c47 k47 fun _ _ _ _ _ _ us hl => match us, hl with | [_, _], _ => rfl
  have D_law_is_close : Def K mg "_law_is_close" s_law_is_close ["_law_pieces"] := def_mk X G a48 l48 c48 k48 fun _ _ _ _ _ _ us hl => match us, hl with | [_], _ => rfl
  have D_law_one_right : Def K mg "_law_one_right" s_law_one_right ["_law_pot_here", "_law_web", "_law_pieces", "_law_ring_here"] := def_mk X G a49 l49 c49 k49 fun _ _ _ _ _ _ us hl => match us, hl with | [_, _, _, _], _ => rfl
  have D_law_right : Def K mg "_law_right" s_law_right ["_law_pot_here"] := def_mk X G a50 l50 c50 k50 fun _ _ _ _ _ _ us hl => match us, hl with | [_], _ => rfl
  have Dlaw : Def K mg "law" slaw ["_law_script"] := def_mk X G a51 l51 c51 k51 fun _ _ _ _ _ _ us hl => match us, hl with | [_], _ => rfl
  refine ⟨PySem.W.fnOf "law" "law" (defArgs slaw) (defBody slaw) (defScope slaw) .none kV51 dc51 pm51 an51 cd51 ct51, fun s v => .of_eq rfl, fun base _ _ => ?_⟩
  have H_law_draw := ok_law_draw (P := l.prog) (w := w) (base := base) D_law_draw B Glb WK PK
  have H_law_pick := ok_law_pick (P := l.prog) (w := w) (base := base) D_law_pick B Glb WK PK H_law_draw
  have H_law_ring := ok_law_ring (P := l.prog) (w := w) (base := base) D_law_ring B Glb WK PK H_law_pick H_law_draw
  have H_law_rings := ok_law_rings (P := l.prog) (w := w) (base := base) D_law_rings B Glb WK PK H_law_draw H_law_ring
  have Hneed_pieceweb := okneed_pieceweb (P := l.prog) (w := w) (base := base) Dneed_pieceweb B Glb WK PK
  have His_letter := okis_letter (P := l.prog) (w := w) (base := base) Dis_letter B Glb WK PK
  have His_text := okis_text (P := l.prog) (w := w) (base := base) Dis_text B Glb WK PK His_letter
  have His_ring := okis_ring (P := l.prog) (w := w) (base := base) Dis_ring B Glb WK PK His_text
  have Hneed_ring := okneed_ring (P := l.prog) (w := w) (base := base) Dneed_ring B Glb WK PK His_ring
  have His_listed := okis_listed (P := l.prog) (w := w) (base := base) Dis_listed B Glb WK PK
  have His_integer := okis_integer (P := l.prog) (w := w) (base := base) Dis_integer B Glb WK PK
  have His_between := okis_between (P := l.prog) (w := w) (base := base) Dis_between B Glb WK PK His_integer
  have His_size := okis_size (P := l.prog) (w := w) (base := base) Dis_size B Glb WK PK His_between
  have Hwords_of := okwords_of (P := l.prog) (w := w) (base := base) Dwords_of B Glb WK PK
  have Hare_pieces := okare_pieces (P := l.prog) (w := w) (base := base) Dare_pieces B Glb WK PK His_listed His_between His_text His_size Hwords_of
  have Hneed_pieces := okneed_pieces (P := l.prog) (w := w) (base := base) Dneed_pieces B Glb WK PK Hare_pieces
  have Hpieces_along := okpieces_along (P := l.prog) (w := w) (base := base) Dpieces_along B Glb WK PK
  have Hread_on := okread_on (P := l.prog) (w := w) (base := base) Dread_on B Glb WK PK
  have Hopened := okopened (P := l.prog) (w := w) (base := base) Dopened B Glb WK PK Hread_on
  have Hhas_just := okhas_just (P := l.prog) (w := w) (base := base) Dhas_just B Glb WK PK Hneed_ring Hneed_pieces Hpieces_along Hopened
  have HPieceWeb_pieces := okPieceWeb_pieces (P := l.prog) (w := w) (base := base) DPieceWeb_pieces B Glb WK PK
  have Hexplains := okexplains (P := l.prog) (w := w) (base := base) Dexplains B Glb WK PK Hneed_pieceweb Hneed_ring Hhas_just HPieceWeb_pieces
  have Hneed_web := okneed_web (P := l.prog) (w := w) (base := base) Dneed_web B Glb WK PK
  have H_left_from := ok_left_from (P := l.prog) (w := w) (base := base) D_left_from B Glb WK PK
  have Hparts_in_turn := okparts_in_turn (P := l.prog) (w := w) (base := base) Dparts_in_turn B Glb WK PK H_left_from
  have HWeb_ties := okWeb_ties (P := l.prog) (w := w) (base := base) DWeb_ties B Glb WK PK
  have Hweb_steps := okweb_steps (P := l.prog) (w := w) (base := base) Dweb_steps B Glb WK PK HWeb_ties
  have HWeb_places := okWeb_places (P := l.prog) (w := w) (base := base) DWeb_places B Glb WK PK
  have Hparts_of := okparts_of (P := l.prog) (w := w) (base := base) Dparts_of B Glb WK PK Hneed_web Hparts_in_turn Hweb_steps HWeb_places
  have HWeb_many := okWeb_many (P := l.prog) (w := w) (base := base) DWeb_many B Glb WK PK
  have His_close := okis_close (P := l.prog) (w := w) (base := base) Dis_close B Glb WK PK Hneed_web Hparts_of HWeb_many
  have H_law_words := ok_law_words (P := l.prog) (w := w) (base := base) D_law_words B Glb WK PK
  have H_law_ties := ok_law_ties (P := l.prog) (w := w) (base := base) D_law_ties B Glb WK PK H_law_words
  have H_law_is_close := ok_law_is_close (P := l.prog) (w := w) (base := base) D_law_is_close B Glb WK PK H_law_words H_law_ties
  have H_law_read := ok_law_read (P := l.prog) (w := w) (base := base) D_law_read B Glb WK PK
  have H_law_round := ok_law_round (P := l.prog) (w := w) (base := base) D_law_round B Glb WK PK H_law_read
  have H_law_turnings := ok_law_turnings (P := l.prog) (w := w) (base := base) D_law_turnings B Glb WK PK
  have His_count := okis_count (P := l.prog) (w := w) (base := base) Dis_count B Glb WK PK His_integer
  have His_below := okis_below (P := l.prog) (w := w) (base := base) Dis_below B Glb WK PK His_count
  have Hare_numbers := okare_numbers (P := l.prog) (w := w) (base := base) Dare_numbers B Glb WK PK His_listed His_below HWeb_many
  have H_go_on := ok_go_on (P := l.prog) (w := w) (base := base) D_go_on B Glb WK PK His_listed His_between Hare_numbers HWeb_ties
  have His_round := okis_round (P := l.prog) (w := w) (base := base) Dis_round B Glb WK PK Hneed_web H_go_on HWeb_ties
  have Hneed_tour := okneed_tour (P := l.prog) (w := w) (base := base) Dneed_tour B Glb WK PK His_round
  have Hcovers := okcovers (P := l.prog) (w := w) (base := base) Dcovers B Glb WK PK Hneed_web Hneed_tour HWeb_many
  have Hare_ties := okare_ties (P := l.prog) (w := w) (base := base) Dare_ties B Glb WK PK His_listed His_below
  have HWeb___init__ := okWeb___init__ (P := l.prog) (w := w) (base := base) DWeb___init__ B Glb WK PK His_between Hare_ties
  have Hcopied_web := okcopied_web (P := l.prog) (w := w) (base := base) Dcopied_web B Glb WK PK HWeb___init__ HWeb_places HWeb_ties
  have HPieceWeb_web := okPieceWeb_web (P := l.prog) (w := w) (base := base) DPieceWeb_web B Glb WK PK Hcopied_web
  have HPieceWeb_size := okPieceWeb_size (P := l.prog) (w := w) (base := base) DPieceWeb_size B Glb WK PK
  have HPieceWeb__ties_along := okPieceWeb__ties_along (P := l.prog) (w := w) (base := base) DPieceWeb__ties_along B Glb WK PK Hpieces_along HPieceWeb_size
  have HPieceWeb_round_of := okPieceWeb_round_of (P := l.prog) (w := w) (base := base) DPieceWeb_round_of B Glb WK PK Hneed_ring Hopened HPieceWeb__ties_along HPieceWeb_size
  have H_need_letters := ok_need_letters (P := l.prog) (w := w) (base := base) D_need_letters B Glb WK PK
  have H_turned_to := ok_turned_to (P := l.prog) (w := w) (base := base) D_turned_to B Glb WK PK
  have Hleast_start := okleast_start (P := l.prog) (w := w) (base := base) Dleast_start B Glb WK PK
  have Hnormal := oknormal (P := l.prog) (w := w) (base := base) Dnormal B Glb WK PK Hneed_ring H_turned_to Hleast_start
  have HPieceWeb__letters_of := okPieceWeb__letters_of (P := l.prog) (w := w) (base := base) DPieceWeb__letters_of B Glb WK PK
  have HPieceWeb_ring_of := okPieceWeb_ring_of (P := l.prog) (w := w) (base := base) DPieceWeb_ring_of B Glb WK PK Hneed_tour H_need_letters Hnormal HPieceWeb__letters_of
  have H_law_one_right := ok_law_one_right (P := l.prog) (w := w) (base := base) D_law_one_right B Glb WK PK H_law_draw H_law_round H_law_turnings His_round Hexplains Hcovers H_law_read HPieceWeb_web HPieceWeb_round_of HPieceWeb_ring_of
  have H_law_pieces_drawn := ok_law_pieces_drawn (P := l.prog) (w := w) (base := base) D_law_pieces_drawn B Glb WK PK H_law_pick H_law_draw
  have H_web_of := ok_web_of (P := l.prog) (w := w) (base := base) D_web_of B Glb WK PK HWeb___init__
  have HPieceWeb___init__ := okPieceWeb___init__ (P := l.prog) (w := w) (base := base) DPieceWeb___init__ B Glb WK PK Hneed_pieces Hwords_of H_web_of
  have H_law_right := ok_law_right (P := l.prog) (w := w) (base := base) D_law_right B Glb WK PK H_law_rings H_law_ring H_law_draw Hexplains His_close H_law_is_close H_law_one_right H_law_read H_law_pieces_drawn HPieceWeb___init__ HPieceWeb_web
  have H_law_pot := ok_law_pot (P := l.prog) (w := w) (base := base) D_law_pot B Glb WK PK
  have Hlaw := oklaw (P := l.prog) (w := w) (base := base) Dlaw B Glb WK PK H_law_right H_law_pot
  obtain ⟨f, fd, O, m, k, b, F⟩ := Hlaw
  have e2 := m.symm.trans hfa
  cases e2
  rw [fd_is F l51] at O
  exact O
theorem walk {l : PySem.W.OpenLaw} {q : Program} {loose : List Str} {XP : (Str → Option Value) → Heap → Prop} {YP : World → Heap → Prop} {d : DefRec} {K : Params → PySem.W.Frag} (hn : l.most = some 63) (hdf : d.params.defaults = [])
    (hY : ∀ (w : World) (h : Heap), YP w h → (K w.params).In h)
    (F : ∀ (w : World) (mg : Str → Option Value) (fa : Addr) (h : Heap), (K w.params).In h → h.Ns mainGlobals mg → mg d.name = some (.ref fa) →
      ∃ fd : FuncData, (∀ (s : Shared) (u : Value), BindsTo s fd ⟨[u], []⟩ [("_law_script", u)]) ∧ ∀ base : Heap, (K w.params).In base → base.Ns mainGlobals mg → FnOk l.prog w (K w.params) mg base CX0 12 fa fd ["_law_script"] (splaw (K w.params) 0 0)) :
    PySem.W.WalkO q loose XP YP l.row.toRowW d [] (fun f vs => PySem.call f vs) :=
  L2.walk_of (n := 63) (k := 12) (x := "_law_script") (CX := fun _ => CX0) (sp := fun w => splaw (K w.params) 0 0) hn (by decide) hdf ⟨rfl, by decide, by decide⟩ hY F (fun _ _ a ns hl _ hS => ⟨a, ns, rfl, hS, hl, fun _ => rfl⟩) fun _ _ _ _ _ z => z
end My
open PySem PySem.W PyProof.Rows
set_option maxRecDepth 100000 in
set_option maxHeartbeats 0 in
theorem PySem.Challenge.cw_suretexts_k27_whole_rings_are_rounds_holds : PySem.Challenge.rw_suretexts_k27_whole_rings_are_rounds.Holds := by
  w_on; o_law; k_head; (case hw => w_witness2)
  k_fill
  refine My.walk (l := PySem.Challenge.rw_suretexts_k27_whole_rings_are_rounds) rfl rfl (fun w h Y => PySem.W.kIn_of Y) ?F
  case F =>
    intro w mg fa h KX G hmg
    refine' My.all_mk KX G hmg ?aC ?aC2 ?aM0 ?iM0 ?lM0 ?cM0 ?kM0 ?aM1 ?gM1 ?tM1 ?rM1 ?lM1 ?cM1 ?kM1 ?aM2 ?gM2 ?tM2 ?rM2 ?lM2 ?cM2 ?kM2 ?aM3 ?iM3 ?lM3 ?cM3 ?kM3 ?aM4 ?iM4 ?lM4 ?cM4 ?kM4 ?aM5 ?gM5 ?tM5 ?rM5 ?lM5 ?cM5 ?kM5 ?aM6 ?iM6 ?lM6 ?cM6 ?kM6 ?aM7 ?iM7 ?lM7 ?cM7 ?kM7 ?aM8 ?iM8 ?lM8 ?cM8 ?kM8 ?aM9 ?iM9 ?lM9 ?cM9 ?kM9 ?aM10 ?iM10 ?lM10 ?cM10 ?kM10 ?aM11 ?iM11 ?lM11 ?cM11 ?kM11 ?a0 ?l0 ?c0 ?k0 ?a1 ?l1 ?c1 ?k1 ?a2 ?l2 ?c2 ?k2 ?a3 ?l3 ?c3 ?k3 ?a4 ?l4 ?c4 ?k4 ?a5 ?l5 ?c5 ?k5 ?a6 ?l6 ?c6 ?k6 ?a7 ?l7 ?c7 ?k7 ?a8 ?l8 ?c8 ?k8 ?a9 ?l9 ?c9 ?k9 ?a10 ?l10 ?c10 ?k10 ?a11 ?l11 ?c11 ?k11 ?a12 ?l12 ?c12 ?k12 ?a13 ?l13 ?c13 ?k13 ?a14 ?l14 ?c14 ?k14 ?a15 ?l15 ?c15 ?k15 ?a16 ?l16 ?c16 ?k16 ?a17 ?l17 ?c17 ?k17 ?a18 ?l18 ?c18 ?k18 ?a19 ?l19 ?c19 ?k19 ?a20 ?l20 ?c20 ?k20 ?a21 ?l21 ?c21 ?k21 ?a22 ?l22 ?c22 ?k22 ?a23 ?l23 ?c23 ?k23 ?a24 ?l24 ?c24 ?k24 ?a25 ?l25 ?c25 ?k25 ?a26 ?l26 ?c26 ?k26 ?a27 ?l27 ?c27 ?k27 ?a28 ?l28 ?c28 ?k28 ?a29 ?l29 ?c29 ?k29 ?a30 ?l30 ?c30 ?k30 ?a31 ?l31 ?c31 ?k31 ?a32 ?l32 ?c32 ?k32 ?a33 ?l33 ?c33 ?k33 ?a34 ?l34 ?c34 ?k34 ?a35 ?l35 ?c35 ?k35 ?a36 ?l36 ?c36 ?k36 ?a37 ?l37 ?c37 ?k37 ?a38 ?l38 ?c38 ?k38 ?a39 ?l39 ?c39 ?k39 ?a40 ?l40 ?c40 ?k40 ?a41 ?l41 ?c41 ?k41 ?a42 ?l42 ?c42 ?k42 ?a43 ?l43 ?c43 ?k43 ?a44 ?l44 ?c44 ?k44 ?a45 ?l45 ?c45 ?k45 ?a46 ?l46 ?c46 ?k46 ?a47 ?l47 ?c47 ?k47 ?a48 ?l48 ?c48 ?k48 ?a49 ?l49 ?c49 ?k49 ?a50 ?l50 ?c50 ?k50 ?a51 ?l51 ?c51 ?k51 ?pgC ?hdC ?poC ?saC ?mkC ?kcC ?n0C ?n1C ?n2C ?n3C ?q1C ?q2C ?q3C ?q4C ?w1C ?pgC2 ?hdC2 ?poC2 ?saC2 ?mkC2 ?kcC2 ?n0C2 ?n1C2 ?n2C2 ?q1C2 ?q2C2 ?q3C2 ?q4C2 ?w1C2 ?w2C2 ?w3C2 ?w4C2 ?w5C2 ?z0 ?z1 ?z2 ?z3 ?z4 ?z5 ?z6 ?z7 ?z8 ?z9 ?z10 ?z11 ?z12 ?z13 ?z14 ?z15 ?z16 ?y0 ?y1 ?y2 ?y3 ?y4 ?y5
    (case aC => k_is)
    (case aC2 => k_is)
    (case aM0 => k_is)
    (case iM0 => k_is)
    (case lM0 => k_is)
    (case cM0 => k_is)
    (case kM0 => k_is)
    (case aM1 => k_is)
    (case gM1 => k_is)
    (case tM1 => k_is)
    (case rM1 => k_is)
    (case lM1 => k_is)
    (case cM1 => k_is)
    (case kM1 => k_is)
    (case aM2 => k_is)
    (case gM2 => k_is)
    (case tM2 => k_is)
    (case rM2 => k_is)
    (case lM2 => k_is)
    (case cM2 => k_is)
    (case kM2 => k_is)
    (case aM3 => k_is)
    (case iM3 => k_is)
    (case lM3 => k_is)
    (case cM3 => k_is)
    (case kM3 => k_is)
    (case aM4 => k_is)
    (case iM4 => k_is)
    (case lM4 => k_is)
    (case cM4 => k_is)
    (case kM4 => k_is)
    (case aM5 => k_is)
    (case gM5 => k_is)
    (case tM5 => k_is)
    (case rM5 => k_is)
    (case lM5 => k_is)
    (case cM5 => k_is)
    (case kM5 => k_is)
    (case aM6 => k_is)
    (case iM6 => k_is)
    (case lM6 => k_is)
    (case cM6 => k_is)
    (case kM6 => k_is)
    (case aM7 => k_is)
    (case iM7 => k_is)
    (case lM7 => k_is)
    (case cM7 => k_is)
    (case kM7 => k_is)
    (case aM8 => k_is)
    (case iM8 => k_is)
    (case lM8 => k_is)
    (case cM8 => k_is)
    (case kM8 => k_is)
    (case aM9 => k_is)
    (case iM9 => k_is)
    (case lM9 => k_is)
    (case cM9 => k_is)
    (case kM9 => k_is)
    (case aM10 => k_is)
    (case iM10 => k_is)
    (case lM10 => k_is)
    (case cM10 => k_is)
    (case kM10 => k_is)
    (case aM11 => k_is)
    (case iM11 => k_is)
    (case lM11 => k_is)
    (case cM11 => k_is)
    (case kM11 => k_is)
    (case a0 => k_is)
    (case l0 => k_is)
    (case c0 => k_is)
    (case k0 => k_is)
    (case a1 => k_is)
    (case l1 => k_is)
    (case c1 => k_is)
    (case k1 => k_is)
    (case a2 => k_is)
    (case l2 => k_is)
    (case c2 => k_is)
    (case k2 => k_is)
    (case a3 => k_is)
    (case l3 => k_is)
    (case c3 => k_is)
    (case k3 => k_is)
    (case a4 => k_is)
    (case l4 => k_is)
    (case c4 => k_is)
    (case k4 => k_is)
    (case a5 => k_is)
    (case l5 => k_is)
    (case c5 => k_is)
    (case k5 => k_is)
    (case a6 => k_is)
    (case l6 => k_is)
    (case c6 => k_is)
    (case k6 => k_is)
    (case a7 => k_is)
    (case l7 => k_is)
    (case c7 => k_is)
    (case k7 => k_is)
    (case a8 => k_is)
    (case l8 => k_is)
    (case c8 => k_is)
    (case k8 => k_is)
    (case a9 => k_is)
    (case l9 => k_is)
    (case c9 => k_is)
    (case k9 => k_is)
    (case a10 => k_is)
    (case l10 => k_is)
    (case c10 => k_is)
    (case k10 => k_is)
    (case a11 => k_is)
    (case l11 => k_is)
    (case c11 => k_is)
    (case k11 => k_is)
    (case a12 => k_is)
    (case l12 => k_is)
    (case c12 => k_is)
    (case k12 => k_is)
    (case a13 => k_is)
    (case l13 => k_is)
    (case c13 => k_is)
    (case k13 => k_is)
    (case a14 => k_is)
    (case l14 => k_is)
    (case c14 => k_is)
    (case k14 => k_is)
    (case a15 => k_is)
    (case l15 => k_is)
    (case c15 => k_is)
    (case k15 => k_is)
    (case a16 => k_is)
    (case l16 => k_is)
    (case c16 => k_is)
    (case k16 => k_is)
    (case a17 => k_is)
    (case l17 => k_is)
    (case c17 => k_is)
    (case k17 => k_is)
    (case a18 => k_is)
    (case l18 => k_is)
    (case c18 => k_is)
    (case k18 => k_is)
    (case a19 => k_is)
    (case l19 => k_is)
    (case c19 => k_is)
    (case k19 => k_is)
    (case a20 => k_is)
    (case l20 => k_is)
    (case c20 => k_is)
    (case k20 => k_is)
    (case a21 => k_is)
    (case l21 => k_is)
    (case c21 => k_is)
    (case k21 => k_is)
    (case a22 => k_is)
    (case l22 => k_is)
    (case c22 => k_is)
    (case k22 => k_is)
    (case a23 => k_is)
    (case l23 => k_is)
    (case c23 => k_is)
    (case k23 => k_is)
    (case a24 => k_is)
    (case l24 => k_is)
    (case c24 => k_is)
    (case k24 => k_is)
    (case a25 => k_is)
    (case l25 => k_is)
    (case c25 => k_is)
    (case k25 => k_is)
    (case a26 => k_is)
    (case l26 => k_is)
    (case c26 => k_is)
    (case k26 => k_is)
    (case a27 => k_is)
    (case l27 => k_is)
    (case c27 => k_is)
    (case k27 => k_is)
    (case a28 => k_is)
    (case l28 => k_is)
    (case c28 => k_is)
    (case k28 => k_is)
    (case a29 => k_is)
    (case l29 => k_is)
    (case c29 => k_is)
    (case k29 => k_is)
    (case a30 => k_is)
    (case l30 => k_is)
    (case c30 => k_is)
    (case k30 => k_is)
    (case a31 => k_is)
    (case l31 => k_is)
    (case c31 => k_is)
    (case k31 => k_is)
    (case a32 => k_is)
    (case l32 => k_is)
    (case c32 => k_is)
    (case k32 => k_is)
    (case a33 => k_is)
    (case l33 => k_is)
    (case c33 => k_is)
    (case k33 => k_is)
    (case a34 => k_is)
    (case l34 => k_is)
    (case c34 => k_is)
    (case k34 => k_is)
    (case a35 => k_is)
    (case l35 => k_is)
    (case c35 => k_is)
    (case k35 => k_is)
    (case a36 => k_is)
    (case l36 => k_is)
    (case c36 => k_is)
    (case k36 => k_is)
    (case a37 => k_is)
    (case l37 => k_is)
    (case c37 => k_is)
    (case k37 => k_is)
    (case a38 => k_is)
    (case l38 => k_is)
    (case c38 => k_is)
    (case k38 => k_is)
    (case a39 => k_is)
    (case l39 => k_is)
    (case c39 => k_is)
    (case k39 => k_is)
    (case a40 => k_is)
    (case l40 => k_is)
    (case c40 => k_is)
    (case k40 => k_is)
    (case a41 => k_is)
    (case l41 => k_is)
    (case c41 => k_is)
    (case k41 => k_is)
    (case a42 => k_is)
    (case l42 => k_is)
    (case c42 => k_is)
    (case k42 => k_is)
    (case a43 => k_is)
    (case l43 => k_is)
    (case c43 => k_is)
    (case k43 => k_is)
    (case a44 => k_is)
    (case l44 => k_is)
    (case c44 => k_is)
    (case k44 => k_is)
    (case a45 => k_is)
    (case l45 => k_is)
    (case c45 => k_is)
    (case k45 => k_is)
    (case a46 => k_is)
    (case l46 => k_is)
    (case c46 => k_is)
    (case k46 => k_is)
    (case a47 => k_is)
    (case l47 => k_is)
    (case c47 => k_is)
    (case k47 => k_is)
    (case a48 => k_is)
    (case l48 => k_is)
    (case c48 => k_is)
    (case k48 => k_is)
    (case a49 => k_is)
    (case l49 => k_is)
    (case c49 => k_is)
    (case k49 => k_is)
    (case a50 => k_is)
    (case l50 => k_is)
    (case c50 => k_is)
    (case k50 => k_is)
    (case a51 => k_is)
    (case l51 => k_is)
    (case c51 => k_is)
    (case k51 => k_is)
    (case pgC => k_is)
    (case hdC => k_is)
    (case poC => k_is)
    (case saC => k_is)
    (case mkC => k_is)
    (case kcC => k_is)
    (case n0C => k_is)
    (case n1C => k_is)
    (case n2C => k_is)
    (case n3C => k_is)
    (case q1C => k_is)
    (case q2C => k_is)
    (case q3C => k_is)
    (case q4C => k_is)
    (case w1C => k_is)
    (case pgC2 => k_is)
    (case hdC2 => k_is)
    (case poC2 => k_is)
    (case saC2 => k_is)
    (case mkC2 => k_is)
    (case kcC2 => k_is)
    (case n0C2 => k_is)
    (case n1C2 => k_is)
    (case n2C2 => k_is)
    (case q1C2 => k_is)
    (case q2C2 => k_is)
    (case q3C2 => k_is)
    (case q4C2 => k_is)
    (case w1C2 => k_is)
    (case w2C2 => k_is)
    (case w3C2 => k_is)
    (case w4C2 => k_is)
    (case w5C2 => k_is)
    (case z0 => k_is)
    (case z1 => k_is)
    (case z2 => k_is)
    (case z3 => k_is)
    (case z4 => k_is)
    (case z5 => k_is)
    (case z6 => k_is)
    (case z7 => k_is)
    (case z8 => k_is)
    (case z9 => k_is)
    (case z10 => k_is)
    (case z11 => k_is)
    (case z12 => k_is)
    (case z13 => k_is)
    (case z14 => k_is)
    (case z15 => k_is)
    (case z16 => k_is)
    (case y0 => k_is)
    (case y1 => k_is)
    (case y2 => k_is)
    (case y3 => k_is)
    (case y4 => k_is)
    (case y5 => k_is)
