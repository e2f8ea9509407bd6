import PyProof.Rows.All
import Wide.All
import OpenK.AllK
import Wide.FinOn
import HandS.ForMost
import HandS.IsInst
import HandS.SortInts
import HandS.Walk
import KE.DataMinMax
import PyProof.Rows.StrStep
import HandS.Deep
import HandS.Property
import HandS.Style
import HandS.DictTup
import KE.SortData
import KE.KDictWalk
import HandS.Set
import HandS.Strs
import HandS.SetFor
import HandS.Dict
import KE.KDictDisplayH
import PyProof.DictTable
import HandS.DictComp
import HandS.OwnEq
import PyProof.InstNe
import KE.GoesMore
import KE.GoesEnum
import HandS.Iter
import HandS.TupSets
import HandS.MakeKwOnly
import PyProof.TupleOfSeq
import PyProof.ListRange
import HandS.Conv
import PySem.Challenge.RW_suretexts_k86_whole_words_found_by_halvi
set_option Elab.async false
set_option maxRecDepth 100000
set_option linter.all false
namespace My
/-! ### reading round and round -/
def rd (l : List Nat) (p n : Nat) : List Nat := (List.range n).map fun k => l.getD ((p + k) % l.length) 0
theorem rd_len (l : List Nat) (p n : Nat) : (rd l p n).length = n := by simp [rd]
theorem rd_zero (l : List Nat) (p : Nat) : rd l p 0 = [] := rfl
theorem rd_succ (l : List Nat) (p n : Nat) : rd l p (n + 1) = rd l p n ++ [l.getD ((p + n) % l.length) 0] := by
  simp [rd, List.range_succ]
theorem rd_get (l : List Nat) (p n k : Nat) (h : k < n) : (rd l p n)[k]? = some (l.getD ((p + k) % l.length) 0) := by
  simp [rd, h]
theorem rd_drop (l : List Nat) (p n k : Nat) : (rd l p n).drop k = rd l (p + k) (n - k) := by
  apply List.ext_getElem?
  intro i
  rw [List.getElem?_drop]
  by_cases h : k + i < n
  · rw [rd_get _ _ _ _ h, rd_get _ _ _ _ (by omega), Nat.add_assoc]
  · rw [List.getElem?_eq_none (by rw [rd_len]; omega), List.getElem?_eq_none (by rw [rd_len]; omega)]
theorem rd_mod (l : List Nat) (p n : Nat) : rd l (p % l.length) n = rd l p n := by
  unfold rd
  apply List.map_congr_left
  intro k _
  rw [Nat.mod_add_mod]
theorem rd_self (l : List Nat) : rd l 0 l.length = l := by
  apply List.ext_getElem?
  intro i
  by_cases h : i < l.length
  · rw [rd_get _ _ _ _ h, Nat.zero_add, Nat.mod_eq_of_lt h, List.getElem?_eq_getElem h, List.getD_eq_getElem?_getD, List.getElem?_eq_getElem h]
    rfl
  · rw [List.getElem?_eq_none (by rw [rd_len]; omega), List.getElem?_eq_none (by omega)]
/-- turned -/
theorem rd_turn (l : List Nat) (p : Nat) (h : p < l.length) : rd l p l.length = l.drop p ++ l.take p := by
  apply List.ext_getElem?
  intro i
  by_cases hi : i < l.length
  · rw [rd_get _ _ _ _ hi]
    by_cases h2 : i < l.length - p
    · rw [List.getElem?_append_left (by rw [List.length_drop]; exact h2), List.getElem?_drop, Nat.mod_eq_of_lt (by omega), List.getElem?_eq_getElem (by omega), List.getD_eq_getElem?_getD, List.getElem?_eq_getElem (by omega)]
      rfl
    · rw [List.getElem?_append_right (by rw [List.length_drop]; omega), List.length_drop, List.getElem?_take_of_lt (by omega)]
      have e : (p + i) % l.length = i - (l.length - p) := by
        rw [Nat.mod_eq_sub_mod (by omega), Nat.mod_eq_of_lt (by omega)]
        omega
      rw [e, List.getElem?_eq_getElem (by omega), List.getD_eq_getElem?_getD, List.getElem?_eq_getElem (by omega)]
      rfl
  · rw [List.getElem?_eq_none (by rw [rd_len]; omega), List.getElem?_eq_none (by rw [List.length_append, List.length_drop, List.length_take]; omega)]
/-- reading from a turned ring -/
theorem rd_turned (l : List Nat) (b p n : Nat) (hl : 0 < l.length) : rd (rd l b l.length) p n = rd l (b + p) n := by
  unfold rd
  apply List.map_congr_left
  intro k _
  have e : ((List.range l.length).map fun k => l.getD ((b + k) % l.length) 0).length = l.length := by simp
  rw [e]
  have h2 : (p + k) % l.length < l.length := Nat.mod_lt _ hl
  rw [List.getD_eq_getElem?_getD, List.getElem?_map, List.getElem?_range h2]
  show l.getD ((b + (p + k) % l.length) % l.length) 0 = _
  rw [Nat.add_mod_mod, Nat.add_assoc]

/-! ### beginnings that are endings -/
def Pre (w t : List Nat) (k : Nat) : Prop := k ≤ w.length ∧ w.take k <:+ t
def Longest (w t : List Nat) (k : Nat) : Prop := Pre w t k ∧ ∀ k', Pre w t k' → k' ≤ k
def IsLB (p : List Nat) (b : Nat) : Prop := b < p.length ∧ p.take b <:+ p ∧ ∀ b', b' < p.length → p.take b' <:+ p → b' ≤ b
def At (w t : List Nat) (c k : Nat) : Prop := Pre w t k ∧ ∀ k', Pre w t k' → w[k']? = some c → k' ≤ k
theorem suff_one {a t : List Nat} {x c : Nat} : a ++ [x] <:+ t ++ [c] ↔ a <:+ t ∧ x = c := by
  constructor
  · rintro ⟨u, hu⟩
    rw [← List.append_assoc] at hu
    have h := List.append_inj' hu rfl
    exact ⟨⟨u, h.1⟩, by simpa using h.2⟩
  · rintro ⟨⟨u, hu⟩, rfl⟩
    exact ⟨u, by rw [← hu, List.append_assoc]⟩
theorem pre_succ {w t : List Nat} {c k : Nat} : Pre w (t ++ [c]) (k + 1) ↔ Pre w t k ∧ w[k]? = some c := by
  unfold Pre
  constructor
  · rintro ⟨h1, h2⟩
    have hk : k < w.length := by omega
    rw [List.take_succ_eq_append_getElem hk, suff_one] at h2
    exact ⟨⟨by omega, h2.1⟩, by rw [List.getElem?_eq_getElem hk, h2.2]⟩
  · rintro ⟨⟨h1, h2⟩, h3⟩
    have hk : k < w.length := by
      rw [List.getElem?_eq_some_iff] at h3
      exact h3.1
    rw [List.take_succ_eq_append_getElem hk, suff_one]
    rw [List.getElem?_eq_getElem hk] at h3
    exact ⟨by omega, h2, Option.some.inj h3⟩
theorem pre_zero (w t : List Nat) : Pre w t 0 := ⟨Nat.zero_le _, by simp⟩
theorem at_start {w t : List Nat} {c k : Nat} (h : Longest w t k) : At w t c k := ⟨h.1, fun k' h' _ => h.2 k' h'⟩
theorem at_fall {w t : List Nat} {c k b : Nat} (h : At w t c k) (hne : w[k]? ≠ some c) (hb : IsLB (w.take k) b) : At w t c b := by
  obtain ⟨h1, h2⟩ := h
  obtain ⟨b1, b2, b3⟩ := hb
  have lk : (w.take k).length = k := by rw [List.length_take]; have := h1.1; omega
  rw [lk] at b1 b3
  have tk : ∀ j, j ≤ k → (w.take k).take j = w.take j := fun j hj => by rw [List.take_take, Nat.min_eq_left hj]
  refine ⟨⟨by have := h1.1; omega, ?_⟩, fun k' p' e' => ?_⟩
  · rw [← tk b (by omega)]
    exact b2.trans h1.2
  · have l1 := h2 k' p' e'
    have l2 : k' ≠ k := by rintro rfl; exact hne e'
    have l3 : k' < k := by omega
    refine b3 k' l3 ?_
    rw [tk k' (by omega)]
    refine List.suffix_of_suffix_length_le p'.2 h1.2 ?_
    rw [List.length_take, List.length_take]
    have := h1.1
    omega
theorem at_hit {w t : List Nat} {c k : Nat} (h : At w t c k) (he : w[k]? = some c) : Longest w (t ++ [c]) (k + 1) := by
  refine ⟨pre_succ.mpr ⟨h.1, he⟩, fun k' p' => ?_⟩
  cases k' with
  | zero => omega
  | succ j =>
    have q := pre_succ.mp p'
    have := h.2 j q.1 q.2
    omega
theorem at_miss {w t : List Nat} {c : Nat} (h : At w t c 0) (he : w[0]? ≠ some c) : Longest w (t ++ [c]) 0 := by
  refine ⟨pre_zero _ _, fun k' p' => ?_⟩
  cases k' with
  | zero => omega
  | succ j =>
    have q := pre_succ.mp p'
    have l := h.2 j q.1 q.2
    have e : j = 0 := by omega
    subst e
    exact absurd q.2 he
theorem longest_nil (w : List Nat) : Longest w [] 0 := by
  refine ⟨pre_zero _ _, fun k' p' => ?_⟩
  have h := List.suffix_nil.mp p'.2
  have h2 : (w.take k').length = 0 := by rw [h]; rfl
  rw [List.length_take] at h2
  have := p'.1
  omega
theorem longest_le {w t : List Nat} {k : Nat} (h : Longest w t k) : k ≤ t.length := by
  have h1 := h.1.2.length_le
  rw [List.length_take] at h1
  have := h.1.1
  omega
/-- the longest beginning that ends the letters behind the first one is the longest border -/
theorem lb_of_longest {w : List Nat} {i k : Nat} (hi : i < w.length) (h : Longest w ((w.drop 1).take i) k) : IsLB (w.take (i + 1)) k := by
  have hk := longest_le h
  have ht : ((w.drop 1).take i).length = i := by rw [List.length_take, List.length_drop]; omega
  rw [ht] at hk
  have hl : (w.take (i + 1)).length = i + 1 := by rw [List.length_take]; omega
  have tk : ∀ j, j ≤ i + 1 → (w.take (i + 1)).take j = w.take j := fun j hj => by rw [List.take_take, Nat.min_eq_left hj]
  obtain ⟨a, r, rfl⟩ : ∃ a r, w = a :: r := by
    cases w with
    | nil => simp at hi
    | cons a r => exact ⟨a, r, rfl⟩
  have e : (a :: r).take (i + 1) = a :: ((a :: r).drop 1).take i := by simp
  refine ⟨by omega, ?_, fun b' hb' hs => ?_⟩
  · rw [tk k (by omega), e]
    exact h.1.2.trans (List.suffix_cons _ _)
  · rw [hl] at hb'
    refine h.2 b' ⟨by omega, ?_⟩
    rw [tk b' (by omega), e, List.suffix_cons_iff] at hs
    rcases hs with hs | hs
    · have hq := congrArg List.length hs
      rw [List.length_take, ← e, hl] at hq
      omega
    · exact hs
theorem lb_one {w : List Nat} (h : 0 < w.length) : IsLB (w.take 1) 0 := lb_of_longest h (by simpa using longest_nil w)
theorem lb_unique {p : List Nat} {a b : Nat} (h1 : IsLB p a) (h2 : IsLB p b) : a = b := by
  have := h1.2.2 b h2.1 h2.2.1
  have := h2.2.2 a h1.1 h1.2.1
  omega
/-- the list of the longest borders -/
def Bords (w : List Nat) (L : List Nat) : Prop := L.length = w.length ∧ ∀ j, j < w.length → ∃ b, L[j]? = some b ∧ IsLB (w.take (j + 1)) b
theorem bords_unique {w A B : List Nat} (h1 : Bords w A) (h2 : Bords w B) : A = B := by
  apply List.ext_getElem?
  intro i
  by_cases h : i < w.length
  · obtain ⟨a, ea, la⟩ := h1.2 i h
    obtain ⟨b, eb, lb⟩ := h2.2 i h
    rw [ea, eb, lb_unique la lb]
  · rw [List.getElem?_eq_none (by rw [h1.1]; omega), List.getElem?_eq_none (by rw [h2.1]; omega)]
/-- some first ones of them -/
def BordsTo (w : List Nat) (n : Nat) (L : List Nat) : Prop := L.length = n ∧ ∀ j, j < n → ∃ b, L[j]? = some b ∧ IsLB (w.take (j + 1)) b
theorem bordsTo_one {w : List Nat} (h : 0 < w.length) : BordsTo w 1 [0] := by
  refine ⟨rfl, fun j hj => ?_⟩
  have e : j = 0 := by omega
  subst e
  exact ⟨0, rfl, lb_one h⟩
theorem bordsTo_succ {w L : List Nat} {i k : Nat} (hi : i < w.length) (hB : BordsTo w i L) (h : Longest w ((w.drop 1).take i) k) : BordsTo w (i + 1) (L ++ [k]) := by
  refine ⟨by rw [List.length_append, hB.1]; rfl, fun j hj => ?_⟩
  by_cases hji : j < i
  · obtain ⟨b, e, l⟩ := hB.2 j hji
    exact ⟨b, by rw [List.getElem?_append_left (by rw [hB.1]; exact hji)]; exact e, l⟩
  · have e : j = i := by omega
    subst e
    refine ⟨k, ?_, lb_of_longest hi h⟩
    rw [List.getElem?_append_right (by rw [hB.1]; omega), hB.1, Nat.sub_self]
    rfl
theorem bordsTo_at {w L : List Nat} {n k : Nat} (hB : BordsTo w n L) (h0 : 0 < k) (hk : k ≤ n) : ∃ b, L[k - 1]? = some b ∧ IsLB (w.take k) b ∧ b < k := by
  obtain ⟨b, e, l⟩ := hB.2 (k - 1) (by omega)
  rw [show k - 1 + 1 = k by omega] at l
  refine ⟨b, e, l, ?_⟩
  have := l.1
  rw [List.length_take] at this
  omega
theorem bords_of {w L : List Nat} : BordsTo w w.length L ↔ Bords w L := Iff.rfl

/-! ### a word begins at a place -/
def due (l w : List Nat) : List Nat := (List.range l.length).filter fun p => rd l p w.length == w
theorem mem_due {l w : List Nat} {p : Nat} : p ∈ due l w ↔ p < l.length ∧ rd l p w.length = w := by
  simp [due]
/-- of the first n letters read -/
def dueTo (l w : List Nat) (n : Nat) : List Nat := (List.range n).filter fun p => rd l p w.length == w
theorem dueTo_all (l w : List Nat) : dueTo l w l.length = due l w := rfl
theorem dueTo_succ_yes {l w : List Nat} {n : Nat} (h : rd l n w.length = w) : dueTo l w (n + 1) = dueTo l w n ++ [n] := by
  simp [dueTo, List.range_succ, List.filter_append, h]
theorem dueTo_succ_no {l w : List Nat} {n : Nat} (h : ¬ rd l n w.length = w) : dueTo l w (n + 1) = dueTo l w n := by
  simp [dueTo, List.range_succ, List.filter_append, h]
/-- the whole word was just read -/
theorem longest_full {l w : List Nat} {n k : Nat} (h : Longest w (rd l 0 n) k) : k = w.length ↔ w.length ≤ n ∧ rd l (n - w.length) w.length = w := by
  have key : w <:+ rd l 0 n ↔ w.length ≤ n ∧ rd l (n - w.length) w.length = w := by
    constructor
    · intro hs
      have hl := hs.length_le
      rw [rd_len] at hl
      refine ⟨hl, ?_⟩
      have e := List.suffix_iff_eq_drop.mp hs
      rw [rd_len, rd_drop, Nat.zero_add, show n - (n - w.length) = w.length by omega] at e
      exact e.symm
    · rintro ⟨hl, e⟩
      rw [List.suffix_iff_eq_drop, rd_len, rd_drop, Nat.zero_add, show n - (n - w.length) = w.length by omega]
      exact e.symm
  rw [← key]
  constructor
  · rintro rfl
    have := h.1.2
    rw [List.take_length] at this
    exact this
  · intro hs
    have h1 := h.1.1
    have h2 := h.2 w.length ⟨Nat.le_refl _, by rw [List.take_length]; exact hs⟩
    omega

/-! ### the period -/
theorem getD_lt {l : List Nat} {i : Nat} (h : i < l.length) : l[i]? = some (l.getD i 0) := by
  rw [List.getD_eq_getElem?_getD, List.getElem?_eq_getElem h]
  rfl
theorem line_period {l : List Nat} {b : Nat} (h : IsLB l b) (i : Nat) (hi : i + (l.length - b) < l.length) : l.getD (i + (l.length - b)) 0 = l.getD i 0 := by
  have hb := h.1
  have e := List.suffix_iff_eq_drop.mp h.2.1
  have hl : (l.take b).length = b := by rw [List.length_take]; omega
  rw [hl] at e
  have e2 := congrArg (fun z : List Nat => z[i]?) e
  simp only [List.getElem?_take, List.getElem?_drop] at e2
  rw [if_pos (by omega)] at e2
  rw [List.getD_eq_getElem?_getD, List.getD_eq_getElem?_getD, e2, Nat.add_comm]
theorem line_mult {l : List Nat} {s : Nat} (h : ∀ i, i + s < l.length → l.getD (i + s) 0 = l.getD i 0) : ∀ (m i : Nat), i + m * s < l.length → l.getD (i + m * s) 0 = l.getD i 0
  | 0, i, _ => by simp
  | m + 1, i, hi => by
    have e : i + (m + 1) * s = (i + m * s) + s := by rw [Nat.succ_mul]; omega
    rw [e] at hi ⊢
    rw [h _ hi]
    exact line_mult h m i (by omega)
theorem round_period {l : List Nat} {s : Nat} (_hs : 0 < s) (hsl : s ≤ l.length) (hd : l.length % s = 0) (h : ∀ i, i + s < l.length → l.getD (i + s) 0 = l.getD i 0) (i : Nat) (hi : i < l.length) : l.getD ((i + s) % l.length) 0 = l.getD i 0 := by
  by_cases hlt : i + s < l.length
  · rw [Nat.mod_eq_of_lt hlt]
    exact h i hlt
  · have e1 : (i + s) % l.length = i + s - l.length := by
      rw [Nat.mod_eq_sub_mod (by omega), Nat.mod_eq_of_lt (by omega)]
    rw [e1]
    obtain ⟨q, hq⟩ : ∃ q, l.length = s * q := ⟨l.length / s, by rw [Nat.mul_div_cancel' (Nat.dvd_of_mod_eq_zero hd)]⟩
    have hq0 : 0 < q := by
      rcases Nat.eq_zero_or_pos q with z | z
      · subst z; omega
      · exact z
    obtain ⟨r, rfl⟩ : ∃ r, q = r + 1 := ⟨q - 1, by omega⟩
    have e2 : l.length = r * s + s := by rw [hq, Nat.mul_succ, Nat.mul_comm]
    have e3 : i = (i + s - l.length) + r * s := by omega
    have := line_mult h r (i + s - l.length) (by omega)
    rw [← e3] at this
    exact this.symm
/-- the told period -/
def per (l : List Nat) (b : Nat) : Nat := if l.length % (l.length - b) = 0 then l.length - b else l.length
theorem per_turns {l : List Nat} {b : Nat} (h : IsLB l b) (i : Nat) (hi : i < l.length) : l.getD ((i + per l b) % l.length) 0 = l.getD i 0 := by
  have hb := h.1
  unfold per
  split
  · exact round_period (by omega) (by omega) (by assumption) (fun j hj => line_period h j hj) i hi
  · rw [Nat.add_mod_right, Nat.mod_eq_of_lt hi]
theorem rd_per {l : List Nat} {b : Nat} (h : IsLB l b) (p n : Nat) : rd l (p + per l b) n = rd l p n := by
  have hb := h.1
  unfold rd
  apply List.map_congr_left
  intro k _
  rw [show p + per l b + k = (p + k) + per l b by omega, ← Nat.mod_add_mod]
  rw [per_turns h ((p + k) % l.length) (Nat.mod_lt _ (by omega))]
theorem per_pos {l : List Nat} {b : Nat} (h : IsLB l b) : 0 < per l b ∧ per l b ≤ l.length := by
  have hb := h.1
  unfold per
  split <;> omega

/-! ### rising lists of the same numbers are one list -/
theorem rising_ext : ∀ {a b : List Int}, a.Pairwise (· < ·) → b.Pairwise (· < ·) → (∀ x, x ∈ a ↔ x ∈ b) → a = b
  | [], [], _, _, _ => rfl
  | [], y :: ys, _, _, h => by have := (h y).mpr (by simp); simp at this
  | x :: xs, [], _, _, h => by have := (h x).mp (by simp); simp at this
  | x :: xs, y :: ys, ha, hb, h => by
    rw [List.pairwise_cons] at ha hb
    have e : x = y := by
      have h1 := (h x).mp (by simp)
      have h2 := (h y).mpr (by simp)
      rw [List.mem_cons] at h1 h2
      rcases h1 with h1 | h1
      · exact h1
      · rcases h2 with h2 | h2
        · exact h2.symm
        · have := ha.1 y h2
          have := hb.1 x h1
          omega
    subst e
    congr 1
    refine rising_ext ha.2 hb.2 fun z => ?_
    constructor
    · intro hz
      have := (h z).mp (List.mem_cons_of_mem _ hz)
      rw [List.mem_cons] at this
      rcases this with rfl | this
      · have := ha.1 _ hz; omega
      · exact this
    · intro hz
      have := (h z).mpr (List.mem_cons_of_mem _ hz)
      rw [List.mem_cons] at this
      rcases this with rfl | this
      · have := hb.1 _ hz; omega
      · exact this
theorem rising_of {s : List Int} (h : s.Pairwise (· ≤ ·)) (n : s.Nodup) : s.Pairwise (· < ·) := by
  have := h.and n
  exact this.imp fun ⟨h1, h2⟩ => by omega
/-- sorted, and the same numbers, none twice: that is it -/
theorem sorted_is {s m d : List Int} (hp : List.Perm s m) (hs : s.Pairwise (· ≤ ·)) (hn : m.Nodup) (hd : d.Pairwise (· < ·)) (h : ∀ x, x ∈ m ↔ x ∈ d) : s = d := by
  refine rising_ext (rising_of hs (hp.nodup_iff.mpr hn)) hd fun x => ?_
  rw [hp.mem_iff]
  exact h x
theorem due_rising (l w : List Nat) : ((due l w).map fun n : Nat => (n : Int)).Pairwise (· < ·) := by
  rw [List.pairwise_map]
  refine List.Pairwise.imp (fun {a b} (h : a < b) => by omega) ?_
  exact List.Pairwise.filter _ List.pairwise_lt_range
end My
namespace My
open PySem L2 PyProof.Rows
/-- a text by its letters -/
abbrev T (l : List Nat) : V := .str ⟨l.toArray⟩
section
variable {X : Cx}
theorem mul_flat (l : List Nat) (n : Nat) : ((List.replicate n l.toArray).foldl (· ++ ·) (#[] : Array Nat)) = (List.replicate n l).flatten.toArray := by
  have h : ∀ (m : Nat) (acc : List Nat), (List.replicate m l.toArray).foldl (· ++ ·) acc.toArray = (acc ++ (List.replicate m l).flatten).toArray := by
    intro m
    induction m with
    | zero => intro acc; simp
    | succ m ih =>
      intro acc
      rw [List.replicate_succ, List.foldl_cons]
      have e : acc.toArray ++ l.toArray = (acc ++ l).toArray := by simp
      rw [e, ih, List.replicate_succ, List.flatten_cons, List.append_assoc]
  have := h n []
  simpa using this
theorem op_mul_str : OpR X (binaryOp .Mult) (fun x y H Q => ∃ l n, x = T l ∧ y = .int (n : Nat) ∧ 1 ≤ n ∧ n ≤ 1000 ∧ l.length ≤ 1000 ∧ Q (T (List.replicate n l).flatten) H) := by
  intro pins s σ H x y v u Q I rx ry h
  obtain ⟨l, n, rfl, rfl, h1, h2, h3, q⟩ := h
  obtain ⟨t, rfl⟩ := rx
  obtain ⟨t', rfl⟩ := ry
  have hlen : (⟨l.toArray⟩ : Str).length = l.length := by simp [Str.length]
  have ok : MulOk ⟨l.toArray⟩ (n : Int) := by
    refine ⟨?_, fun _ _ => ?_, fun _ _ => ?_⟩
    · have a1 : decide ((n : Int) < -(2 ^ 63 : Int)) = false := decide_eq_false (by omega)
      have a2 : decide ((n : Int) ≥ 2 ^ 63) = false := decide_eq_false (by omega)
      rw [a1, a2]
      rfl
    · rw [hlen]
      have : (1000000 : Int) ≤ (2 ^ 63 - 1) / (n : Int) := by
        rw [Int.le_ediv_iff_mul_le (by omega)]
        omega
      omega
    · rw [hlen]
      have e : (n : Int).toNat = n := by omega
      rw [e]
      have : l.length * n ≤ 1000 * 1000 := Nat.mul_le_mul h3 h2
      have z : (1000000 : Nat) ≤ sizeLine := by decide
      simp [Builtin.Str.tooLong]
      omega
  refine SB.mul ok fun t'' k => ?_
  have em : Txt.mul ⟨l.toArray⟩ (n : Int) = ⟨(List.replicate n l).flatten.toArray⟩ := by
    unfold Txt.mul
    rw [if_neg (by omega)]
    split
    · rename_i c
      rw [hlen] at c
      simp at c
      rcases c with c | c
      · have : n = 1 := by omega
        subst this
        simp
      · subst c
        simp
    · have e : (n : Int).toNat = n := by omega
      rw [e]
      exact congrArg Str.mk (mul_flat l n)
  rw [em]
  exact ⟨.str _, H, I.tok _, ⟨_, rfl⟩, q⟩
theorem call_repr_bl : CallR X (.builtin "repr") (fun xs H Q => ∃ b, xs = [.bl b] ∧ Q (.str (if b then "True" else "False")) H) := by
  intro pins s σ H xs us Q I r h
  obtain ⟨b, rfl, q⟩ := h
  obtain ⟨u, rfl, e⟩ := vals1 r
  cases e
  exact PySem.P.repr_of_bool ⟨.str _, H, I.tok _, ⟨_, rfl⟩, q⟩
/-- a module's constant that is an int -/
theorem pe_globI {x : Str} {n : Int} {pos : Pos} (h : ∃ t, X.mg x = some (.int n t)) (hg : Gl X x := by rfl) (hd : (x == ("__debug__" : Str)) = false := by decide) : PE X (.Name x pos) (tC (.int n)) := by
  obtain ⟨t, e⟩ := h
  exact pe_glob (v := .int n) hg e ⟨t, rfl⟩ hd
variable {CX : CXT} {k : Nat} {f : Addr} {fd : FuncData} {ps ks : List Str} {sp : Sp} {E : XK} {x : Str} {p pos : Pos} {kws : List Keyword} {tk : TA} {g : List Value → List Value → List Value} {gV : List V → List V → List V}
/-- f(a=.., b=..) -/
theorem pe_callKK (F : FnOk X.prog X.w X.K X.mg X.base CX k f fd ps sp) (hr : Room k X.A) (hg : Gl X x) (hm : X.mg x = some (.ref f)) (hk : PySem.W.keepIn X.K (.ref f) = true) (hb : KBinds X.K fd ps ks g gV) (hx : Passes CX X E)
    (hkw : PK X kws tk) (hall : (backToKw pos (keywordEach kws X.env)).all (·.1.isSome) = true := by rfl) (hks : (backToKw pos (keywordEach kws X.env)).filterMap (·.1) = ks := by rfl)
    (hdb : (x == ("__debug__" : Str)) = false := by decide)
    (hpl : ((backTo pos (starEach [] X.env)).any (·.1) || (backToKw pos (keywordEach kws X.env)).any (·.1.isNone)) = false := by rfl) :
    PE X (.Call (.Name x p) [] kws pos) (tCallK sp gV E tNil tk) := by
  refine ⟨fun pins s σ H Q I h => ?_⟩
  refine wpAny_Call_Name_kw (ld_glob I hg hm ?_ hdb)
  refine PySem.W.callWith_KW0 (h₀ := X.base) I.ok.mod.kin hk hall (thn (hkw.run pos pins s σ H _ I h) fun ws s2 ⟨zs, H2, I2, rz, q2⟩ => ⟨I2.kIn, ?_⟩) hpl
  rw [hks]
  exact run_fnk F hr hb hx I2 .nil rz q2
end
/-! ### a def that stands, and one that keeps a promise -/
def Def (K : PySem.W.Frag) (mg : Str → Option Value) (x : Str) (st : Stmt) (ps : List Str) : Prop := ∃ (f : Addr) (fd : FuncData), Fun K x x st f fd ∧ mg x = some (.ref f) ∧ Binds K fd ps []
section
variable {P : Program} {w : World} {K : PySem.W.Frag} {mg : Str → Option Value} {base : Heap}
def Good (P : Program) (w : World) (K : PySem.W.Frag) (mg : Str → Option Value) (base : Heap) (x : Str) (st : Stmt) (ps : List Str) (k : Nat) (sp : Sp) : Prop := ∃ (f : Addr) (fd : FuncData), FnOk P w K mg base CX0 k f fd ps sp ∧ mg x = some (.ref f) ∧ PySem.W.keepIn K (.ref f) = true ∧ Binds K fd ps [] ∧ Fun K x x st f fd
theorem Def.good {x : Str} {st : Stmt} {ps : List Str} {k : Nat} {sp : Sp} (D : Def K mg x st ps) (h : ∀ f fd, Fun K x x st f fd → FnOk P w K mg base CX0 k f fd ps sp) : Good P w K mg base x st ps k sp := by
  obtain ⟨f, fd, F, m, b⟩ := D
  exact ⟨f, fd, h f fd F, m, F.kp, b, F⟩
theorem def_mk {h : Heap} (X : K.In h) (G : h.Ns mainGlobals mg) {x : Str} {st : Stmt} {ps : List Str} {f : Addr} {oc : Value} {od an : Option Addr} {osl : Array (Option Value)} {kV doc pm cdv ct : Value} (a : PySem.W.nsIn K mainGlobals x = some (some (.ref f)))
    (l : K.lookup f = some ⟨oc, od, .func (PySem.W.fnOf x x (defArgs st) (defBody st) (defScope st) .none kV doc pm an cdv ct), osl⟩) (c : PySem.W.codeIn K cdv x = true) (k : PySem.W.keepIn K (.ref f) = true)
    (hb : ∀ (kV doc pm : Value) (an : Option Addr) (cdv ct : Value) (us : List Value), us.length = ps.length → bindArgs (PySem.W.fnOf x x (defArgs st) (defBody st) (defScope st) .none kV doc pm an cdv ct) ⟨us, []⟩ = pure (ps.zip us)) : Def K mg x st ps :=
  ⟨f, _, fun_mk l c k, PySem.W.mg_of X G a, (fun_mk l c k).binds hb⟩
theorem fun_kbinds {x qual : Str} {st : Stmt} {f : Addr} {fd : FuncData} {ps ks : List Str} (F : Fun K x qual st f fd) (g : List Value → List Value → List Value) (gV : List V → List V → List V)
    (hrel : ∀ {vs : List V} {us : List Value} {zs : List V} {ws : List Value}, Vals vs us → Vals zs ws → Vals (gV vs zs) (g us ws))
    (h : ∀ (kV doc pm : Value) (an : Option Addr) (cdv ct : Value) (us ws : List Value), (g us ws).length = ps.length → bindArgs (PySem.W.fnOf x qual (defArgs st) (defBody st) (defScope st) .none kV doc pm an cdv ct) ⟨us, ks.zip ws⟩ = pure (ps.zip (g us ws))) : KBinds K fd ps ks g gV := by
  obtain ⟨oc, od, kV, doc, pm, an, cdv, ct, osl, rfl, lk, hcd⟩ := F.ex
  exact ⟨fun s us ws X hl => .of_eq (h kV doc pm an cdv ct us ws hl), hrel⟩
/-- two keywords, in the parameters' order, or turned; one -/
def g12 {α : Type} : List α → List α → List α | [], [a, b] => [a, b] | _, _ => []
def g21 {α : Type} : List α → List α → List α | [], [a, b] => [b, a] | _, _ => []
def g1 {α : Type} : List α → List α → List α | [], [a] => [a] | _, _ => []
theorem g12_inv {α : Type} {us ws : List α} (h : (g12 us ws).length = 2) : us = [] ∧ ∃ a b, ws = [a, b] := by
  match us, ws, h with
  | [], [a, b], _ => exact ⟨rfl, a, b, rfl⟩
  | [], [], h => exact absurd h (by simp [g12, g21, g1])
  | [], [_], h => exact absurd h (by simp [g12])
  | [], _ :: _ :: _ :: _, h => exact absurd h (by simp [g12])
  | _ :: _, _, h => exact absurd h (by simp [g12])
theorem g21_inv {α : Type} {us ws : List α} (h : (g21 us ws).length = 2) : us = [] ∧ ∃ a b, ws = [a, b] := by
  match us, ws, h with
  | [], [a, b], _ => exact ⟨rfl, a, b, rfl⟩
  | [], [], h => exact absurd h (by simp [g12, g21, g1])
  | [], [_], h => exact absurd h (by simp [g21])
  | [], _ :: _ :: _ :: _, h => exact absurd h (by simp [g21])
  | _ :: _, _, h => exact absurd h (by simp [g21])
theorem g1_inv {α : Type} {us ws : List α} (h : (g1 us ws).length = 1) : us = [] ∧ ∃ a, ws = [a] := by
  match us, ws, h with
  | [], [a], _ => exact ⟨rfl, a, rfl⟩
  | [], [], h => exact absurd h (by simp [g12, g21, g1])
  | [], _ :: _ :: _, h => exact absurd h (by simp [g1])
  | _ :: _, _, h => exact absurd h (by simp [g1])
theorem rel12 {vs : List V} {us : List Value} {zs : List V} {ws : List Value} (a : Vals vs us) (b : Vals zs ws) : Vals (g12 vs zs) (g12 us ws) := by
  cases a with
  | nil =>
    cases b with
    | nil => exact .nil
    | cons r b =>
      cases b with
      | nil => exact .nil
      | cons r2 b =>
        cases b with
        | nil => exact .cons r (.cons r2 .nil)
        | cons r3 b => exact .nil
  | cons r a => exact .nil
theorem rel21 {vs : List V} {us : List Value} {zs : List V} {ws : List Value} (a : Vals vs us) (b : Vals zs ws) : Vals (g21 vs zs) (g21 us ws) := by
  cases a with
  | nil =>
    cases b with
    | nil => exact .nil
    | cons r b =>
      cases b with
      | nil => exact .nil
      | cons r2 b =>
        cases b with
        | nil => exact .cons r2 (.cons r .nil)
        | cons r3 b => exact .nil
  | cons r a => exact .nil
theorem rel1 {vs : List V} {us : List Value} {zs : List V} {ws : List Value} (a : Vals vs us) (b : Vals zs ws) : Vals (g1 vs zs) (g1 us ws) := by
  cases a with
  | nil =>
    cases b with
    | nil => exact .nil
    | cons r b =>
      cases b with
      | nil => exact .cons r .nil
      | cons r3 b => exact .nil
  | cons r a => exact .nil
end
end My
namespace My
open PySem L2 PyProof.Rows
theorem bl_is1 {x : Bool} {Q : VK} {H : Hp} (h : x = true) (q : Q (.bl true) H) : Q (.bl x) H := by
  rw [h]
  exact q
/-! ### a list that nobody asks for any more is forgotten -/
section
variable {X : Cx} {pins : List (Addr × Obj)} {σ : L2.St} {H1 H2 : Hp} {s : Shared} {D : Addr} {xs : List V}
theorem inv_drop (I : Inv X pins σ H1 s) (e : H1 = upd H2 D (.lst xs)) (n : H2 D = none) : Inv X pins σ H2 s := by
  subst e
  have off : ∀ b, upd H2 D (.lst xs) b = none → H2 b = none := fun b h => by
    by_cases hb : b = D
    · rw [hb]; exact n
    · rw [upd_ne hb] at h; exact h
  have back : ∀ b o, o ≠ HO.lst xs → upd H2 D (.lst xs) b = some o → H2 b = some o := fun b o ho h => by
    by_cases hb : b = D
    · subst hb
      rw [upd_same] at h
      exact absurd (Option.some.inj h).symm ho
    · rw [upd_ne hb] at h; exact h
  refine ⟨I.ok, I.os, I.bare, ?_, I.loc, I.cell, off _ I.free, fun x c h => off _ (I.freeC x c h), fun p hp => ?_, ?_, I.len⟩
  · have u := I.base
    refine ⟨u.keep, u.slot, fun b o h1 h2 h3 => off _ (u.free b o h1 h2 h3), u.there, fun b ys h => back _ _ (by intro z; cases z) (u.tups b ys h), fun b o v h => back _ _ (by intro z; cases z) (u.frzs b o v h), fun b ps h => ?_⟩
    obtain ⟨more, h⟩ := u.tbls b ps h
    exact ⟨more, back _ _ (by intro z; cases z) h⟩
  · obtain ⟨a, b, c⟩ := I.pin p hp
    exact ⟨a, off _ b, c⟩
  · intro a o h
    have ha : a ≠ D := fun z => by rw [z, n] at h; cases h
    refine (I.hok a o (by rw [upd_ne ha]; exact h)).stay (fun _ _ _ z => z) (fun b h => back _ _ (by intro z; cases z) h) (fun b ys h => back _ _ (by intro z; cases z) h)
theorem pe_drop {e : Expr} {te : TE} (he : PE X e te) : PE X e (fun σ H Q => te σ H fun v H1 => ∃ D xs H2, H1 = upd H2 D (.lst xs) ∧ H2 D = none ∧ Q v H2) := by
  refine ⟨fun pins s σ H Q I h => ?_⟩
  exact wpAny_mono (he.run pins s σ H _ I h) (fun u s1 ⟨v, H1, I1, r, D, xs, H2, e, n, q⟩ => ⟨v, H2, inv_drop I1 e n, r, q⟩) fun _ _ h => h
theorem ix_seqK {K : PySem.W.Frag} (h : X.K = K) : IxR X (rIx K) := h ▸ ix_seq
end
end My
namespace My
open PySem L2 PyProof.Rows
/-! ### contracts of defs that are called where nothing is being shown -/
structure FnG (P : Program) (w : World) (K : PySem.W.Frag) (mg : Str → Option Value) (base : Heap) (k : Nat) (f : Addr) (fd : FuncData) (ps : List Str) (sp : Sp) : Prop where
  len : ∀ vs H Q E, sp vs H Q E → vs.length = ps.length
  run : ∀ (A : Around) (outer : List Env) (s : Shared) (H : Hp) (args : Args) (us : List Value) (vs : List V) (Q : VK) (E : XK), Room k A → A.guards = some [] → Env0 P w K mg base A outer s H → BindsTo s fd args (ps.zip us) → Vals vs us → sp vs H Q E →
    codeAny (model P w) A (.call (.ref f) args) (CR CX0 outer P w H s Q E) s
section
variable {P : Program} {w : World} {K : PySem.W.Frag} {mg : Str → Option Value} {base : Heap}
theorem FnG.ofOk {k : Nat} {f : Addr} {fd : FuncData} {ps : List Str} {sp : Sp} (F : FnOk P w K mg base CX0 k f fd ps sp) : FnG P w K mg base k f fd ps sp :=
  ⟨F.len, fun A outer s H args us vs Q E hr _ he hb hv hs => F.run A outer s H args us vs Q E hr he hb hv hs⟩
theorem FnG.ofBody {x qual : Str} {st : Stmt} {f : Addr} {fd : FuncData} {N ps : List Str} {k : Nat} {sp : Sp} (F : Fun K x qual st f fd) (S : FnScope N ps (defScope st)) (len : ∀ vs H Q E, sp vs H Q E → vs.length = ps.length)
    (body : ∀ (cdv : Value) (A : Around) (outer : List Env) (s : Shared) (H : Hp) (vs : List V) (Q : VK) (E : XK), Room k (A.deeper (envOfC qual (defScope st) s.heap.objs.size f cdv)) → A.guards = some [] → sp vs H Q E →
      ∃ t, PSs (cxOf CX0 P w K mg base N qual (defScope st) f cdv A outer s H E).nox (defBody st) t ∧ t { nx := fun _ H' => Q .non H', rt := Q } (start N vs) H) : FnG P w K mg base (k + 1) f fd ps sp := by
  obtain ⟨oc, od, kV, doc, pm, an, cdv, ct, osl, rfl, lk, hcd⟩ := F.ex
  constructor
  · exact len
  intro A outer s H args us vs Q E room quiet env bound rel want
  have many := len _ _ _ _ want
  have inK : K.In s.heap := env.mod.kin.keeps (fun b o e => (env.bs b o e).1)
  have unlimited : s.heap.NoLimit := env.mod.nolimit.keeps (fun b o e => (env.bs b o e).1)
  have kinds : ∀ y ∈ ps.zip us, (defScope st).names.lookup y.1 = some .local ∨ ((defScope st).names.lookup y.1 = some .cell ∧ ((cellsFrom (s.heap.objs.size + 1) (defScope st).names []).lookup y.1).isSome = true) := by
    rintro ⟨n, v⟩ hy
    exact (S.par n (List.of_mem_zip hy).1).imp id (fun q => ⟨q, PySem.W.cellsFrom_some _ _ _ (.inl q)⟩)
  refine codeAny_call_function room.depth (inK _ _ lk) rfl S.co S.gen rfl (PySem.W.codeRec_of inK hcd) (bound _ _ _ _ (wpAny_newFunctionEnv_cells S.kind kinds ?_))
  rintro env' rfl s1 x
  obtain ⟨t, ht, hq⟩ := body cdv A outer s H vs Q E (room.deeper _) quiet want
  have I := inv_start (CX := CX0) (E := E) S room.hd env many rel x
  refine ⟨unlimited.keeps x.toInCall.keep, codeAny_func (wpAny_mono (ht.nox.run [] s1 (start N vs) H _ I hq) ?_ (fun _ _ h => h))⟩
  intro fl s' hs
  cases fl with
  | ret u =>
    obtain ⟨v, σ', H', J, rv, q⟩ := hs
    exact ⟨v, H', J.os, J.bare, J.base, J.hok, rv, q⟩
  | next =>
    obtain ⟨σ', H', J, q⟩ := hs
    exact ⟨V.non, H', J.os, J.bare, J.base, J.hok, (rfl : RelV V.non Value.none), q⟩
  | brk => exact hs.elim fun _ h => h.elim fun _ h => h.2.elim
  | cont => exact hs.elim fun _ h => h.elim fun _ h => h.2.elim
end
section
variable {X : Cx} {k : Nat} {f : Addr} {fd : FuncData} {ps ks : List Str} {sp : Sp} {ds : List Value} {x : Str} {p pos : Pos} {e : Expr} {es : List Expr} {kws : List Keyword} {t tk : TA} {g : List Value → List Value → List Value} {gV : List V → List V → List V}
theorem run_fnG {pins : List (Addr × Obj)} {σ : L2.St} {H : Hp} {s : Shared} {Q : VK} {us ws : List Value} {vs zs : List V} (F : FnG X.prog X.w X.K X.mg X.base k f fd ps sp) (hr : Room k X.A) (quiet : X.A.guards = some []) (hb : KBinds X.K fd ps ks g gV)
    (I : Inv X pins σ H s) (r : Vals vs us) (rz : Vals zs ws) (h : sp (gV vs zs) H Q E0) : wpAny (model X.prog X.w) X.A (call (.ref f) us (ks.zip ws)) (EP X pins σ Q) X.xe s := by
  have r2 := hb.rel r rz
  have many : (g us ws).length = ps.length := r2.length.symm.trans (F.len _ _ _ _ h)
  refine wpAny_call (codeAny_mono (F.run X.A X.stack s H _ _ _ Q E0 hr quiet I.env0 (hb.to s us ws I.kIn many) r2 h) ?_)
  rintro (e | fl) s' hq
  · exact False.elim hq
  cases fl with
  | ret u => exact I.after hq
  | next | brk | cont => exact hq.elim
/-- arguments by place alone -/
theorem KBinds.none {K : PySem.W.Frag} {fd : FuncData} {ps : List Str} (b : Binds K fd ps []) : KBinds K fd ps [] (fun us _ => us) (fun vs _ => vs) := by
  refine ⟨fun s us ws X hl => ?_, fun r _ => r⟩
  have := b s us X (by rw [List.append_nil]; exact hl)
  rw [List.append_nil] at this
  exact this
theorem pe_callG (F : FnG X.prog X.w X.K X.mg X.base k f fd ps sp) (hr : Room k X.A) (quiet : X.A.guards = some []) (hg : Gl X x) (hm : X.mg x = some (.ref f)) (hk : PySem.W.keepIn X.K (.ref f) = true) (hb : Binds X.K fd ps [])
    (ha : PA X (e :: es) t) (hdb : (x == ("__debug__" : Str)) = false := by decide) (he : starEach (e :: es) X.env = (false, eval e X.env) :: starEach es X.env := by rfl) (hpl : (backTo pos (starEach es X.env)).any (·.1) = false := by rfl) :
    PE X (.Call (.Name x p) (e :: es) [] pos) (tCall sp [] E0 t) := by
  constructor
  intro pins s σ H Q I h
  refine wpAny_Call_Name_kw (ld_glob I hg hm (PySem.W.callWith_K (h₀ := X.base) I.ok.mod.kin hk (thn (ha.run pos pins s σ H _ I h) ?_) he hpl) hdb)
  rintro us s1 ⟨vs, H1, I1, r, q⟩
  refine ⟨I1.kIn, ?_⟩
  have q' : sp vs H1 Q E0 := by
    have q2 : sp (vs ++ []) H1 Q E0 := q
    rwa [List.append_nil] at q2
  exact run_fnG (ws := []) (zs := []) F hr quiet (KBinds.none hb) I1 r .nil q'
end
/-! ### a law whose promise is kept where nothing is being shown -/
theorem quiet_caller : callerA.guards = some [] := rfl
/-- from an abstract heap in which at most the script is told -/
theorem law_from {P : Program} {w : World} {K : PySem.W.Frag} {mg mb : Str → Option Value} {k : Nat} {fa a : Addr} {fd : FuncData} {x : Str} {sp : Sp} {s₁ : Shared} {vs : List Value} {H : Hp}
    (inK : K.In s₁.heap) (main : s₁.heap.Ns mainGlobals mg) (bui : s₁.heap.Ns builtinsNs mb) (same : ∀ x : Str, x ≠ "__name__" → mb x = bootBuiltins x) (lim : s₁.heap.NoLimit) (gens : s₁.gens = #[])
    (at_a : s₁.heap.get? a = some { cls := .type "list", data := .seq vs.toArray }) (room : Room k callerA)
    (F : ∀ base : Heap, K.In base → base.Ns mainGlobals mg → FnG P w K mg base k fa fd [x] sp) (bound : ∀ (s : Shared) (u : Value), BindsTo s fd ⟨[u], []⟩ [(x, u)])
    (only : Only H) (hok : HOk P w H s₁.heap) (isA : ∀ b, H b ≠ none → b = a) (notK : H a ≠ none → K.lookup a = none) (want : sp [.ref a] H (fun v _ => v = .bl true) fun _ _ _ => False) :
    codeAny (model P w) callerA (.call (.ref fa) ⟨[.ref a], []⟩) (fun r s' => r = .ok (.ret (.bool true)) ∧ OldK s₁.heap s'.heap ∧ s'.os = s₁.os ∧ AllBare s'.gens) s₁ := by
  have free : ∀ b, b ≠ a → H b = none := by
    intro b hb
    cases q : H b with
    | none => rfl
    | some u => exact absurd (isA b (fun z => by rw [z] at q; cases q)) hb
  have shown : ∀ {b : Addr} {o : Obj}, s₁.heap.get? b = some o → H b = none → (hidT s₁.heap H).get? b = some o := fun e n => hidT_get e n
  have names : ∀ {b : Addr} {m : Str → Option Value}, s₁.heap.Ns b m → (hidT s₁.heap H).Ns b m := by
    rintro b m ⟨o, es, ep, e, d, r⟩
    refine ⟨o, es, ep, shown e (free b ?_), d, r⟩
    rintro rfl
    rw [at_a] at e
    cases e
    exact nomatch d
  have inHid : K.In (hidT s₁.heap H) := by
    intro b o e
    refine shown (inK b o e) ?_
    cases q : H b with
    | none => rfl
    | some u =>
      have ne : H b ≠ none := fun z => by rw [z] at q; cases q
      have eb := isA b ne
      subst eb
      rw [notK ne] at e
      cases e
  obtain ⟨mc, l1, l2⟩ := lim
  have env : Env0 P w K mg (hidT s₁.heap H) callerA [] s₁ H := {
    frames := rfl
    mod := ⟨inHid, names main, ⟨mb, names bui, same⟩, ⟨mc, names l1, l2⟩⟩
    bs := fun _ _ e => of_hidT e
    bsz := Nat.le_of_eq (hidT_size _ _)
    funs := trivial
    frf := fun b hb => nomatch (show b ∈ ([] : List Addr) from hb)
    hok := hok
    bare := .of_eq gens }
  refine codeAny_mono ((F _ inHid (names main)).run callerA [] s₁ H ⟨[.ref a], []⟩ [.ref a] [.ref a] _ _ room quiet_caller env (bound s₁ (.ref a)) (.cons rfl .nil) want) ?_
  rintro (e | fl) s' h
  · exact False.elim h
  cases fl with
  | next | brk | cont => exact False.elim h
  | ret u =>
    obtain ⟨v, H', os, bare, un, hok', rel, q⟩ := h
    cases (show v = .bl true from q)
    cases (show u = Value.bool true from rel)
    refine ⟨rfl, .of_keep ?_, os, bare⟩
    intro b o e
    rcases only b with z | ⟨ob, xs, z⟩
    · exact un.keep b o e z (fun m => nomatch (show b ∈ ([] : List Addr) from m)) (fun m => nomatch m)
    · have z2 := un.frzs b ob _ z
      have e1 := (hok b _ z).1
      rw [e] at e1
      cases e1
      exact (hok' b _ z2).1
theorem law_callG {P : Program} {w : World} {K : PySem.W.Frag} {mg mb : Str → Option Value} {k : Nat} {fa a : Addr} {fd : FuncData} {x : Str} {sp : Sp} {s₁ : Shared} {vs : List Value} {ns : List Int}
    (inK : K.In s₁.heap) (main : s₁.heap.Ns mainGlobals mg) (bui : s₁.heap.Ns builtinsNs mb) (same : ∀ x : Str, x ≠ "__name__" → mb x = bootBuiltins x) (lim : s₁.heap.NoLimit) (gens : s₁.gens = #[])
    (at_a : s₁.heap.get? a = some { cls := .type "list", data := .seq vs.toArray }) (hints : IntsAre vs ns) (short : ns.length ≤ sizeLine) (room : Room k callerA)
    (F : ∀ base : Heap, K.In base → base.Ns mainGlobals mg → FnG P w K mg base k fa fd [x] sp) (bound : ∀ (s : Shared) (u : Value), BindsTo s fd ⟨[u], []⟩ [(x, u)])
    (want : ∀ H : Hp, Only H → SqL K H a (ns.map V.int) → sp [.ref a] H (fun v _ => v = .bl true) fun _ _ _ => False) :
    codeAny (model P w) callerA (.call (.ref fa) ⟨[.ref a], []⟩) (fun r s' => r = .ok (.ret (.bool true)) ∧ OldK s₁.heap s'.heap ∧ s'.os = s₁.os ∧ AllBare s'.gens) s₁ := by
  have rel := vals_ints hints
  have many := hints.length
  have go := fun (H : Hp) (o : Only H) hok isA notK w => law_from (mb := mb) inK main bui same lim gens at_a room F bound (H := H) o hok isA notK w
  cases hk : K.lookup a with
  | some o =>
    have e := inK a o hk
    rw [at_a] at e
    cases e
    have nobody : Only (fun _ => none) := fun _ => .inl rfl
    refine go _ nobody (fun b u z => nomatch (show (none : Option HO) = some u from z)) (fun b z => absurd rfl z) (fun z => absurd rfl z) (want _ nobody (.inr ⟨_, vs.toArray, _, hk, rfl, rfl, rfl, ?_, ?_⟩))
    · rw [List.size_toArray, many]
      exact short
    · simpa using rel
  | none =>
    have key : ∃ H : Hp, H = fun b => if b = a then some (.frz { cls := .type "list", data := .seq vs.toArray } (.lst (ns.map V.int))) else none := ⟨_, rfl⟩
    obtain ⟨H, eH⟩ := key
    have there : H a = some (.frz { cls := .type "list", data := .seq vs.toArray } (.lst (ns.map V.int))) := by rw [eH]; exact if_pos rfl
    have else_ : ∀ b, b ≠ a → H b = none := fun b hb => by rw [eH]; exact if_neg hb
    have only : Only H := fun b => by
      by_cases hb : b = a
      · rw [hb]; exact .inr ⟨_, _, there⟩
      · exact .inl (else_ b hb)
    refine go H only (fun b u z => ?_) (fun b z => ?_) (fun _ => hk) (want H only (.inl (.inr ⟨_, there⟩)))
    · by_cases hb : b = a
      · subst hb
        rw [there] at z
        cases z
        exact ⟨at_a, by rw [List.length_map]; exact short, vs, _, rel, at_a⟩
      · rw [else_ b hb] at z
        cases z
    · by_cases hb : b = a
      · exact hb
      · exact absurd (else_ b hb) z
theorem walk_ofG {l : PySem.W.OpenLaw} {n k : Nat} {q : Program} {loose : List Str} {XP : (Str → Option Value) → Heap → Prop} {YP : World → Heap → Prop} {d : DefRec} {K : Params → PySem.W.Frag} {sp : World → Sp} {x : Str}
    (hn : l.most = some n) (hn2 : n ≤ sizeLine) (hdf : d.params.defaults = []) (room : Room k callerA) (hY : ∀ (w : World) (h : Heap), YP w h → (K w.params).In h)
    (F : ∀ (w : World) (mg : Str → Option Value) (fa : Addr) (h : Heap), (K w.params).In h → h.Ns mainGlobals mg → mg d.name = some (.ref fa) →
      ∃ fd : FuncData, (∀ (s : Shared) (u : Value), BindsTo s fd ⟨[u], []⟩ [(x, u)]) ∧ ∀ base : Heap, (K w.params).In base → base.Ns mainGlobals mg → FnG l.prog w (K w.params) mg base k fa fd [x] (sp w))
    (want : ∀ (w : World) (H : Hp) (a : Addr) (ns : List Int), ns.length ≤ n → Only H → SqL (K w.params) H a (ns.map V.int) → sp w [.ref a] H (fun v _ => v = .bl true) fun _ _ _ => False) :
    PySem.W.WalkO q loose XP YP l.row.toRowW d [] (fun f vs => PySem.call f vs) := by
  apply Att.attach_call hn hdf
  intro w s₀ s₁ mg mb fa o pm cd doc a vs ns G Y ho hd hcd hmg hobj hints hlen hg
  have inK := hY w _ Y
  obtain ⟨fd, bound, hF⟩ := F w mg fa _ inK G.T.g hmg
  exact law_callG inK G.T.g G.T.b G.T.builtins G.T.nolimit hg hobj hints (Nat.le_trans hlen hn2) room hF bound (fun H hO hS => want w H a ns hlen hO hS)
/-! ### repr of a list -/
section
variable {X : Cx}
theorem call_repr_data (quiet : X.A.guards = some []) (hu : X.A.units + 70 < cLine) : CallR X (.builtin "repr") (fun xs H Q => ∃ a d, xs = [.ref a] ∧ Dp X.K H (.ref a) d ∧ d.showable = true ∧ d.hasDict = false ∧ d.depth ≤ 60 ∧ d.shown.length ≤ sizeLine ∧ Q (.str d.shown) H) := by
  intro pins s σ H xs us Q I r h
  obtain ⟨a, d, rfl, hd, hs, hnd, hdp, hz, q⟩ := h
  obtain ⟨u, rfl, e⟩ := vals1 r
  cases e
  obtain ⟨as, rd⟩ := Dp.reads I d _ _ hd (rfl : RelV (.ref a) (.ref a))
  exact repr_of_reads' rd hs (PyData.noDict_hsm hnd) quiet (by omega) (fun _ _ e => e) (fun h' u tk hk => ⟨.str _, H, I.kept hk, ⟨_, rfl⟩, q⟩) hz
end
end My
namespace My
open PySem L2 PyProof.Rows
/-! ### the rules within a comprehension -/
section
variable {X : Cx} {K : PySem.W.Frag}
theorem ix_listK (h : X.K = K) : IxR X (rIxL K) := h ▸ ix_list
theorem ix_tupK (h : X.K = K) : IxR X (rIxT K) := h ▸ ix_tup
theorem pi_listK {tg l : Expr} {tl : TE} (h : X.K = K) (hl : PE X l tl) : PI X tg l (iList K tl) := h ▸ pi_list hl
theorem call_len_seqK (h : X.K = K) : CallR X (.builtin "len") (fun xs H Q => ∃ p ys, xs = [V.ref p] ∧ (SqL K H p ys ∨ SqT K H p ys) ∧ Q (.int (ys.length : Int)) H) := h ▸ call_len_seq
theorem op_in_seqK (h : X.K = K) : OpR X (compareOp .In) (rIn K false) := h ▸ op_in_seq
theorem op_notIn_seqK (h : X.K = K) : OpR X (compareOp .NotIn) (rIn K true) := h ▸ op_notIn_seq
end
theorem mt_indexK {X : Cx} {K : PySem.W.Frag} (h : X.K = K) : MtR X "list.index" (rIndex K) := h ▸ mt_index
theorem pe_bmK {X : Cx} {K : PySem.W.Frag} {o e : Expr} {es : List Expr} {to : TE} {t : TA} {name : Str} {apos cpos : Pos} {T id : String} {r : V → List V → Hp → VK → Prop} (h : X.K = K) (pa : PlainAttrs T) (slot : Slot T name id) (hty : typeOf (.builtin id) = pure (.type "method_descriptor")) (hm : MtR X id r) (ho : PE X o to) (ha : PA X (e :: es) t)
    (hbase : attributeBase o name X.env (eval o X.env) = eval o X.env := by rfl)
    (hfew : ((backTo cpos (starEach (e :: es) X.env)).all (fun x => !x.1) && (backToKw cpos (keywordEach [] X.env)).all (fun x => x.1.isSome)
      && decide ((e :: es).length + ([] : List Keyword).length + (if ([] : List Keyword).isEmpty then 0 else 1) < 30)) = true := by rfl)
    (hline : (apos.endLine == cpos.line) = true := by rfl) (hs : starEach (e :: es) X.env = (false, eval e X.env) :: starEach es X.env := by rfl) (hplain : (backTo cpos (starEach es X.env)).any (·.1) = false := by rfl) :
    PE X (.Call (.Attribute o name apos) (e :: es) [] cpos) (tBM K T r to t) := h ▸ pe_bm pa slot hty hm ho ha hbase hfew hline hs hplain
/-- a field, read within a comprehension -/
theorem pe_fldK {X : Cx} {K : PySem.W.Frag} {e : Expr} {ta : TE} {f : Str} {pos : Pos} (h : X.K = K) (he : PE X e ta) (hb : attributeBase e f X.env (eval e X.env) = eval e X.env := by rfl) : PE X (.Attribute e f pos) (tFld K ta f) := h ▸ pe_fld he hb
theorem pe_fldA {X : Cx} {e : Expr} {ta : TE} {f : Str} {pos : Pos} (he : PE X e ta) (hb : attributeBase e f X.env (eval e X.env) = eval e X.env := by rfl) : PE X (.Attribute e f pos) (tFld X.K ta f) := pe_fld he hb
/-! ### defs that may show a value (repr) -/
theorem hu70 {k : Nat} {A : Around} (h : Room k A) : A.units + 70 < cLine := by
  have := h.un
  omega
theorem u65 {k : Nat} {A : Around} (h : Room k A) : A.units + 65 < cLine := by
  have := h.un
  omega
section
variable {P : Program} {w : World} {K : PySem.W.Frag} {mg : Str → Option Value} {base : Heap}
def GoodG (P : Program) (w : World) (K : PySem.W.Frag) (mg : Str → Option Value) (base : Heap) (x : Str) (st : Stmt) (ps : List Str) (k : Nat) (sp : Sp) : Prop := ∃ (f : Addr) (fd : FuncData), FnG P w K mg base k f fd ps sp ∧ mg x = some (.ref f) ∧ PySem.W.keepIn K (.ref f) = true ∧ Binds K fd ps [] ∧ Fun K x x st f fd
theorem Def.goodG {x : Str} {st : Stmt} {ps : List Str} {k : Nat} {sp : Sp} (D : Def K mg x st ps) (h : ∀ f fd, Fun K x x st f fd → FnG P w K mg base k f fd ps sp) : GoodG P w K mg base x st ps k sp := by
  obtain ⟨f, fd, F, m, b⟩ := D
  exact ⟨f, fd, h f fd F, m, F.kp, b, F⟩
end
end My
namespace My
open PySem L2 PyProof.Rows
/-! ### methods, properties, __init__ of a class at C -/
section
variable {P : Program} {w : World} {K : PySem.W.Frag} {mg : Str → Option Value} {base : Heap} {C : Addr}
def DefM (K : PySem.W.Frag) (C : Addr) (x qual : Str) (st : Stmt) (ps : List Str) : Prop := ∃ (f : Addr) (fd : FuncData), Fun K x qual st f fd ∧ Meth K C x f ∧ Binds K fd ps []
def DefP (K : PySem.W.Frag) (C : Addr) (x qual : Str) (st : Stmt) (ps : List Str) : Prop := ∃ (p f : Addr) (fd : FuncData), Fun K x qual st f fd ∧ PropOf K C x p f ∧ Binds K fd ps []
def DefI (K : PySem.W.Frag) (C : Addr) (x qual : Str) (st : Stmt) (ps : List Str) : Prop := ∃ (f : Addr) (fd : FuncData), Fun K x qual st f fd ∧ Mk K C f ∧ Binds K fd ps []
def GoodM (P : Program) (w : World) (K : PySem.W.Frag) (mg : Str → Option Value) (base : Heap) (C : Addr) (x qual : Str) (st : Stmt) (ps : List Str) (k : Nat) (sp : Sp) : Prop := ∃ (f : Addr) (fd : FuncData), FnOk P w K mg base CX0 k f fd ps sp ∧ Meth K C x f ∧ Binds K fd ps [] ∧ Fun K x qual st f fd
def GoodP (P : Program) (w : World) (K : PySem.W.Frag) (mg : Str → Option Value) (base : Heap) (C : Addr) (x _qual : Str) (_st : Stmt) (ps : List Str) (k : Nat) (sp : Sp) : Prop := ∃ (p f : Addr) (fd : FuncData), FnOk P w K mg base CX0 k f fd ps sp ∧ PropOf K C x p f ∧ Binds K fd ps []
def GoodI (P : Program) (w : World) (K : PySem.W.Frag) (mg : Str → Option Value) (base : Heap) (C : Addr) (x _qual : Str) (_st : Stmt) (ps : List Str) (k : Nat) (sp : Sp) : Prop := ∃ (f : Addr) (fd : FuncData), FnOk P w K mg base CX0 k f fd ps sp ∧ Mk K C f ∧ Binds K fd ps []
theorem DefM.good {x qual : Str} {st : Stmt} {ps : List Str} {k : Nat} {sp : Sp} (D : DefM K C x qual st ps) (h : ∀ f fd, Fun K x qual st f fd → FnOk P w K mg base CX0 k f fd ps sp) : GoodM P w K mg base C x qual st ps k sp := by
  obtain ⟨f, fd, F, m, b⟩ := D
  exact ⟨f, fd, h f fd F, m, b, F⟩
theorem DefP.good {x qual : Str} {st : Stmt} {ps : List Str} {k : Nat} {sp : Sp} (D : DefP K C x qual st ps) (h : ∀ f fd, Fun K x qual st f fd → FnOk P w K mg base CX0 k f fd ps sp) : GoodP P w K mg base C x qual st ps k sp := by
  obtain ⟨p, f, fd, F, m, b⟩ := D
  exact ⟨p, f, fd, h f fd F, m, b⟩
theorem DefI.good {x qual : Str} {st : Stmt} {ps : List Str} {k : Nat} {sp : Sp} (D : DefI K C x qual st ps) (h : ∀ f fd, Fun K x qual st f fd → FnOk P w K mg base CX0 k f fd ps sp) : GoodI P w K mg base C x qual st ps k sp := by
  obtain ⟨f, fd, F, m, b⟩ := D
  exact ⟨f, fd, h f fd F, m, b⟩
end
def g123 {α : Type} : List α → List α → List α | [], [a, b, c] => [a, b, c] | _, _ => []
theorem g123_inv {α : Type} {us ws : List α} (h : (g123 us ws).length = 3) : us = [] ∧ ∃ a b c, ws = [a, b, c] := by
  unfold g123 at h
  split at h
  · exact ⟨rfl, _, _, _, rfl⟩
  · simp at h
theorem rel123 {vs : List V} {us : List Value} {zs : List V} {ws : List Value} (a : Vals vs us) (b : Vals zs ws) : Vals (g123 vs zs) (g123 us ws) := by
  cases a with
  | cons h t => exact .nil
  | nil => cases b with
    | nil => exact .nil
    | cons h1 t => cases t with
      | nil => exact .nil
      | cons h2 t => cases t with
        | nil => exact .nil
        | cons h3 t => cases t with
          | nil => exact .cons h1 (.cons h2 (.cons h3 .nil))
          | cons h4 t => exact .nil
/-- self, then one keyword -/
def gm1 {α : Type} : List α → List α → List α | [a], [b] => [a, b] | _, _ => []
theorem gm1_inv {α : Type} {us ws : List α} (h : (gm1 us ws).length = 2) : ∃ a b, us = [a] ∧ ws = [b] := by
  unfold gm1 at h
  split at h
  · exact ⟨_, _, rfl, rfl⟩
  · simp at h
theorem relm1 {vs : List V} {us : List Value} {zs : List V} {ws : List Value} (a : Vals vs us) (b : Vals zs ws) : Vals (gm1 vs zs) (gm1 us ws) := by
  cases a with
  | nil => exact .nil
  | cons h t => cases t with
    | cons h2 t => exact .nil
    | nil => cases b with
      | nil => exact .nil
      | cons h1 t => cases t with
        | nil => exact .cons h (.cons h1 .nil)
        | cons h2 t => exact .nil
/-! ### a list or a tuple, gone through -/
section
variable {X : Cx}
theorem pi_or {tg e : Expr} {w1 w2 : TI} (h1 : PI X tg e w1) (h2 : PI X tg e w2) : PI X tg e (fun σ H R => w1 σ H R ∨ w2 σ H R) := by
  constructor
  intro pins s σ H R I h
  rcases h with h | h
  · exact h1.run pins s σ H R I h
  · exact h2.run pins s σ H R I h
end
end My
namespace My
open PySem PySem.W L2 L2.DX PyProof.Rows
/-! ### d.items() of a dict by texts, sorted -/
section
variable {X : Cx}
def rItemsK : V → List V → Hp → VK → Prop := fun x xs H Q => ∃ (a : Addr) (kvs : List (Key × V)), x = .ref a ∧ xs = [] ∧ H a = some (.dK kvs) ∧ ∀ p, H p = none → Q (.ref p) (upd H p (itemsO p a))
theorem mt_itemsK : MtR X "dict.items" rItemsK := by
  intro pins s σ H x xs v us Q I rx rxs h
  obtain ⟨d, kvs, rfl, rfl, hd0, q⟩ := h
  cases rx
  cases rxs
  obtain ⟨_, hd, vs, rel, dof⟩ := dk_of I.hok hd0
  obtain ⟨es, ep, raw, _, _⟩ := PySem.Heap.DictOf.raw dof
  exact DT.callItems (es := es) (ep := ep) hd raw ⟨.ref s.heap.objs.size, upd H s.heap.objs.size (itemsO s.heap.objs.size d), I.laid (t' := s.toks) (fun b u e => Heap.get?_push_of_some _ e) (Nat.le_refl _) (itemsO_ok (Heap.get?_push_size _ rfl)), rfl, q _ (I.hok.fresh (Nat.le_refl _))⟩
/-- an entry: a text and a number -/
abbrev entSI (e : Str × Int) : Key × V := (Sum.inr e.1, .int e.2)
abbrev encSI (e : Str × Int) : PyData := .tuple [.str e.1, .int e.2]
theorem kv_at : ∀ {kvs : List (Key × V)} {vs : List (Key × Value)}, KV kvs vs → ∀ {j : Nat} {p : Key × V}, kvs[j]? = some p → ∃ q, vs[j]? = some q ∧ p.1 = q.1 ∧ RelV p.2 q.2
  | _, _, .nil, _, _, h => by simp at h
  | _, _, .cons r _, 0, _, h => by
    cases h
    exact ⟨_, rfl, r⟩
  | _, _, .cons _ t, j + 1, p, h => by
    obtain ⟨q, h1, h2⟩ := kv_at t (j := j) (by simpa using h)
    exact ⟨q, by simpa using h1, h2⟩
theorem eachIs_of {α β : Type} {R : α → β → Prop} : ∀ {as : List α} {bs : List β}, as.length = bs.length → (∀ (j : Nat) (a : α) (b : β), as[j]? = some a → bs[j]? = some b → R a b) → PySem.W.EachIs R as bs
  | [], [], _, _ => .nil
  | [], _ :: _, h, _ => by simp at h
  | _ :: _, [], h, _ => by simp at h
  | a :: as, b :: bs, h, k => .cons (k 0 a b rfl rfl) (eachIs_of (by simpa using h) fun j x y hx hy => k (j + 1) x y (by simpa using hx) (by simpa using hy))
theorem encSI_alike (kvs : List (Str × Int)) : AllAlike (kvs.map encSI) := by
  intro d hd d' hd'
  obtain ⟨e, _, rfl⟩ := List.mem_map.mp hd
  obtain ⟨e', _, rfl⟩ := List.mem_map.mp hd'
  rfl
theorem encSI_sortable (kvs : List (Str × Int)) : Sortable (kvs.map encSI) := .tuples fun b => ⟨_, _, rfl⟩
theorem eachIs_refs {β : Type} {as : List Addr} {bs : List β} : ∀ {out : List Value} {cs : List β}, PySem.W.EachIs (fun v b => ∃ (j : Nat) (x : Addr), v = Value.ref x ∧ as[j]? = some x ∧ bs[j]? = some b) out cs →
    ∃ ts : List Addr, out = ts.map Value.ref ∧ Paired (fun (x : Addr) (b : β) => ∃ j : Nat, as[j]? = some x ∧ bs[j]? = some b) ts cs
  | _, _, .nil => ⟨[], rfl, .nil⟩
  | _, _, .cons h t => by
    obtain ⟨j, x, rfl, h1, h2⟩ := h
    obtain ⟨ts, rfl, hp⟩ := eachIs_refs t
    exact ⟨x :: ts, rfl, .cons ⟨j, h1, h2⟩ hp⟩
theorem paired_imp {α β : Type} {F G : α → β → Prop} (h : ∀ a b, F a b → G a b) : ∀ {l1 : List α} {l2 : List β}, Paired F l1 l2 → Paired G l1 l2
  | _, _, .nil => .nil
  | _, _, .cons a r => .cons (h _ _ a) (paired_imp h r)
theorem vals_refs : ∀ ts : List Addr, Vals (ts.map V.ref) (ts.map Value.ref)
  | [] => .nil
  | _ :: r => .cons rfl (vals_refs r)
/-- the told list is new, its pairs too -/
def rSortItK : List V → Hp → VK → Prop := fun vs H Q => ∃ (p a : Addr) (kvs : List (Str × Int)), vs = [.ref p] ∧ H p = some (itemsO p a) ∧ H a = some (.dK (kvs.map entSI)) ∧ kvs.length ≤ 100000 ∧
  ∀ (H' : Hp) (l : Addr) (ts : List Addr), (∀ b o, H b = some o → H' b = some o) → H l = none → H' l = some (.lst (ts.map V.ref)) → Paired (fun t (e : Str × Int) => H' t = some (.tup [.str e.1, .int e.2])) ts (kvs.mergeSort (dataLe false encSI)) → Q (.ref l) H'
theorem cr_sortItK (hc : X.calm = true) (hu : X.A.units + 64 < cLine) : CallR X (.builtin "sorted") rSortItK := by
  intro pins s σ H xs us Q I r h
  obtain ⟨p, a, kvs, rfl, hp, ha, hlen, q⟩ := h
  obtain rfl := Vals.ref1 r
  have vw : s.heap.IsItemsView p a := by
    have z : ObjOk X.prog X.w H s.heap p (itemsO p a) := I.hok p _ hp
    exact z.1
  obtain ⟨_, hd, vs, rel, dof⟩ := dk_of I.hok ha
  obtain ⟨es, ep, raw, hsz, hent⟩ := PySem.Heap.DictOf.raw dof
  have l1 : vs.length = kvs.length := by
    have := Paired.length rel
    rw [List.length_map] at this
    exact this.symm
  have small : kvs.length ≤ sizeLine := Nat.le_trans hlen (by decide)
  refine DT.sortedI (es := es) (ep := ep) (I.ok.hd hc) vw raw (by rw [hsz, l1]; exact small) fun h' tk as kpt hlt hl mde => ?_
  have lak : as.length = kvs.length := by rw [hl, hsz, l1]
  have nod : as.Nodup := List.Pairwise.imp (fun h => Nat.ne_of_lt h) mde.rise
  have pr : ∀ (j : Nat) (b : Addr), as[j]? = some b → ∃ (e : Str × Int) (t t' : Tok), kvs[j]? = some e ∧ h'.get? b = some { cls := .type "tuple", data := .seq #[Value.str e.1 t, Value.int e.2 t'] } := fun j b ej => by
    obtain ⟨en, ee, gh⟩ := mde.pairs j b ej
    have hj2 : j < es.size := (Array.getElem?_eq_some_iff.mp ee).1
    have hj3 : j < kvs.length := by rw [← l1, ← hsz]; exact hj2
    obtain ⟨⟨k, v⟩, g1, g2, g3⟩ := kv_at rel (j := j) (p := entSI kvs[j]) (by rw [List.getElem?_map, List.getElem?_eq_getElem hj3]; rfl)
    obtain ⟨m1, m2⟩ := hent j hj2 k v g1
    have e1 : es[j] = en := (Array.getElem?_eq_some_iff.mp ee).2
    rw [e1] at m1 m2
    have g2' : k = Sum.inr kvs[j].1 := g2.symm
    subst g2'
    obtain ⟨t', ev⟩ : ∃ t', v = Value.int kvs[j].2 t' := g3
    rcases keyIs_shape (show keyIs (Sum.inr kvs[j].1) en.key = true from m1) with ⟨i, t, z, _⟩ | ⟨x, t, z, ek⟩
    · cases z
    · have ex : kvs[j].1 = x := Sum.inr.inj z
      refine ⟨kvs[j], t, t', List.getElem?_eq_getElem hj3, ?_⟩
      rw [gh, ek, m2, ev, ex]
  have gl : (h'.push { cls := .type "list", data := .seq (as.map Value.ref).toArray }).get? h'.objs.size = some (seqObj "list" (as.map Value.ref).toArray 0) := Heap.get?_push_size _ rfl
  have far : ∀ b o, h'.get? b = some o → b ≠ h'.objs.size := fun b o e => Nat.ne_of_lt (Heap.lt_size e)
  have kp : ∀ b o, h'.get? b = some o → (h'.push { cls := .type "list", data := .seq (as.map Value.ref).toArray }).get? b = some o := fun b o e => Heap.get?_push_of_some _ e
  generalize h'.push { cls := .type "list", data := .seq (as.map Value.ref).toArray } = h2 at gl kp ⊢
  have at_ : ∀ (j : Nat) (v : Value) (e : Str × Int), (as.map Value.ref)[j]? = some v → kvs[j]? = some e → ∃ b, v = .ref b ∧ as[j]? = some b := fun j v e hv _ => by
    rw [List.getElem?_map] at hv
    cases z : as[j]? with
    | none => rw [z] at hv; cases hv
    | some b => rw [z] at hv; exact ⟨b, (Option.some.inj hv).symm, rfl⟩
  refine list_sort_data (s := { s with heap := h2, toks := tk }) (R := fun v e => ∃ (j : Nat) (x : Addr), v = Value.ref x ∧ as[j]? = some x ∧ kvs[j]? = some e) (enc := encSI) (bs := kvs) gl (eachIs_of (by rw [List.length_map]; exact lak) fun j v e hv ee => ?_) (eachIs_of (by rw [List.length_map]; exact lak) fun j v e hv ee => ?_) (encSI_alike kvs) (encSI_sortable kvs) small (fun b _ => ?_) fun out ho1 ho2 => ?_
  · obtain ⟨b, e1, e2⟩ := at_ j v e hv ee
    exact ⟨j, b, e1, e2, ee⟩
  · obtain ⟨b, rfl, e2⟩ := at_ j v e hv ee
    obtain ⟨e', t, t', g1, g2⟩ := pr j b e2
    rw [ee] at g1
    cases g1
    exact ⟨[] ++ ([] ++ []), .tuple (kp _ _ g2) rfl rfl (.cons (.str _ _) (.cons (.int _ _) .nil)), by simp⟩
  · show X.A.units + 1 + 1 + 1 < cLine
    omega
  obtain ⟨ts, rfl, hts⟩ := eachIs_refs ho2
  show EP X pins σ Q (.ref h'.objs.size) { s with heap := sortedHeap h2 h'.objs.size (as.map Value.ref) (ts.map Value.ref).toArray, toks := tk }
  have kF : ∀ b o, b ≠ h'.objs.size → h2.get? b = some o → (sortedHeap h2 h'.objs.size (as.map Value.ref) (ts.map Value.ref).toArray).get? b = some o := fun b o hb e => (PyProof.Rows.sortedHeap_old hb (Heap.lt_size e)).trans e
  have kS : ∀ b o, s.heap.get? b = some o → (sortedHeap h2 h'.objs.size (as.map Value.ref) (ts.map Value.ref).toArray).get? b = some o := fun b o e => kF b o (far _ _ (kpt b o e)) (kp b o (kpt b o e))
  obtain ⟨eF, heF⟩ := PyProof.Rows.sortedHeap_at (vs := as.map Value.ref) (out := (ts.map Value.ref).toArray) gl
  generalize sortedHeap h2 h'.objs.size (as.map Value.ref) (ts.map Value.ref).toArray = hz at kF kS heF ⊢
  have free0 : H h'.objs.size = none := I.hok.fresh (Nat.le_of_lt hlt)
  have htl : (ts.map V.ref).length ≤ sizeLine := by
    rw [List.length_map] at ho1 ⊢
    rw [ho1]
    exact small
  have I2 : Inv X pins σ (upd H h'.objs.size (.lst (ts.map V.ref))) { s with heap := hz, toks := tk } :=
    (I.kept (t' := tk) kS).take (h' := hz) (t' := tk) (fun b ob _ e => e) (I.fpOk (Nat.le_of_lt hlt) free0) ⟨htl, ts.map Value.ref, eF, vals_refs ts, heF⟩
  obtain ⟨H2, I3, g, qt⟩ := takeT (P := fun b vs => ∃ (j : Nat) (e : Str × Int), as[j]? = some b ∧ kvs[j]? = some e ∧ vs = [.str e.1, .int e.2]) I as _ I2 nod fun b hb => by
    obtain ⟨j, ej⟩ := List.mem_iff_getElem?.mp hb
    obtain ⟨e, t, t', ee, gh⟩ := pr j b ej
    have big : s.heap.objs.size ≤ b := Nat.le_of_lt (mde.above b hb)
    refine ⟨big, by rw [upd_ne (far _ _ gh)]; exact I.hok.fresh big, [.str e.1, .int e.2], ⟨j, e, ej, ee, rfl⟩, fun H3 => ⟨(by show 2 ≤ sizeLine; decide), [Value.str e.1 t, Value.int e.2 t'], .cons ⟨t, rfl⟩ (.cons ⟨t', rfl⟩ .nil), ⟨_, kF _ _ (far _ _ gh) (kp _ _ gh), rfl, 0, rfl⟩⟩⟩
  refine ⟨.ref h'.objs.size, H2, I3, rfl, q H2 h'.objs.size ts (fun b o e => g b o (by rw [upd_ne (ne_of_none e free0)]; exact e)) free0 (g _ _ upd_same) (paired_imp (fun x e hx => ?_) hts)⟩
  obtain ⟨i, i1, i2⟩ := hx
  obtain ⟨vs', ⟨j, e', j1, j2, ev⟩, hH⟩ := qt x (List.mem_of_getElem? i1)
  have eqi : i = j := (List.getElem?_inj (List.getElem?_eq_some_iff.mp i1).1 nod).mp (i1.trans j1.symm)
  subst eqi
  rw [i2] at j2
  cases j2
  rw [ev] at hH
  exact hH
end
end My
namespace My
open PySem PySem.W L2 L2.DX PyProof.Rows
section
variable {X : Cx}
theorem dp_at {K : PySem.W.Frag} {H : Hp} : ∀ {ys : List V} {ds : List PyData}, DpAll K H ys ds → ∀ {j : Nat} {y : V} {d : PyData}, ys[j]? = some y → ds[j]? = some d → Dp K H y d
  | _, _, .nil, _, _, _, h, _ => by simp at h
  | _, _, .cons p _, 0, _, _, h, k => by
    cases h
    cases k
    exact p
  | _, _, .cons _ t, j + 1, _, _, h, k => dp_at t (j := j) (by simpa using h) (by simpa using k)
theorem dp_len {K : PySem.W.Frag} {H : Hp} : ∀ {ys : List V} {ds : List PyData}, DpAll K H ys ds → ys.length = ds.length
  | _, _, .nil => rfl
  | _, _, .cons _ t => congrArg Nat.succ (dp_len t)
theorem vals_at : ∀ {ys : List V} {us : List Value}, Vals ys us → ∀ {j : Nat} {u : Value}, us[j]? = some u → ∃ y, ys[j]? = some y ∧ RelV y u
  | _, _, .nil, _, _, h => by simp at h
  | _, _, .cons r _, 0, _, h => by
    cases h
    exact ⟨_, rfl, r⟩
  | _, _, .cons _ t, j + 1, _, h => by
    obtain ⟨y, h1, h2⟩ := vals_at t (j := j) (by simpa using h)
    exact ⟨y, by simpa using h1, h2⟩
theorem out_vals {ys : List V} {ds : List PyData} : ∀ {out : List Value} {cs : List PyData}, PySem.W.EachIs (fun v d => ∃ (j : Nat) (y : V), ys[j]? = some y ∧ ds[j]? = some d ∧ RelV y v) out cs →
    ∃ zs : List V, Vals zs out ∧ Paired (fun (z : V) (d : PyData) => ∃ j : Nat, ys[j]? = some z ∧ ds[j]? = some d) zs cs
  | _, _, .nil => ⟨[], .nil, .nil⟩
  | _, _, .cons h t => by
    obtain ⟨j, y, h1, h2, h3⟩ := h
    obtain ⟨zs, g1, g2⟩ := out_vals t
    exact ⟨y :: zs, .cons h3 g1, .cons ⟨j, h1, h2⟩ g2⟩
theorem vals_len : ∀ {ys : List V} {us : List Value}, Vals ys us → ys.length = us.length
  | _, _, .nil => rfl
  | _, _, .cons _ t => congrArg Nat.succ (vals_len t)
/-- sorted(xs), data of one shape: the items are set in sequence by what they are -/
def rSortD (K : PySem.W.Frag) : List V → Hp → VK → Prop := fun vs H Q => ∃ (a : Addr) (ys : List V) (ds : List PyData), vs = [.ref a] ∧ SqL K H a ys ∧ DpAll K H ys ds ∧ AllAlike ds ∧ Sortable ds ∧ (∀ d ∈ ds, d.depth ≤ 8) ∧ ys.length ≤ 100000 ∧
  ∀ (zs : List V) (p : Addr), Paired (fun (z : V) (d : PyData) => ∃ j : Nat, ys[j]? = some z ∧ ds[j]? = some d) zs (ds.mergeSort (dataLe false id)) → H p = none → Q (.ref p) (upd H p (.lst zs))
theorem cr_sortD (hu : X.A.units + 64 < cLine) : CallR X (.builtin "sorted") (rSortD X.K) := by
  intro pins s σ H xs us Q I r h
  obtain ⟨a, ys, ds, rfl, hs, hd, hal, hk, hdp, hlen, q⟩ := h
  obtain rfl := Vals.ref1 r
  obtain ⟨its, rv, pl, _⟩ := I.list hs
  have li : its.length = ds.length := by rw [← vals_len rv]; exact dp_len hd
  have small : ds.length ≤ sizeLine := by rw [← dp_len hd]; exact Nat.le_trans hlen (by decide)
  refine sorted_data (R := fun v d => ∃ (j : Nat) (y : V), ys[j]? = some y ∧ ds[j]? = some d ∧ RelV y v) (enc := id) (bs := ds) pl.isList (eachIs_of li fun j v d hv he => ?_) (eachIs_of li fun j v d hv he => ?_) (by rw [List.map_id]; exact hal) (by rw [List.map_id]; exact hk) small (fun d hdm => ?_) fun out ho1 ho2 => ?_
  · obtain ⟨y, g1, g2⟩ := vals_at rv hv
    exact ⟨j, y, g1, he, g2⟩
  · obtain ⟨y, g1, g2⟩ := vals_at rv hv
    exact Dp.reads I d y v (dp_at hd g1 he) g2
  · have := hdp d hdm
    show X.A.units + 2 + d.depth < cLine
    omega
  obtain ⟨zs, hz, hp⟩ := out_vals ho2
  obtain ⟨eF, heF⟩ := PyProof.Rows.sortedAll_at s.heap its out.toArray
  have hzl : zs.length ≤ sizeLine := by rw [vals_len hz, ho1]; exact small
  exact ⟨.ref (s.heap.objs.size + 1), upd H (s.heap.objs.size + 1) (.lst zs), I.laid (t' := s.toks) (fun _ _ => PyProof.Rows.sortedAll_old) (Nat.le_succ _) ⟨hzl, out, eF, hz, heF⟩, rfl, q zs _ hp (I.hok.fresh (Nat.le_succ _))⟩
end
end My
set_option maxHeartbeats 4000000
/-! set(texts), sorted(set(texts)), len(set(texts)) -/
namespace My
open PySem PySem.Spec PyProof.Rows L2
/-- the text of an entry -/
def txtOf (e : Int × Value) : Str := match e.2 with | .str k _ => k | _ => Str.empty
def GoodT (w : World) (e : Int × Value) : Prop := ∃ k tk, e.2 = Value.str k tk ∧ e.1 = hashStr w k
/-- a set of texts: S its members, n their number -/
def SetTx (w : World) (h : Heap) (a : Addr) (S : Str → Bool) (n : Nat) : Prop :=
  ∃ o es ep t, h.get? a = some o ∧ o.ExactSet ∧ o.data = .set es ep t ∧ (∀ e ∈ es.toList, GoodT w e) ∧ (es.toList.map txtOf).Nodup ∧ (∀ k, S k = true ↔ k ∈ es.toList.map txtOf) ∧
    (es.size < scanBound ∧ t.fits es.size = true ∧ es.size = n) ∧ Ris t.place.toList ∧ (w.params.followText "set-order" = true ∨ t.led = true)
section
variable {P : Program} {w : World} {h h' : Heap} {a : Addr} {S : Str → Bool} {n : Nat}
theorem SetTx.at (R : SetTx w h a S n) (k : ∀ o, h.get? a = some o → h'.get? a = some o) : SetTx w h' a S n := by
  obtain ⟨o, es, ep, t, ho, r⟩ := R
  exact ⟨o, es, ep, t, k o ho, r⟩
theorem SetTx.congr {S' : Str → Bool} {m : Nat} (R : SetTx w h a S n) (e : ∀ k, S' k = S k) (em : n = m) : SetTx w h a S' m := by
  rw [show S' = S from funext e, ← em]
  exact R
theorem goodT_elems {l : List (Int × Value)} (g : ∀ e ∈ l, GoodT w e) : ElemsOf (PySem.strKind P w) l := fun e he => by
  obtain ⟨k, tk, g1, g2⟩ := g e he
  exact ⟨⟨k, by rw [g1]; exact strKind_is P w k tk, g2⟩, by rw [g1]; rfl⟩
theorem goodT_is {e : Int × Value} (g : GoodT w e) (k : Str) : (PySem.strKind P w).is k e.2 = true ↔ txtOf e = k := by
  obtain ⟨k0, tk, g1, _⟩ := g
  unfold txtOf
  rw [g1]
  constructor
  · intro q
    exact (PySem.strKind P w).inj _ _ _ (strKind_is P w k0 tk) q
  · intro q
    show (PySem.strKind P w).is k (.str k0 tk) = true
    rw [show k0 = k from q]
    exact strKind_is P w k tk
theorem goodT_mem {l : List (Int × Value)} (g : ∀ e ∈ l, GoodT w e) (k : Str) : k ∈ l.map txtOf ↔ ∃ e ∈ l, (PySem.strKind P w).is k e.2 = true := by
  rw [List.mem_map]
  exact ⟨fun ⟨e, he, q⟩ => ⟨e, he, (goodT_is (g e he) k).2 q⟩, fun ⟨e, he, q⟩ => ⟨e, he, (goodT_is (P := P) (g e he) k).1 q⟩⟩
theorem SetTx.setOf (R : SetTx w h a S n) : h.SetOf (PySem.strKind P w) a S n := by
  obtain ⟨o, es, ep, t, ho, hx, hd, g, nd, hm, ⟨hb, hf, hn⟩, _⟩ := R
  exact ⟨o, es, ep, t, ho, hx, hd, goodT_elems g, fun k => (hm k).trans (goodT_mem g k), hb, hf, hn⟩
end
section
variable {P : Program} {w : World} {A : Around} {E : Value → Shared → Prop} {s : Shared} {a : Addr} {S : Str → Bool} {n : Nat}
theorem tx_tail {g : Bool → Sem Unit} (hg : ∀ (b : Bool) (s₁ : Shared) (Q' : Unit → Shared → Prop), Q' () s₁ → wpAny (model P w) A (g b) Q' E s₁)
    {o : Obj} {es : Array (Int × Value)} {ep : Nat} {t : SetTable} (ho : s.heap.get? a = some o) (hex : o.ExactSet) (hd : o.data = .set es ep t)
    {es1 : Array (Int × Value)} {t2 : SetTable} {S' : Str → Bool} (g1 : ∀ e ∈ es1.toList, GoodT w e) (nd1 : (es1.toList.map txtOf).Nodup) (m1 : ∀ k, S' k = true ↔ k ∈ es1.toList.map txtOf)
    (room : es1.size < scanBound) (fit : t2.fits es1.size = true) (ris : Ris t2.place.toList) (led : w.params.followText "set-order" = true ∨ t2.led = true) {wasDummy : Bool} {R : Option Bool → Shared → Prop}
    (hR : ∀ h', Heap.SameBut a s.heap h' → SetTx w h' a S' es1.size → R (some true) { s with heap := h' }) :
    wpAny (model P w) A (do
        storeSet a es1 t2
        if (!wasDummy && t2.tooFull) = true then do
            g (relayAll t2 es1 (SetTable.grown es1.size)).2.2
            storeSet a (relayAll t2 es1 (SetTable.grown es1.size)).1 (relayAll t2 es1 (SetTable.grown es1.size)).2.1
            pure (some true)
          else pure (some true)) R E s := by
  refine wpAny_bind (wpAny_storeSet_of ho hd ?_ (fits_of_scanBound room))
  have st1 := store_at (es' := es1) (t' := t2) ho hd
  have same1 := Heap.SameBut.update s.heap a (Obj.putSet es1 t2)
  split
  · have p3 := relayAll_perm t2 es1 (SetTable.grown es1.size)
    have f3 := relayAll_fits t2 es1 (SetTable.grown es1.size)
    have r3 := relayAll_ris t2 es1 (SetTable.grown es1.size)
    have l3 := relayAll_led t2 es1 (SetTable.grown es1.size)
    generalize relayAll t2 es1 (SetTable.grown es1.size) = Z at p3 f3 r3 l3 ⊢
    obtain ⟨es2, t3, gave⟩ := Z
    dsimp only at p3 f3 r3 l3 ⊢
    have z2 : es2.size = es1.size := by rw [← Array.length_toList, p3.length_eq, Array.length_toList]
    have b2 : es2.size < scanBound := by rw [z2]; exact room
    refine wpAny_bind (hg _ _ _ (wpAny_bind (wpAny_storeSet_of st1 rfl ?_ (fits_of_scanBound b2))))
    have st2 := store_at (es' := es2) (t' := t3) st1 rfl
    exact wpAny_pure (hR _ (same1.trans (Heap.SameBut.update _ a _)) ⟨_, es2, _, t3, st2, hex, rfl, fun e he => g1 e (p3.mem_iff.mp he), (p3.map txtOf).nodup_iff.mpr nd1, fun k => (m1 k).trans (p3.map txtOf).mem_iff.symm, ⟨b2, f3, z2⟩, r3, led.imp id fun z => by rw [l3]; exact z⟩)
  · exact wpAny_pure (hR _ same1 ⟨_, es1, _, t2, st1, hex, rfl, g1, nd1, m1, ⟨room, fit, rfl⟩, ris, led⟩)
theorem tx_add {k : Str} {tk : Tok} {Q : Bool → Shared → Prop} (R : SetTx w s.heap a S n) (room : n + 1 < scanBound)
    (hQ : ∀ h', Heap.SameBut a s.heap h' → SetTx w h' a (fun j => S j || decide (j = k)) (if S k = true then n else n + 1) → Q (!S k) { s with heap := h' }) :
    wpAny (model P w) A (setAddHashed a (.str k tk) ((PySem.strKind P w).hash k)) Q E s := by
  obtain ⟨o, es, ep, t, ho, hex, hd, g, nd, hm, ⟨hb, hf, hn⟩, hr, hl⟩ := R
  have is_k : (PySem.strKind P w).is k (.str k tk) = true := strKind_is P w k tk
  have scan : (Value.str k tk).scannable = true := rfl
  have elems : ElemsOf (PySem.strKind P w) es.toList := goodT_elems g
  unfold setAddHashed setAddHashedIn
  refine wpAny_holding (wpAny_bind (wpAny_setState_of ho hd hf ?_))
  dsimp only
  rw [byScan_of scan hb elems]
  simp only [↓reduceIte]
  unfold setAddByScan
  refine wpAny_bind (wpAny_bind (wpAny_rule ?_))
  refine wpAny_bind (wpAny_setScan_of is_k ho hd hf elems ?_)
  cases at_ : List.findIdx? (fun e => (PySem.strKind P w).is k e.2) es.toList with
  | some j =>
    dsimp only
    obtain ⟨hj, pj, _⟩ := List.findIdx?_eq_some_iff_getElem.mp at_
    have inS : S k = true := (hm k).2 ((goodT_mem (P := P) g k).2 ⟨es.toList[j], List.getElem_mem hj, pj⟩)
    refine wpAny_pure (wpAny_pure ?_)
    have q := hQ s.heap (Heap.SameBut.refl a s.heap) ⟨o, es, ep, t, ho, hex, hd, g, nd, fun i => by
      rw [Bool.or_eq_true, decide_eq_true_eq, ← hm i]
      exact ⟨fun z => z.elim id (fun e => e ▸ inS), .inl⟩, ⟨hb, hf, by rw [if_pos inS]; exact hn⟩, hr, hl⟩
    rw [inS] at q
    exact q
  | none =>
    dsimp only
    have out : k ∉ es.toList.map txtOf := fun z => by
      obtain ⟨e, he, q⟩ := (goodT_mem (P := P) g k).1 z
      have c := List.findIdx?_eq_none_iff.mp at_ e he
      rw [q] at c
      cases c
    have noS : S k = false := by
      cases q : S k with
      | false => rfl
      | true => exact absurd ((hm k).1 q) out
    have gave_ : ∀ (b : Bool) {s₁ : Shared} {Q' : Unit → Shared → Prop}, Q' () s₁ → wpAny (model P w) A (match b with | true => rule "set.scan.the-table-gave-way" | false => pure ()) Q' E s₁ :=
      fun b s₁ Q' q => by cases b <;> first | exact wpAny_pure q | exact wpAny_rule q
    have p1 := layNew_perm t es ((PySem.strKind P w).hash k) (.str k tk)
    have f1 := layNew_fits t es ((PySem.strKind P w).hash k) (.str k tk)
    have r1 := layNew_ris t es ((PySem.strKind P w).hash k) (.str k tk) hr
    have l1 := layNew_led t es ((PySem.strKind P w).hash k) (.str k tk)
    generalize layNew t es ((PySem.strKind P w).hash k) (.str k tk) = Z at p1 f1 r1 l1 ⊢
    obtain ⟨es1, t1, wasDummy, gave⟩ := Z
    dsimp only at p1 f1 r1 l1 ⊢
    rw [Array.toList_push] at p1
    have pc : es1.toList.Perm (((PySem.strKind P w).hash k, Value.str k tk) :: es.toList) := p1.trans (List.perm_append_singleton _ _)
    have pk : (es1.toList.map txtOf).Perm (k :: es.toList.map txtOf) := pc.map txtOf
    have g1 : ∀ e ∈ es1.toList, GoodT w e := fun e he => by
      rcases List.mem_cons.mp (pc.mem_iff.mp he) with z | z
      · rw [z]; exact ⟨k, tk, rfl, rfl⟩
      · exact g e z
    have nd1 : (es1.toList.map txtOf).Nodup := pk.nodup_iff.mpr (List.nodup_cons.mpr ⟨out, nd⟩)
    have m1 : ∀ i, (S i || decide (i = k)) = true ↔ i ∈ es1.toList.map txtOf := fun i => by
      rw [Bool.or_eq_true, decide_eq_true_eq, hm i, pk.mem_iff, List.mem_cons]
      exact Or.comm
    have z1 : es1.size = n + 1 := by rw [← Array.length_toList, pc.length_eq, List.length_cons, Array.length_toList, hn]
    have b1 : es1.size < scanBound := by rw [z1]; exact room
    have led1 : w.params.followText "set-order" = true ∨ t1.led = true := hl.imp id fun z => by rw [l1]; exact z
    have fin : ∀ h', Heap.SameBut a s.heap h' → SetTx w h' a (fun j => S j || decide (j = k)) es1.size → Q true { s with heap := h' } := fun h' sb r => by
      have q := hQ h' sb
      rw [noS] at q
      rw [z1] at r
      exact q r
    refine wpAny_bind (gave_ _ ?_)
    split
    · refine wpAny_bind ?_
      rw [hashByValue_scannable 8 scan]
      refine wpAny_pure ?_
      refine tx_tail ?_ ho hex hd g1 nd1 m1 b1 ?_ ?_ ?_ ?_
      · intro b s₁ Q' q; cases b <;> first | exact wpAny_pure q | exact wpAny_rule q
      · first | (split <;> first | exact f1 | exact SetTable.fits_plain_off f1) | exact f1
      · first | (split <;> exact r1) | exact r1
      · first | (split <;> exact led1) | exact led1
      · intro h' sb r; dsimp only; exact wpAny_pure (fin h' sb r)
    · refine wpAny_bind (wpAny_pure ?_)
      simp only [↓reduceIte]
      refine tx_tail ?_ ho hex hd g1 nd1 m1 b1 f1 r1 led1 ?_
      · intro b s₁ Q' q; cases b <;> first | exact wpAny_pure q | exact wpAny_rule q
      · intro h' sb r; dsimp only; exact wpAny_pure (fin h' sb r)
end
end My
set_option maxHeartbeats 4000000
namespace My
open PySem PySem.Spec PyProof.Rows L2
abbrev hasT (xs : List Str) : Str → Bool := fun k => decide (k ∈ xs)
theorem hasT_snoc (xs : List Str) (x : Str) (k : Str) : hasT (xs ++ [x]) k = (hasT xs k || decide (k = x)) := by
  unfold hasT
  by_cases c : k = x
  · simp [c]
  · simp [c]
section
variable {prog : Program} {w : World} {A : Around} {R : Result → Shared → Prop} {I : Addr} {fp wr : List Addr} {G : Array GenState → Array GenState → Prop} {n : Nat} {Pw : Nat → Value → Prop} {St : Nat → Shared → Prop}
/-- the texts of an iterator put into a set -/
theorem put_texts (W : WalksS prog w A.in1 I fp wr G n Pw St) (a : Addr) (away : a ∉ fp) (xs : List Str) (size : xs.length = n) (few : n + 1 < scanBound)
    (reads : ∀ i v, Pw i v → ∃ t x, xs[i]? = some x ∧ v = .str x t) :
    ∀ (k i m : Nat) (s : Shared), n - i = k → i ≤ n → m ≤ i → St i s → SetTx w s.heap a (hasT (xs.take i)) m →
      (∀ s' m', Moved (a :: wr) G s s' → m' ≤ n → SetTx w s'.heap a (hasT xs) m' → R (.ok (.ret .none)) s') →
      codeAny (model prog w) A (.builtin "set.update.loop" ⟨[.ref a, .ref I], []⟩) R s := by
  have apart : a ∉ wr := fun z => away (W.sub _ z)
  have wider : ∀ b ∈ wr, b ∈ a :: wr := fun b hb => List.mem_cons_of_mem _ hb
  intro k
  induction k with
  | zero =>
    intro i m s hk hi hm hst hS hR
    obtain rfl : i = n := by omega
    rw [← size, List.take_length] at hS
    refine codeAny_builtin PyProof.Rows.F.entry_set_update_loop ?_
    rw [Around.under_plainId PyProof.Rows.F.plain_set_update_loop _]
    show wpAny _ A.in1 (pyNext (.ref I) >>= _) _ _ s
    refine wpAny_bind (W.done s _ _ hst fun s' hm' => ?_)
    show wpAny _ A.in1 (ret Value.none) _ _ s'
    exact wpAny_pure (hR s' m (hm'.mono wider) hm (hS.at fun o e => hm'.heap a _ apart e))
  | succ k ih =>
    intro i m s hk hi hm hst hS hR
    have hlt : i < n := by omega
    refine codeAny_builtin PyProof.Rows.F.entry_set_update_loop ?_
    rw [Around.under_plainId PyProof.Rows.F.plain_set_update_loop _]
    show wpAny _ A.in1 (pyNext (.ref I) >>= _) _ _ s
    refine wpAny_bind (W.item i s _ _ hlt hst fun v s' hPv hst' hm' => ?_)
    obtain ⟨t, x, hx, rfl⟩ := reads i v hPv
    have hS' : SetTx w s'.heap a (hasT (xs.take i)) m := hS.at fun o e => hm'.heap a _ apart e
    show wpAny _ A.in1 (holding [Value.str x t] (setAdd a (.str x t)) >>= _) _ _ s'
    refine wpAny_bind (wpAny_holding ?_)
    unfold setAdd
    refine wpAny_holding (wpAny_bind ((PySem.strKind prog w).pyHash (k := x) (strKind_is _ _ _ _) ?_))
    refine tx_add (P := prog) (s := { s' with toks := s'.toks + 1 }) hS' (by omega) fun h' sb hS2 => ?_
    have hS3 : SetTx w h' a (hasT (xs.take (i + 1))) (if hasT (xs.take i) x = true then m else m + 1) := by
      refine hS2.congr (fun k' => ?_) rfl
      rw [show xs.take (i + 1) = xs.take i ++ [x] by rw [List.take_succ, hx]; rfl, hasT_snoc]
    refine wpAny_pure ⟨plainId_quiet PyProof.Rows.F.plain_set_update_loop _, ih (i + 1) _ _ (by omega) hlt (by split <;> omega) (W.frame _ s' _ _ hst' (Nat.le_succ _) fun b hb o e => ?_) hS3 fun s'' m'' hm'' hle hS'' => ?_⟩
    · rw [sb.2 b (fun z : b = a => away (by rw [← z]; exact hb))]; exact e
    · refine hR s'' m'' (Moved.trans W.gtrans ((hm'.mono wider).then_heap (Nat.le_succ _) fun b o hb e => ?_) hm'') hle hS''
      rw [sb.2 b (fun z : b = a => hb (by rw [z]; exact List.mem_cons_self))]; exact e
end
def newSet (w : World) : Obj := { cls := .type "set", dict := none, data := .set #[] 0 (.fresh 0 0 (!w.params.followText "set-order")) }
theorem newSet_tx (w : World) {h : Heap} : SetTx w (h.push (newSet w)) h.objs.size (fun _ => false) 0 :=
  ⟨_, #[], 0, _, Heap.get?_push_size _ rfl, ⟨rfl, rfl, rfl⟩, rfl, (fun e he => by simp at he), (by simp), (fun k => by simp), ⟨(by decide), (by rfl), rfl⟩, List.Pairwise.nil, by
    show _ ∨ (!w.params.followText "set-order") = true
    cases w.params.followText "set-order"
    · exact Or.inr rfl
    · exact Or.inl rfl⟩
section
variable {prog : Program} {w : World} {A : Around} {E : Value → Shared → Prop} {s : Shared}
theorem set_made (a : Value) {Q₁ : Value → Shared → Prop} (h : Q₁ (.ref s.heap.objs.size) { s with heap := s.heap.push (newSet w) }) :
    codeAny (model prog w) A (.call (.builtin "set.__new__") ⟨[.type "set", a], []⟩) (wants Q₁ E) s := by
  refine codeAny_of_tree ?_
  show wpAny _ A.in1 (do checkBuiltinCall "set.__new__" ⟨[.type "set", a], []⟩; again (.builtin "set.__new__" ⟨[.type "set", a], []⟩)) _ _ s
  refine wpAny_bind (wpAny_of_eq (PySem.F.newCall_set_1 a) (wpAny_pure ⟨plainId_quiet PySem.F.plain_set_new _, codeAny_builtin PySem.F.entry_set_new ?_⟩))
  rw [Around.under_plainId PySem.F.plain_set_new _]
  unfold Builtin.«set.__new__» Builtin.Frozenset.newClass
  have hsub := sub_set_self
  obtain ⟨hp, g, d, tk, os⟩ := s
  dsimp only
  wp_walk
  refine wpAny_askSetting (wpAny_pure ?_)
  dsimp only
  simp only [newObj]
  exact wpAny_bind (wpAny_alloc (wpAny_pure (wpAny_pure h)))
set_option maxHeartbeats 3200000 in
theorem set_of_list {q : Addr} {ys : Array Value} {xs : List Str} {Q : Value → Shared → Prop}
    (calm : A.handled = none) (hq : s.heap.IsList q ys) (hx : PyProof.Rows.StrsAre ys.toList xs) (few : xs.length + 1 < scanBound)
    (k : ∀ (h' : Heap) (tk m : Nat), m ≤ xs.length → SetTx w h' s.heap.objs.size (hasT xs) m →
      (∀ b o, b < s.heap.objs.size → s.heap.get? b = some o → h'.get? b = some o) → Q (.ref s.heap.objs.size) { s with heap := h', toks := tk }) :
    wpAny (model prog w) A (call (.type "set") [.ref q]) Q E s := by
  obtain ⟨c, tl, hmro⟩ := PySem.F.called_set.mro
  have hmade := PySem.F.called_set.made
  have hsub := PySem.F.called_set.sub
  refine wpAny_call (codeAny_of_tree ?_)
  show wpAny _ _ (callAny (.type "set") _) _ _ _
  refine wpAny_pure ⟨Code.quiet_builtin _ (by decide +kernel), codeAny_builtin PySem.F.entry_type_call ?_⟩
  rw [Around.under_plain (weight_type_call_type "set" [.ref q] []) rfl]
  have h1 := PySem.F.called_set.notType
  have h2 := PySem.F.called_set.canCreate
  have hct := PySem.F.typeCall_set_1 (.ref q)
  repeat (any_goals (first | assumption | wp_step))
  refine codeAny_mono (set_made (w := w) (.ref q) (E := E) (Q₁ := fun obj s₁ => obj = .ref s.heap.objs.size ∧ s₁ = { s with heap := s.heap.push (newSet w) }) ⟨rfl, rfl⟩) fun r s₁ hr => ?_
  cases r with
  | error e => exact hr
  | ok fl =>
    cases fl with
    | ret obj =>
      obtain ⟨rfl, rfl⟩ := hr
      have hS : (s.heap.push (newSet w)).get? s.heap.objs.size = some (newSet w) := Heap.get?_push_size _ rfl
      have hT : Shared.TypeIs { s with heap := s.heap.push (newSet w) } (.ref s.heap.objs.size) "set" := ⟨_, hS, rfl⟩
      have hli := PySem.F.called_set.init.lookup
      have hbi := PySem.F.called_set.init.bind (.ref s.heap.objs.size)
      repeat (any_goals (first | assumption | wp_step))
      refine codeAny_mono (codeAny_call_builtin (R := wants (fun r s₂ => r = .none ∧ ∃ h' tk m, s₂ = { s with heap := h', toks := tk } ∧ m ≤ xs.length ∧
          SetTx w h' s.heap.objs.size (hasT xs) m ∧
          (∀ b o, b < s.heap.objs.size → s.heap.get? b = some o → h'.get? b = some o)) E) PySem.F.called_set.init.plain PySem.F.entry_set_init (check_set_init_1 hT ?_)) fun r₂ s₂ hr₂ => ?_
      · obtain ⟨ol, hol, hcl, nl, hdl⟩ := hq
        obtain ⟨ocls, odict, odata, oslots⟩ := ol
        simp only at hcl hdl
        subst hcl; subst hdl
        have hol' : (s.heap.push (newSet w)).get? q = some { cls := .type "list", dict := odict, data := .seq ys nl, slots := oslots } := Heap.get?_push_of_some _ hol
        have hsls := PySem.F.sub_list_set
        have hslf := PySem.F.sub_list_frozenset
        have hne : (Value.type "list" == Value.type "dict") = false := by decide
        have hl1 : (s.heap.push (newSet w)).IsList q ys := ⟨_, hol', rfl, nl, rfl⟩
        unfold Builtin.«set.__init__» noKeywords Builtin.Frozenset.updateFrom
        generalize hPI : pyIter = PI
        wp_walk
        subst hPI
        refine wpAny_pyIter_list hl1 (wpAny_bind (wpAny_runValue ?_))
        have qS : q < s.heap.objs.size := Heap.lt_size hol
        have calm3 : A.in1.in1.in1.handled = none := by simp [calm]
        have z1 : (s.heap.push (newSet w)).objs.size = s.heap.objs.size + 1 := Heap.size_push ..
        have qI : q ≠ (s.heap.push (newSet w)).objs.size := by
          rw [z1]; exact Nat.ne_of_lt (Nat.lt_succ_of_lt qS)
        have away : s.heap.objs.size ∉ [(s.heap.push (newSet w)).objs.size, q] := by
          rw [z1]; simp only [List.mem_cons, List.mem_singleton, List.not_mem_nil, or_false, not_or]
          exact ⟨Nat.ne_of_lt (Nat.lt_succ_self _), Nat.ne_of_gt qS⟩
        have sz : xs.length = ys.size := by rw [← StrsAre.len_eq hx, Array.length_toList]
        have rd : ∀ (i : Nat) (v : Value), ys[i]? = some v → ∃ t x, xs[i]? = some x ∧ v = .str x t := fun i v hv => by
          obtain ⟨t, e⟩ := SS.strs_at hx i v (by rw [Array.getElem?_toList]; exact hv)
          have hi : i < xs.length := by rw [sz]; exact (Array.getElem?_eq_some_iff.mp hv).1
          exact ⟨t, xs[i], List.getElem?_eq_getElem hi, by rw [e, List.getD_eq_getElem?_getD, List.getElem?_eq_getElem hi]; rfl⟩
        refine put_texts ((Walks.list calm3 _ q qI ys).toS) s.heap.objs.size
          away xs sz (by omega) rd (ys.size - 0) 0 0 _ rfl (Nat.zero_le _) (Nat.zero_le _)
          ⟨⟨_, Heap.get?_push_size _ rfl, rfl, rfl⟩, (hl1.push _)⟩ ?start ?end_
        case start =>
          exact (SetTx.congr (newSet_tx w) (fun k => by simp [hasT]) rfl).at fun o e => Heap.get?_push_of_some _ e
        case end_ =>
          intro s' m hm hle hS'
          obtain ⟨h', g', d', tk', os'⟩ := s'
          cases (show g' = s.gens from hm.gens)
          cases (show d' = s.drawn from hm.drawn)
          cases (show os' = s.os from hm.os)
          show wpAny _ _ _ _ _ _
          refine wpAny_pure ?_
          show wpAny _ _ (ret Value.none) _ _ _
          refine wpAny_pure ⟨rfl, h', tk', m, rfl, by rw [sz]; exact hle, hS', fun b o hb e => ?_⟩
          have b1 : b ≠ s.heap.objs.size := Nat.ne_of_lt hb
          have b2 : b ≠ (s.heap.push (newSet w)).objs.size := by
            rw [z1]; exact Nat.ne_of_lt (Nat.lt_succ_of_lt hb)
          exact hm.heap b o (by simp only [List.mem_cons, List.mem_singleton, List.not_mem_nil, or_false, not_or]; exact ⟨b1, b2⟩) (Heap.get?_push_of_some _ (Heap.get?_push_of_some _ e))
      · cases r₂ with
        | error e => exact hr₂
        | ok fl₂ =>
          cases fl₂ with
          | ret r =>
            obtain ⟨rfl, h', tk, m, rfl, hle, hS', keep⟩ := hr₂
            repeat (any_goals (first | assumption | wp_step))
            exact k _ _ m hle hS' keep
          | _ => exact hr₂.elim
    | _ => exact hr.elim
set_option maxHeartbeats 3200000 in
theorem set_of_tuple {q : Addr} {ys : Array Value} {xs : List Str} {Q : Value → Shared → Prop}
    (calm : A.handled = none) (hq : s.heap.IsTuple q ys) (hx : PyProof.Rows.StrsAre ys.toList xs) (few : xs.length + 1 < scanBound)
    (k : ∀ (h' : Heap) (tk m : Nat), m ≤ xs.length → SetTx w h' s.heap.objs.size (hasT xs) m →
      (∀ b o, b < s.heap.objs.size → s.heap.get? b = some o → h'.get? b = some o) → Q (.ref s.heap.objs.size) { s with heap := h', toks := tk }) :
    wpAny (model prog w) A (call (.type "set") [.ref q]) Q E s := by
  obtain ⟨c, tl, hmro⟩ := PySem.F.called_set.mro
  have hmade := PySem.F.called_set.made
  have hsub := PySem.F.called_set.sub
  refine wpAny_call (codeAny_of_tree ?_)
  show wpAny _ _ (callAny (.type "set") _) _ _ _
  refine wpAny_pure ⟨Code.quiet_builtin _ (by decide +kernel), codeAny_builtin PySem.F.entry_type_call ?_⟩
  rw [Around.under_plain (weight_type_call_type "set" [.ref q] []) rfl]
  have h1 := PySem.F.called_set.notType
  have h2 := PySem.F.called_set.canCreate
  have hct := PySem.F.typeCall_set_1 (.ref q)
  repeat (any_goals (first | assumption | wp_step))
  refine codeAny_mono (set_made (w := w) (.ref q) (E := E) (Q₁ := fun obj s₁ => obj = .ref s.heap.objs.size ∧ s₁ = { s with heap := s.heap.push (newSet w) }) ⟨rfl, rfl⟩) fun r s₁ hr => ?_
  cases r with
  | error e => exact hr
  | ok fl =>
    cases fl with
    | ret obj =>
      obtain ⟨rfl, rfl⟩ := hr
      have hS : (s.heap.push (newSet w)).get? s.heap.objs.size = some (newSet w) := Heap.get?_push_size _ rfl
      have hT : Shared.TypeIs { s with heap := s.heap.push (newSet w) } (.ref s.heap.objs.size) "set" := ⟨_, hS, rfl⟩
      have hli := PySem.F.called_set.init.lookup
      have hbi := PySem.F.called_set.init.bind (.ref s.heap.objs.size)
      repeat (any_goals (first | assumption | wp_step))
      refine codeAny_mono (codeAny_call_builtin (R := wants (fun r s₂ => r = .none ∧ ∃ h' tk m, s₂ = { s with heap := h', toks := tk } ∧ m ≤ xs.length ∧
          SetTx w h' s.heap.objs.size (hasT xs) m ∧
          (∀ b o, b < s.heap.objs.size → s.heap.get? b = some o → h'.get? b = some o)) E) PySem.F.called_set.init.plain PySem.F.entry_set_init (check_set_init_1 hT ?_)) fun r₂ s₂ hr₂ => ?_
      · obtain ⟨ol, hol, hcl, nl, hdl⟩ := hq
        obtain ⟨ocls, odict, odata, oslots⟩ := ol
        simp only at hcl hdl
        subst hcl; subst hdl
        have hol' : (s.heap.push (newSet w)).get? q = some { cls := .type "tuple", dict := odict, data := .seq ys nl, slots := oslots } := Heap.get?_push_of_some _ hol
        have hsls := PySem.F.sub_tuple_set
        have hslf := PySem.F.sub_tuple_frozenset
        have hne : (Value.type "tuple" == Value.type "dict") = false := by decide
        have hl1 : (s.heap.push (newSet w)).IsTuple q ys := ⟨_, hol', rfl, nl, rfl⟩
        unfold Builtin.«set.__init__» noKeywords Builtin.Frozenset.updateFrom
        generalize hPI : pyIter = PI
        wp_walk
        subst hPI
        refine wpAny_pyIter_tuple hl1 (wpAny_bind (wpAny_runValue ?_))
        have qS : q < s.heap.objs.size := Heap.lt_size hol
        have calm3 : A.in1.in1.in1.handled = none := by simp [calm]
        have z1 : (s.heap.push (newSet w)).objs.size = s.heap.objs.size + 1 := Heap.size_push ..
        have qI : q ≠ (s.heap.push (newSet w)).objs.size := by
          rw [z1]; exact Nat.ne_of_lt (Nat.lt_succ_of_lt qS)
        have away : s.heap.objs.size ∉ [(s.heap.push (newSet w)).objs.size, q] := by
          rw [z1]; simp only [List.mem_cons, List.mem_singleton, List.not_mem_nil, or_false, not_or]
          exact ⟨Nat.ne_of_lt (Nat.lt_succ_self _), Nat.ne_of_gt qS⟩
        have sz : xs.length = ys.size := by rw [← StrsAre.len_eq hx, Array.length_toList]
        have rd : ∀ (i : Nat) (v : Value), ys[i]? = some v → ∃ t x, xs[i]? = some x ∧ v = .str x t := fun i v hv => by
          obtain ⟨t, e⟩ := SS.strs_at hx i v (by rw [Array.getElem?_toList]; exact hv)
          have hi : i < xs.length := by rw [sz]; exact (Array.getElem?_eq_some_iff.mp hv).1
          exact ⟨t, xs[i], List.getElem?_eq_getElem hi, by rw [e, List.getD_eq_getElem?_getD, List.getElem?_eq_getElem hi]; rfl⟩
        refine put_texts ((Walks.tuple calm3 _ q qI ys).toS) s.heap.objs.size
          away xs sz (by omega) rd (ys.size - 0) 0 0 _ rfl (Nat.zero_le _) (Nat.zero_le _)
          ⟨⟨_, Heap.get?_push_size _ rfl, rfl, rfl⟩, (hl1.push _)⟩ ?start ?end_
        case start =>
          exact (SetTx.congr (newSet_tx w) (fun k => by simp [hasT]) rfl).at fun o e => Heap.get?_push_of_some _ e
        case end_ =>
          intro s' m hm hle hS'
          obtain ⟨h', g', d', tk', os'⟩ := s'
          cases (show g' = s.gens from hm.gens)
          cases (show d' = s.drawn from hm.drawn)
          cases (show os' = s.os from hm.os)
          show wpAny _ _ _ _ _ _
          refine wpAny_pure ?_
          show wpAny _ _ (ret Value.none) _ _ _
          refine wpAny_pure ⟨rfl, h', tk', m, rfl, by rw [sz]; exact hle, hS', fun b o hb e => ?_⟩
          have b1 : b ≠ s.heap.objs.size := Nat.ne_of_lt hb
          have b2 : b ≠ (s.heap.push (newSet w)).objs.size := by
            rw [z1]; exact Nat.ne_of_lt (Nat.lt_succ_of_lt hb)
          exact hm.heap b o (by simp only [List.mem_cons, List.mem_singleton, List.not_mem_nil, or_false, not_or]; exact ⟨b1, b2⟩) (Heap.get?_push_of_some _ (Heap.get?_push_of_some _ e))
      · cases r₂ with
        | error e => exact hr₂
        | ok fl₂ =>
          cases fl₂ with
          | ret r =>
            obtain ⟨rfl, h', tk, m, rfl, hle, hS', keep⟩ := hr₂
            repeat (any_goals (first | assumption | wp_step))
            exact k _ _ m hle hS' keep
          | _ => exact hr₂.elim
    | _ => exact hr.elim
end
end My
namespace My
open PySem PySem.W L2 PyProof.Rows
/-! ### told lists: texts with numbers, rising by the texts -/
theorem strict_ext {α : Type} {r : α → α → Prop} (irr : ∀ a, ¬ r a a) (tr : ∀ a b c, r a b → r b c → r a c) : ∀ {a b : List α}, a.Pairwise r → b.Pairwise r → (∀ x, x ∈ a ↔ x ∈ b) → a = b
  | [], [], _, _, _ => rfl
  | [], y :: ys, _, _, h => absurd ((h y).mpr List.mem_cons_self) (by simp)
  | x :: xs, [], _, _, h => absurd ((h x).mp List.mem_cons_self) (by simp)
  | x :: xs, y :: ys, hx, hy, h => by
    have hx' := List.pairwise_cons.mp hx
    have hy' := List.pairwise_cons.mp hy
    have e : x = y := by
      rcases List.mem_cons.mp ((h x).mp List.mem_cons_self) with z | z
      · exact z
      · rcases List.mem_cons.mp ((h y).mpr List.mem_cons_self) with z2 | z2
        · exact z2.symm
        · exact absurd (tr _ _ _ (hx'.1 y z2) (hy'.1 x z)) (irr x)
    subst e
    refine congrArg (x :: ·) (strict_ext irr tr hx'.2 hy'.2 fun z => ?_)
    constructor
    · intro hz
      rcases List.mem_cons.mp ((h z).mp (List.mem_cons_of_mem _ hz)) with q | q
      · exact absurd (by rw [q] at hz; exact hx'.1 x hz) (irr x)
      · exact q
    · intro hz
      rcases List.mem_cons.mp ((h z).mpr (List.mem_cons_of_mem _ hz)) with q | q
      · exact absurd (by rw [q] at hz; exact hy'.1 x hz) (irr x)
      · exact q
def sLt (x y : Str) : Prop := x.cps.toList < y.cps.toList
instance (x y : Str) : Decidable (sLt x y) := by unfold sLt; exact inferInstance
theorem sLt_irr (x : Str) : ¬ sLt x x := List.lt_irrefl _
theorem sLt_trans {x y z : Str} (h : sLt x y) (k : sLt y z) : sLt x z := List.lt_trans h k
theorem sLt_total (x y : Str) : sLt x y ∨ x = y ∨ sLt y x := by
  by_cases h : sLt x y
  · exact .inl h
  · by_cases k : sLt y x
    · exact .inr (.inr k)
    · exact .inr (.inl (str_of_cps (List.le_antisymm (List.not_lt.mp k) (List.not_lt.mp h))))
theorem dataLt_si (x x' : Str) (y y' : Int) : dataLt (.tuple [.str x, .int y]) (.tuple [.str x', .int y']) = decide (sLt x x' ∨ (x = x' ∧ y < y')) := by
  rw [dataLt_pair (by simp [alike]) (by simp [alike]), dataLt_str, dataLt_int]
  have e1 : PyData.eqv (.str x) (.str x') = decide (x = x') := by
    by_cases h : x = x'
    · subst h; simp [PyData.eqv]
    · simp [PyData.eqv, h]
  have e2 : PyData.eqv (.int y) (.int y') = decide (y = y') := by
    by_cases h : y = y'
    · subst h; simp [PyData.eqv]
    · simp [PyData.eqv, h]
  rw [e1, e2]
  by_cases h : x = x'
  · subst h
    have n := sLt_irr x
    by_cases h2 : y = y'
    · subst h2
      simp [n]
    · simp [h2, n]
  · by_cases h3 : sLt x x'
    · have h4 := h3
      unfold sLt at h4
      simp [h, h3, h4]
    · have h4 := h3
      unfold sLt at h4
      simp [h, h3, h4]
abbrev leSI (e f : Str × Int) : Bool := decide (sLt e.1 f.1 ∨ (e.1 = f.1 ∧ e.2 ≤ f.2))
theorem dataLe_si : dataLe false encSI = leSI := by
  funext e f
  show (!dataLt (.tuple [.str f.1, .int f.2]) (.tuple [.str e.1, .int e.2])) = _
  rw [dataLt_si]
  by_cases h : sLt f.1 e.1 ∨ (f.1 = e.1 ∧ f.2 < e.2)
  · have h' : ¬ (sLt e.1 f.1 ∨ (e.1 = f.1 ∧ e.2 ≤ f.2)) := by
      rintro (z | ⟨z, z2⟩)
      · rcases h with k | ⟨k, k2⟩
        · exact sLt_irr _ (sLt_trans z k)
        · rw [k] at z; exact sLt_irr _ z
      · rcases h with k | ⟨k, k2⟩
        · rw [z] at k; exact sLt_irr _ k
        · omega
    simp [h, leSI, h']
  · have h' : sLt e.1 f.1 ∨ (e.1 = f.1 ∧ e.2 ≤ f.2) := by
      rcases sLt_total e.1 f.1 with z | z | z
      · exact .inl z
      · refine .inr ⟨z, ?_⟩
        rcases Int.lt_or_le f.2 e.2 with k | k
        · exact absurd (.inr ⟨z.symm, k⟩) h
        · exact k
      · exact absurd (.inl z) h
    simp only [decide_eq_true h', leSI, decide_eq_false h, Bool.not_false]
theorem leSI_trans (a b c : Str × Int) (h : leSI a b = true) (k : leSI b c = true) : leSI a c = true := by
  have h1 := of_decide_eq_true h
  have k1 := of_decide_eq_true k
  refine decide_eq_true ?_
  rcases h1 with z | ⟨z, z2⟩
  · rcases k1 with w | ⟨w, w2⟩
    · exact .inl (sLt_trans z w)
    · rw [w] at z; exact .inl z
  · rcases k1 with w | ⟨w, w2⟩
    · rw [← z] at w; exact .inl w
    · exact .inr ⟨z.trans w, by omega⟩
theorem leSI_total (a b : Str × Int) : (leSI a b || leSI b a) = true := by
  rw [Bool.or_eq_true]
  rcases sLt_total a.1 b.1 with z | z | z
  · exact .inl (decide_eq_true (.inl z))
  · rcases Int.le_total a.2 b.2 with k | k
    · exact .inl (decide_eq_true (.inr ⟨z, k⟩))
    · exact .inr (decide_eq_true (.inr ⟨z.symm, k⟩))
  · exact .inr (decide_eq_true (.inl z))
/-- rising by the texts -/
def Told (M : List (Str × Int)) : Prop := M.Pairwise fun e f => sLt e.1 f.1
theorem told_of {L : List (Str × Int)} (hn : (L.map Prod.fst).Nodup) : Told (L.mergeSort (dataLe false encSI)) := by
  rw [dataLe_si]
  have hp : (L.mergeSort leSI).Perm L := List.mergeSort_perm _ _
  have hs := List.pairwise_mergeSort (le := leSI) leSI_trans leSI_total L
  have hn2 : ((L.mergeSort leSI).map Prod.fst).Nodup := ((hp.map Prod.fst).nodup_iff).mpr hn
  rw [List.Nodup, List.pairwise_map] at hn2
  refine (hs.and hn2).imp fun {e f} h => ?_
  rcases of_decide_eq_true h.1 with z | z
  · exact z
  · exact absurd z.1 h.2
theorem Told.unique {M N : List (Str × Int)} (h : Told M) (k : Told N) (e : ∀ x, x ∈ M ↔ x ∈ N) : M = N :=
  strict_ext (r := fun e f : Str × Int => sLt e.1 f.1) (fun a => sLt_irr _) (fun _ _ _ => sLt_trans) h k e
/-- texts alone -/
abbrev leS (x y : Str) : Bool := decide (x.cps.toList ≤ y.cps.toList)
theorem dataLe_s : dataLe false (fun x : Str => PyData.str x) = leS := dataLe_str fun x => x
theorem leS_trans (a b c : Str) (h : leS a b = true) (k : leS b c = true) : leS a c = true := decide_eq_true (List.le_trans (of_decide_eq_true h) (of_decide_eq_true k))
theorem leS_total (a b : Str) : (leS a b || leS b a) = true := by
  rw [Bool.or_eq_true]
  rcases List.le_total a.cps.toList b.cps.toList with z | z
  · exact .inl (decide_eq_true z)
  · exact .inr (decide_eq_true z)
theorem texts_of {L : List Str} (hn : L.Nodup) : (L.mergeSort leS).Pairwise sLt := by
  have hp : (L.mergeSort leS).Perm L := List.mergeSort_perm _ _
  have hs := List.pairwise_mergeSort (le := leS) leS_trans leS_total L
  refine (hs.and ((hp.nodup_iff).mpr hn)).imp fun {x y} h => ?_
  rcases sLt_total x y with z | z | z
  · exact z
  · exact absurd z h.2
  · exact absurd z (List.not_lt.mpr (of_decide_eq_true h.1))
end My
set_option maxHeartbeats 4000000
namespace My
open PySem PySem.Spec PyProof.Rows L2
/-! ### sorted(a set of texts), len of it -/
def textIn : Value → Str | .str x _ => x | _ => Str.empty
theorem each_text : ∀ l : List Value, (∀ v ∈ l, ∃ k tk, v = Value.str k tk) → PySem.W.EachIs (fun v b => ∃ t, v = Value.str b t) l (l.map textIn)
  | [], _ => .nil
  | v :: l, h => by
    obtain ⟨k, tk, rfl⟩ := h v List.mem_cons_self
    exact .cons ⟨tk, rfl⟩ (each_text l fun u hu => h u (List.mem_cons_of_mem _ hu))
theorem vals_text : ∀ {out : List Value} {M : List Str}, PySem.W.EachIs (fun v b => ∃ t, v = Value.str b t) out M → Vals (M.map V.str) out
  | _, _, .nil => .nil
  | _, _, .cons h t => .cons (show RelV _ _ from h) (vals_text t)
section
variable {P : Program} {w : World} {A : Around} {E : Value → Shared → Prop} {s : Shared} {a : Addr} {S : Str → Bool} {n : Nat}
theorem sorted_texts {Q : Value → Shared → Prop} (R : SetTx w s.heap a S n) (calm : A.handled = none) (small : n ≤ 100000) (hu : A.units + 64 < cLine)
    (hQ : ∀ s' p (out : Array Value) (c : Nat) (M : List Str), (∀ b o, s.heap.get? b = some o → s'.heap.get? b = some o) → s'.gens = s.gens → s'.os = s.os → s.heap.objs.size ≤ p →
      s'.heap.get? p = some (seqObj "list" out c) → Vals (M.map V.str) out.toList → M.Pairwise sLt → (∀ k, k ∈ M ↔ S k = true) → M.length = n → Q (.ref p) s') :
    wpAny (model P w) A (call (.builtin "sorted") [.ref a]) Q E s := by
  obtain ⟨o, es, ep, t, ho, hex, hd, g, nd, hm, ⟨hb, hf, hn⟩, hr, hl⟩ := R
  have line : n ≤ sizeLine := Nat.le_trans small (by decide)
  refine Calls.call_function_entry kind_sorted plain_sorted entry_sorted (args_sorted1 _) ?_
  unfold Builtin.«sorted»
  refine wpAny_bind (m := checkCount "sorted" 1 1 _) (wpAny_pure ?_)
  refine wpAny_bind (collect_set (A := A.in1) calm ⟨o, ho, hex.1, hd⟩ hf hb hr hl fun s1 vs k1 hz g1 o1 pm => ?_)
  have many : vs.length = n := by rw [pm.length_eq, List.length_map, Array.length_toList]; exact hn
  have each := each_text vs fun v hv => by
    obtain ⟨e, he, q⟩ := List.mem_map.mp (pm.mem_iff.mp hv)
    obtain ⟨k, tk, h1, _⟩ := g e he
    exact ⟨k, tk, by rw [← q]; exact h1⟩
  have pk : (vs.map textIn).Perm (es.toList.map txtOf) := by
    have q := pm.map textIn
    rw [List.map_map] at q
    exact q
  have nd2 : (vs.map textIn).Nodup := pk.nodup_iff.mpr nd
  refine wpAny_bind (wpAny_newList ?_ (by rw [many]; exact line))
  have laid : (s1.heap.push (seqObj "list" vs.toArray 0)).get? s1.heap.objs.size = some (seqObj "list" vs.toArray 0) := Heap.get?_push_size _ rfl
  refine wpAny_bind (wpAny_holding (PySem.W.list_sort_data (s := { s1 with heap := s1.heap.push (seqObj "list" vs.toArray 0) }) (enc := PyData.str) (bs := vs.map textIn) laid each (each.mono fun v b ⟨t, e⟩ => ⟨[], by rw [e]; exact .str _ _, by simp⟩) ?_ ?_ ?_ ?_ fun out len outs => ?_))
  · intro d hd d' hd'
    obtain ⟨x, _, rfl⟩ := List.mem_map.mp hd
    obtain ⟨y, _, rfl⟩ := List.mem_map.mp hd'
    rfl
  · exact .others (enc := PyData.str) fun b => ⟨fun z => (by cases z), fun xs z => (by cases z)⟩
  · rw [List.length_map, many]; exact line
  · intro b _
    show A.units + 1 + 1 + 0 < cLine
    omega
  · obtain ⟨c, hc⟩ := sortedHeap_at (vs := vs) (out := out.toArray) laid
    rw [show PySem.W.dataLe false PyData.str = leS from dataLe_s] at outs
    have pn : ((vs.map textIn).mergeSort leS).Perm (es.toList.map txtOf) := (List.mergeSort_perm _ _).trans pk
    refine wpAny_pure ⟨_, rfl, hQ _ s1.heap.objs.size out.toArray c ((vs.map textIn).mergeSort leS) (fun b u e => ?_) g1 o1 hz hc (by simpa using vals_text outs) (texts_of nd2) (fun k => by rw [pn.mem_iff, ← hm k]) ?_⟩
    · have q := k1 b u e
      have hlt := Heap.lt_size q
      show (sortedHeap (s1.heap.push (seqObj "list" vs.toArray 0)) s1.heap.objs.size vs out.toArray).get? b = some u
      rw [sortedHeap_old (Nat.ne_of_lt hlt) (by rw [size_push']; exact Nat.lt_succ_of_lt hlt)]
      exact Heap.get?_push_of_some _ q
    · rw [pn.length_eq, List.length_map, Array.length_toList]; exact hn
end
/-- a set of texts in the heap -/
def TxO (w : World) (a : Addr) (S : Str → Bool) (n : Nat) : HO := .ext fun h => SetTx w h a S n
section
variable {X : Cx}
theorem txO_new {w : World} {P : Program} {H : Hp} {h : Heap} {a : Addr} {S : Str → Bool} {n : Nat} (R : SetTx w h a S n) : ObjOk P w H h a (TxO w a S n) := by
  have ⟨o, _, _, _, ho, _⟩ := R
  exact ⟨R, ⟨o, ho⟩, fun _ _ p k => SetTx.at p k⟩
theorem txO_get {pins : List (Addr × Obj)} {σ : L2.St} {H : Hp} {s : Shared} {a : Addr} {S : Str → Bool} {n : Nat} (I : Inv X pins σ H s) (ha : H a = some (TxO X.w a S n)) : SetTx X.w s.heap a S n := (I.hok a _ ha).1
/-- sorted(found) -/
def rSortTx (w : World) : List V → Hp → VK → Prop := fun vs H Q => ∃ (a : Addr) (S : Str → Bool) (n : Nat), vs = [V.ref a] ∧ H a = some (TxO w a S n) ∧ n ≤ 100000 ∧
  ∀ (M : List Str) (p : Addr), M.Pairwise sLt → (∀ k : Str, k ∈ M ↔ S k = true) → M.length = n → H p = none → Q (.ref p) (upd H p (.lst (M.map V.str)))
theorem cr_sortTx (hc : X.calm = true) (hu : X.A.units + 64 < cLine) : CallR X (.builtin "sorted") (rSortTx X.w) := by
  intro pins s σ H vs us Q I r h
  obtain ⟨a, S, n, rfl, ha, small, q⟩ := h
  have R := txO_get I ha
  rw [Vals.ref1 r]
  refine sorted_texts R (I.ok.hd hc) small hu fun s' p out c M k g o hp hg hv hs hm hl => ?_
  have line : (M.map V.str).length ≤ sizeLine := by rw [List.length_map, hl]; exact Nat.le_trans small (by decide)
  have free : H p = none := I.hok.fresh hp
  have J : Inv X pins σ (upd H p (.lst (M.map V.str))) { s with heap := s'.heap, gens := s'.gens, drawn := s'.drawn, toks := s'.toks } :=
    I.call (ch := []) (Un.laid k hp free) (I.hok.laid k hp ⟨line, out.toList, c, hv, hg⟩) (by rw [g]; exact I.bare) (fun _ z => nomatch z)
  have same : s' = { s with heap := s'.heap, gens := s'.gens, drawn := s'.drawn, toks := s'.toks } := by
    cases s'
    cases s
    cases o
    rfl
  rw [same]
  exact ⟨.ref p, _, J, rfl, q M p hs hm hl free⟩
/-- len(found) -/
theorem cr_lenTx : CallR X (.builtin "len") (fun vs H Q => ∃ (a : Addr) (S : Str → Bool) (n : Nat), vs = [V.ref a] ∧ H a = some (TxO X.w a S n) ∧ n ≤ 100000 ∧ Q (.int (n : Int)) H) := by
  intro pins s σ H vs us Q I r h
  obtain ⟨a, S, n, rfl, ha, small, q⟩ := h
  obtain ⟨o, es, ep, t, ho, hex, hd, _, _, _, ⟨_, hf, hn⟩, _⟩ := txO_get I ha
  rw [Vals.ref1 r]
  exact call_len_set ho hex hd hf (by rw [hn]; omega) ⟨.int (n : Int), H, I.tok _, ⟨_, by rw [hn]⟩, q⟩
end
end My
set_option maxHeartbeats 4000000
namespace My
open PySem PySem.Spec PyProof.Rows L2
/-! ### sets of whole numbers -/
def inI (xs : List Int) : Int → Bool := fun j => decide (j ∈ xs)
section
variable {prog : Program} {w : World} {A : Around} {E : Value → Shared → Prop} {s : Shared}
theorem set_of_ints {q : Addr} {ys : Array Value} {xs : List Int} {Q : Value → Shared → Prop}
    (calm : A.handled = none) (hq : s.heap.IsList q ys) (hx : PyProof.Rows.IntsAre ys.toList xs) (few : xs.length + 1 < scanBound)
    (k : ∀ (h' : Heap) (tk m : Nat), m ≤ xs.length → SetR w h' s.heap.objs.size (inI xs) m →
      (∀ b o, b < s.heap.objs.size → s.heap.get? b = some o → h'.get? b = some o) → Q (.ref s.heap.objs.size) { s with heap := h', toks := tk }) :
    wpAny (model prog w) A (call (.type "set") [.ref q]) Q E s := by
  obtain ⟨c, tl, hmro⟩ := PySem.F.called_set.mro
  have hmade := PySem.F.called_set.made
  have hsub := PySem.F.called_set.sub
  refine wpAny_call (codeAny_of_tree ?_)
  show wpAny _ _ (callAny (.type "set") _) _ _ _
  refine wpAny_pure ⟨Code.quiet_builtin _ (by decide +kernel), codeAny_builtin PySem.F.entry_type_call ?_⟩
  rw [Around.under_plain (weight_type_call_type "set" [.ref q] []) rfl]
  have h1 := PySem.F.called_set.notType
  have h2 := PySem.F.called_set.canCreate
  have hct := PySem.F.typeCall_set_1 (.ref q)
  repeat (any_goals (first | assumption | wp_step))
  refine codeAny_mono (set_made (w := w) (.ref q) (E := E) (Q₁ := fun obj s₁ => obj = .ref s.heap.objs.size ∧ s₁ = { s with heap := s.heap.push (newSet w) }) ⟨rfl, rfl⟩) fun r s₁ hr => ?_
  cases r with
  | error e => exact hr
  | ok fl =>
    cases fl with
    | ret obj =>
      obtain ⟨rfl, rfl⟩ := hr
      have hS : (s.heap.push (newSet w)).get? s.heap.objs.size = some (newSet w) := Heap.get?_push_size _ rfl
      have hT : Shared.TypeIs { s with heap := s.heap.push (newSet w) } (.ref s.heap.objs.size) "set" := ⟨_, hS, rfl⟩
      have hli := PySem.F.called_set.init.lookup
      have hbi := PySem.F.called_set.init.bind (.ref s.heap.objs.size)
      repeat (any_goals (first | assumption | wp_step))
      refine codeAny_mono (codeAny_call_builtin (R := wants (fun r s₂ => r = .none ∧ ∃ h' tk m, s₂ = { s with heap := h', toks := tk } ∧ m ≤ xs.length ∧
          SetR w h' s.heap.objs.size (inI xs) m ∧
          (∀ b o, b < s.heap.objs.size → s.heap.get? b = some o → h'.get? b = some o)) E) PySem.F.called_set.init.plain PySem.F.entry_set_init (check_set_init_1 hT ?_)) fun r₂ s₂ hr₂ => ?_
      · obtain ⟨ol, hol, hcl, nl, hdl⟩ := hq
        obtain ⟨ocls, odict, odata, oslots⟩ := ol
        simp only at hcl hdl
        subst hcl; subst hdl
        have hol' : (s.heap.push (newSet w)).get? q = some { cls := .type "list", dict := odict, data := .seq ys nl, slots := oslots } := Heap.get?_push_of_some _ hol
        have hsls := PySem.F.sub_list_set
        have hslf := PySem.F.sub_list_frozenset
        have hne : (Value.type "list" == Value.type "dict") = false := by decide
        have hl1 : (s.heap.push (newSet w)).IsList q ys := ⟨_, hol', rfl, nl, rfl⟩
        unfold Builtin.«set.__init__» noKeywords Builtin.Frozenset.updateFrom
        generalize hPI : pyIter = PI
        wp_walk
        subst hPI
        refine wpAny_pyIter_list hl1 (wpAny_bind (wpAny_runValue ?_))
        have qS : q < s.heap.objs.size := Heap.lt_size hol
        have calm3 : A.in1.in1.in1.handled = none := by simp [calm]
        have z1 : (s.heap.push (newSet w)).objs.size = s.heap.objs.size + 1 := Heap.size_push ..
        have qI : q ≠ (s.heap.push (newSet w)).objs.size := by
          rw [z1]; exact Nat.ne_of_lt (Nat.lt_succ_of_lt qS)
        have away : s.heap.objs.size ∉ [(s.heap.push (newSet w)).objs.size, q] := by
          rw [z1]; simp only [List.mem_cons, List.mem_singleton, List.not_mem_nil, or_false, not_or]
          exact ⟨Nat.ne_of_lt (Nat.lt_succ_self _), Nat.ne_of_gt qS⟩
        have sz : ys.size = xs.length := by
          have q := PyProof.Rows.IntsAre.length hx
          rw [Array.length_toList] at q
          exact q
        have rd : ∀ (i : Nat) (v : Value), ys[i]? = some v → ∃ k t, xs[i]? = some k ∧ v = .int k t := fun i v hv => by
          have hi : i < xs.length := by rw [← sz]; exact (Array.getElem?_eq_some_iff.mp hv).1
          obtain ⟨t, e⟩ := PyProof.Rows.IntsAre.int_at hx i v (by rw [Array.getElem?_toList]; exact hv)
          refine ⟨xs[i], t, List.getElem?_eq_getElem hi, ?_⟩
          rw [e, List.getD_eq_getElem?_getD, List.getElem?_eq_getElem hi] <;> rfl
        refine L2.set_update_ints ((Walks.list calm3 _ q qI ys).toS) s.heap.objs.size
          away xs sz few rd (ys.size - 0) 0 _ (by omega) (Nat.zero_le _)
          ⟨⟨_, Heap.get?_push_size _ rfl, rfl, rfl⟩, (hl1.push _)⟩ ?start ?end_
        case start =>
          exact ⟨0, Nat.le_refl 0, setR_new_at (Heap.get?_push_of_some _ hS)⟩
        case end_ =>
          intro s' m hm hle hS'
          obtain ⟨h', g', d', tk', os'⟩ := s'
          cases (show g' = s.gens from hm.gens)
          cases (show d' = s.drawn from hm.drawn)
          cases (show os' = s.os from hm.os)
          show wpAny _ _ _ _ _ _
          refine wpAny_pure ?_
          show wpAny _ _ (ret Value.none) _ _ _
          refine wpAny_pure ⟨rfl, h', tk', m, rfl, by rw [← sz]; exact hle, hS', fun b o hb e => ?_⟩
          have b1 : b ≠ s.heap.objs.size := Nat.ne_of_lt hb
          have b2 : b ≠ (s.heap.push (newSet w)).objs.size := by
            rw [z1]; exact Nat.ne_of_lt (Nat.lt_succ_of_lt hb)
          exact hm.heap b o (by simp only [List.mem_cons, List.mem_singleton, List.not_mem_nil, or_false, not_or]; exact ⟨b1, b2⟩) (Heap.get?_push_of_some _ (Heap.get?_push_of_some _ e))
      · cases r₂ with
        | error e => exact hr₂
        | ok fl₂ =>
          cases fl₂ with
          | ret r =>
            obtain ⟨rfl, h', tk, m, rfl, hle, hS', keep⟩ := hr₂
            repeat (any_goals (first | assumption | wp_step))
            exact k _ _ m hle hS' keep
          | _ => exact hr₂.elim
    | _ => exact hr.elim
set_option maxHeartbeats 3200000 in

theorem ints_many {w : World} {h : Heap} {a : Addr} {xs : List Int} {n : Nat} (R : SetR w h a (inI xs) n) (D : List Int) (hD : D.Nodup) (hm : ∀ k, k ∈ D ↔ k ∈ xs) : D.length = n := by
  obtain ⟨o, es, ep, t, _, _, _, _, nd, hS, _, _, hn, _⟩ := R
  have p : D.Perm (es.toList.map keyOf) := (List.perm_ext_iff_of_nodup hD nd).mpr fun k => by
    rw [hm, ← hS k]
    unfold inI
    rw [decide_eq_true_iff]
  rw [p.length_eq, List.length_map, Array.length_toList, hn]
end
def InO (w : World) (a : Addr) (S : Int → Bool) (n : Nat) : HO := .ext fun h => SetR w h a S n
section
variable {X : Cx}
theorem inO_new {w : World} {P : Program} {H : Hp} {h : Heap} {a : Addr} {S : Int → Bool} {n : Nat} (R : SetR w h a S n) : ObjOk P w H h a (InO w a S n) := by
  have ⟨o, _, _, _, ho, _⟩ := R
  exact ⟨R, ⟨o, ho⟩, fun _ _ p k => SetR.at p k⟩
theorem inO_get {pins : List (Addr × Obj)} {σ : L2.St} {H : Hp} {s : Shared} {a : Addr} {S : Int → Bool} {n : Nat} (I : Inv X pins σ H s) (ha : H a = some (InO X.w a S n)) : SetR X.w s.heap a S n := (I.hok a _ ha).1
def rSetIn (K : PySem.W.Frag) (w : World) : List V → Hp → VK → Prop := fun vs H Q => ∃ (l : Addr) (xs : List Int), vs = [V.ref l] ∧ SqL K H l (xs.map V.int) ∧ xs.length ≤ 1000 ∧
  ∀ (p : Addr) (n : Nat), (∀ D : List Int, D.Nodup → (∀ k, k ∈ D ↔ k ∈ xs) → D.length = n) → n ≤ xs.length → H p = none → Q (.ref p) (upd H p (InO w p (inI xs) n))
theorem cr_setIn (hc : X.calm = true) : CallR X (.type "set") (rSetIn X.K X.w) := by
  intro pins s σ H vs us Q I r h
  obtain ⟨l, xs, rfl, hq, small, q⟩ := h
  rw [Vals.ref1 r]
  have few : xs.length + 1 < scanBound := by unfold scanBound; omega
  obtain ⟨its, rv, pl, hz⟩ := I.list hq
  exact set_of_ints (I.ok.hd hc) pl.isList (by simpa using ints_of_vals rv) few fun h' tk m hle R keep =>
    ⟨.ref _, upd H s.heap.objs.size (InO X.w s.heap.objs.size (inI xs) m), I.laid (t' := tk) (fun b u e => keep b u (Heap.lt_size e) e) (Nat.le_refl _) (inO_new R), rfl, q _ m (ints_many R) hle (I.hok.fresh (Nat.le_refl _))⟩
def rSortIn (w : World) : List V → Hp → VK → Prop := fun vs H Q => ∃ (a : Addr) (S : Int → Bool) (n : Nat), vs = [V.ref a] ∧ H a = some (InO w a S n) ∧ n < 64 ∧
  ∀ (M : List Int) (p : Addr), M.Pairwise (· < ·) → (∀ k : Int, k ∈ M ↔ S k = true) → M.length = n → H p = none → Q (.ref p) (upd H p (.lst (M.map V.int)))
theorem cr_sortIn (hc : X.calm = true) : CallR X (.builtin "sorted") (rSortIn X.w) := by
  intro pins s σ H vs us Q I r h
  obtain ⟨a, S, n, rfl, ha, small, q⟩ := h
  have R := inO_get I ha
  rw [Vals.ref1 r]
  refine L2.sorted_set R (I.ok.hd hc) small fun s' p out c M k g o hp hg hv hs hm hl => ?_
  have line : (M.map V.int).length ≤ sizeLine := by rw [List.length_map, hl]; exact Nat.le_trans (Nat.le_of_lt small) (by decide)
  have free : H p = none := I.hok.fresh hp
  have J : Inv X pins σ (upd H p (.lst (M.map V.int))) { s with heap := s'.heap, gens := s'.gens, drawn := s'.drawn, toks := s'.toks } :=
    I.call (ch := []) (Un.laid k hp free) (I.hok.laid k hp ⟨line, out.toList, c, vals_of_ints hv, hg⟩) (by rw [g]; exact I.bare) (fun _ z => nomatch z)
  have same : s' = { s with heap := s'.heap, gens := s'.gens, drawn := s'.drawn, toks := s'.toks } := by
    cases s'
    cases s
    cases o
    rfl
  rw [same]
  exact ⟨.ref p, _, J, rfl, q M p hs hm hl free⟩
theorem cr_lenIn : CallR X (.builtin "len") (fun vs H Q => ∃ (a : Addr) (S : Int → Bool) (n : Nat), vs = [V.ref a] ∧ H a = some (InO X.w a S n) ∧ n ≤ 100000 ∧ Q (.int (n : Int)) H) := by
  intro pins s σ H vs us Q I r h
  obtain ⟨a, S, n, rfl, ha, small, q⟩ := h
  obtain ⟨o, es, ep, t, ho, hex, hd, _, _, _, _, hf, hn, _⟩ := inO_get I ha
  rw [Vals.ref1 r]
  exact call_len_set ho hex hd hf (by rw [hn]; omega) ⟨.int (n : Int), H, I.tok _, ⟨_, by rw [hn]⟩, q⟩
end
end My
/-! set(s), s a list or a tuple of whole numbers -/
namespace My
open PySem PySem.Spec PyProof.Rows L2
section
variable {X : Cx}
def rSetSq (K : PySem.W.Frag) (w : World) : List V → Hp → VK → Prop := fun vs H Q => ∃ (l : Addr) (xs : List Int), vs = [V.ref l] ∧ (SqL K H l (xs.map V.int) ∨ SqT K H l (xs.map V.int)) ∧ xs.length ≤ 4000 ∧
  ∀ (p : Addr) (n : Nat), (∀ D : List Int, D.Nodup → (∀ k, k ∈ D ↔ k ∈ xs) → D.length = n) → n ≤ xs.length → H p = none → Q (.ref p) (upd H p (InO w p (inI xs) n))
theorem cr_setSq (calm : X.calm = true) : CallR X (.type "set") (rSetSq X.K X.w) := by
  intro pins s σ H vs us Q I r h
  obtain ⟨l, xs, e, hq, small, q⟩ := h
  rcases hq with hq | hq
  · subst e
    rw [Vals.ref1 r]
    obtain ⟨its, rv, pl, hz⟩ := I.list hq
    exact set_of_ints (I.ok.hd calm) pl.isList (by simpa using ints_of_vals rv) (by unfold scanBound; omega) fun h' tk m hle R keep =>
      ⟨.ref _, upd H s.heap.objs.size (InO X.w s.heap.objs.size (inI xs) m), I.laid (t' := tk) (fun b u e => keep b u (Heap.lt_size e) e) (Nat.le_refl _) (inO_new R), rfl, q _ m (ints_many R) hle (I.hok.fresh (Nat.le_refl _))⟩
  subst e
  rw [Vals.ref1 r]
  obtain ⟨its, rv, pl, hz⟩ := I.tuple hq
  refine call_set_tupI xs (I.ok.hd calm) pl (by simpa using ints_of_vals rv) (by unfold scanBound; omega) fun h' tk m R hle keep => ?_
  exact ⟨.ref _, upd H s.heap.objs.size (InO X.w s.heap.objs.size (inI xs) m), I.laid (t' := tk) (fun b u e => keep b u e) (Nat.le_refl _) (inO_new R), rfl, q _ m (ints_many R) hle (I.hok.fresh (Nat.le_refl _))⟩
theorem call_isiK {K : PySem.W.Frag} (h : X.K = K) : CallR X (.builtin "isinstance") (rIsi K) := h ▸ call_isi
end
end My
/-! sorted(set(s)) within a comprehension -/
namespace My
open PySem PySem.Spec PyProof.Rows L2
section
variable {X : Cx}
theorem cr_setInK {K : PySem.W.Frag} {w : World} (h : X.K = K) (hw : X.w = w) (calm : X.calm = true) : CallR X (.type "set") (rSetIn K w) := h ▸ hw ▸ cr_setIn calm
theorem cr_setSqK {K : PySem.W.Frag} {w : World} (h : X.K = K) (hw : X.w = w) (calm : X.calm = true) : CallR X (.type "set") (rSetSq K w) := h ▸ hw ▸ cr_setSq calm
theorem cr_sortInK {w : World} (hw : X.w = w) (calm : X.calm = true) : CallR X (.builtin "sorted") (rSortIn w) := hw ▸ cr_sortIn calm
theorem cr_allK {K : PySem.W.Frag} (h : X.K = K) (calm : X.calm = true) : CallR X (.builtin "all") (rAll K) := h ▸ cr_all calm
theorem cr_anyK {K : PySem.W.Frag} (h : X.K = K) (calm : X.calm = true) : CallR X (.builtin "any") (rAny K) := h ▸ cr_any calm
end
end My
/-! {k: v}, k a tuple of whole numbers and texts -/
namespace My
open PySem PySem.Spec PyProof.Rows L2
def tDispT (trs : List (TE × TE)) : TE := fun σ H Q => ∀ p, H p = none → tPairs trs σ (upd H p (.dT [])) fun ps H2 => H2 p = some (.dT []) ∧ ∃ (b : Addr) (k : List Key) (y : V), ps = [(.ref b, y)] ∧ H2 b = some (.tup (k.map kV)) ∧ Q (.ref p) (upd H2 p (.dT [(k, y)]))
theorem pe_dispT {X : Cx} {pos : Pos} {k v : Expr} {trs : List (TE × TE)} (hu : X.A.units + 1 < cLine) (h : PPs X pos [some k] [v] trs) : PE X (.Dict [some k] [v] pos) (tDispT trs) := by
  refine ⟨fun pins s σ H Q I q => ?_⟩
  have hn := I.hok.fresh (Nat.le_refl s.heap.objs.size)
  have I1 := I.laid (a := s.heap.objs.size) (o := .dT []) (h' := s.heap.push { cls := .type "dict", data := .dict #[] }) (t' := s.toks) (fun _ _ q => Heap.get?_push_of_some _ q) (Nat.le_refl _) (dt_empty s.heap I.big)
  rw [arm_eval_Dict, zip_pairTrees [some k] [v] X.env pos rfl rfl, dictDisplay_pairs _ (by intro z; cases z) (by rw [pairTrees_length [some k] [v] X.env pos rfl rfl]; exact Nat.le_of_ble_eq_true rfl)]
  refine wpAny_bind (wpAny_standAt (wpAny_bind (wpAny_subDictH (knd := tupleKind (mixKind X.prog X.w)) (Nat.lt_of_succ_lt hu) (by rw [pairTrees_length [some k] [v] X.env pos rfl rfl]; exact Nat.le_of_ble_eq_true rfl) ?_)))
  refine thn (h.run pins _ σ _ _ I1 (q _ hn)) fun ws s2 ⟨ps, H2, I2, rel, e, b, kx, y, ep, eb, q2⟩ => ?_
  subst ep
  cases rel with
  | @cons p0 q0 ps0 qs0 r rr =>
    cases rr
    obtain ⟨k0, v0⟩ := q0
    obtain ⟨r1, r2⟩ := r
    cases (show k0 = Value.ref b from r1)
    obtain ⟨z, hd, xs, rel, dd⟩ := dt_of I2.hok e
    cases rel
    refine ⟨[(kx, b, v0)], ⟨rfl, rfl, key_of I2.hok eb, trivial⟩, dd, fun h' tk dd' hs => ?_⟩
    refine wpAny_pure ⟨.ref s.heap.objs.size, _, ?_, rfl, q2⟩
    obtain ⟨o, es, ep, hq, h2, h3, h4, _, h5⟩ := dd'
    refine d_write I2 (by rw [e]; exact True.intro) hs ⟨o, hq⟩ ⟨by rw [sizeLine_eq]; simp, hd, [(kx, b, v0)], .cons ⟨rfl, ?_, r2⟩ .nil, o, es, ep, hq, h2, h3, h4, h5⟩
    show upd _ _ _ b = _
    rw [upd_ne (ne_of eb e (fun z => nomatch z))]
    exact eb
end My
/-! dict comprehensions: one clause or two, keys whole numbers, texts or tuples of them -/
namespace My
open PySem PySem.Spec PyProof.Rows L2
section
variable {prog : Program} {w : World} {A : Around}
/-- how a turn of clause k goes: an item, its store, the tests, then `more` -/
def TurnIs (M : Model) (A : Around) (e : Expr) (k : Nat) (ip : Pos) (tg : Expr) (ifs : List Expr) (it acc : Value) (env : Env) (more : Sem Unit) : Prop :=
  (Code.compLoop e k it acc env).quiet = true ∧ ∀ (Q : Fin → Shared → Prop) (E : Value → Shared → Prop) (s : Shared), wpAny M A (Sem.onRaise (do
      standAt ip
      match ← pyNext it with
      | none => pure (.done .next)
      | some v =>
        letOwnedTupleGo tg it v
        assign tg env v
        let mut ok := true
        for c in ifs do
          if ok then ok ← isTrue c env (eval c env)
        if ok then
          more
        again (.compLoop e k it acc env)) (fun x => do noteFrame x env; theTreesLotGoes x)) Q E s → wpAny M (A.under (.compLoop e k it acc env)) (M.den (.compLoop e k it acc env)) Q E s
abbrev testing (ifs : List Expr) (env : Env) : Sem Bool := forIn ifs true fun c r => if r = true then do let ok ← isTrue c env (eval c env); pure (ForInStep.yield ok) else pure (ForInStep.yield r)
abbrev noE : Value → Shared → Prop := fun _ _ => False
/-- a comprehension's loop at clause k, whatever comes behind the tests -/
theorem loop_clause {R : Result → Shared → Prop} {s : Shared} {e tg : Expr} {ip : Pos} {ifs : List Expr} {it acc : Value} {env : Env} {k : Nat} {more : Sem Unit} (ti : TurnIs (model prog w) A e k ip tg ifs it acc env more) (Z : Nat → Shared → Prop)
    (turn : ∀ n t, Z n t → wpAny (model prog w) A (pyNext it) (fun r t1 => match r with
      | none => R (.ok .next) t1
      | some v => wpAny (model prog w) A (letOwnedTupleGo tg it v) (fun _ t2 => wpAny (model prog w) A (assign tg env v) (fun _ t3 => wpAny (model prog w) A (testing ifs env) (fun b t4 =>
          if b = true then wpAny (model prog w) A more (fun _ t5 => ∃ m, m < n ∧ Z m t5) noE t4 else ∃ m, m < n ∧ Z m t4) noE t3) noE t2) noE t1) noE t) (n : Nat) (h : Z n s) :
    codeAny (model prog w) A (.compLoop e k it acc env) R s := by
  refine codeAny_loop ti.1 Z (fun n t hz => ti.2 _ _ _ (wpAny_noted ?_)) n h
  refine wpAny_bind (wpAny_standAt (wpAny_bind (thnF (turn n t hz) fun r t1 q1 => ?_)))
  cases r with
  | none => exact wpAny_pure q1
  | some v =>
    refine wpAny_bind (thnF q1 fun _ t2 q2 => wpAny_bind (thnF q2 fun _ t3 q3 => wpAny_bind (thnF q3 fun b t4 q4 => ?_)))
    cases b with
    | false => exact wpAny_pure ⟨rfl, q4⟩
    | true => exact wpAny_bind (thnF q4 fun _ t5 q5 => wpAny_pure ⟨rfl, q5⟩)
end
section
variable {X : Cx}
/-- d[k] = v within a comprehension -/
theorem put_dict {pins : List (Addr × Obj)} {σ : L2.St} {H H' : Hp} {s : Shared} {E : Value → Shared → Prop} {D : Addr} {y v : V} {u r : Value} {Q : Unit → Shared → Prop} (hu : X.A.units + 1 < cLine) (I : Inv X pins σ H s) (g : DPut H D y v H') (ry : RelV y u) (rv : RelV v r)
    (h : ∀ s', Inv X pins σ H' s' → Q () s') : wpAny (model X.prog X.w) X.A (dictSet D u r) Q E s := by
  rcases g with ⟨kvs, k, e, ey, l, eH⟩ | ⟨kvs, k, b, e, ey, eb, l, eH⟩
  · subst ey eH
    exact d_dictSet I e l ry rv h
  · subst ey eH
    cases (show u = Value.ref b from ry)
    obtain ⟨z, nd, xs, rel, dd⟩ := dt_of I.hok e
    have lx : xs.length ≤ sizeLine := by rw [← Paired.length rel]; exact z
    have lp : (putK kvs k v).length ≤ sizeLine := by have := length_putK kvs k v; omega
    refine wpAny_dictSet_heap (hsz := lx) (Nat.lt_of_succ_lt hu) (key_of I.hok eb) dd fun h' d2 sb => h _ ?_
    obtain ⟨q, es, ep, hq, a2, a3, a4, _, a5⟩ := d2
    refine d_write I (by rw [e]; exact True.intro) sb ⟨q, hq⟩ ⟨lp, nd, _, (rel.put k eb rv).keeps fun c ys ec => ?_, q, es, ep, hq, a2, a3, a4, a5⟩
    rw [upd_ne (ne_of ec e (fun z => nomatch z))]
    exact ec
/-- what comes behind a clause's tests: the new dict, slots, heap, what is to be reached -/
abbrev TB := Addr → L2.St → Hp → (Hp → Prop) → Prop
def tDcG (o0 : HO) (wi : TI) (g : TG) (tt : TT) (tb : TB) (vs : List Nat) : TE := fun σ H Q => wi σ H fun J H1 => ∀ D, H1 D = none → ∃ W : Nat → Nat → Hp → Prop, (∃ m, W 0 m (upd H1 D o0)) ∧ ∀ i m H, W i m H →
  (J.stop i H ∧ Q (.ref D) H) ∨ (J.go i H ∧ ∃ Nx : Hp → Prop, (∀ H', Nx H' → ∃ m', m' < m ∧ W (i + 1) m' H') ∧ ∀ x H', J.yld i H x H' → g x (wipe σ vs) H' fun σ2 H2 => wipe σ2 vs = wipe σ vs ∧ tt σ2 H2 fun b H3 =>
    if b = true then tb D σ2 H3 Nx else Nx H3)
/-- the slots that a block may forget -/
def Keeps (vs : List Nat) (σ σ' : L2.St) : Prop := σ'.length = σ.length ∧ ∀ (j : Nat) v, (wipe σ vs)[j]? = some (some v) → σ'[j]? = some (some v)
theorem keeps_self (vs : List Nat) (σ : L2.St) : Keeps vs σ σ := ⟨rfl, fun j v e => (wipe_some e).1⟩
def Behind (B : Cx) (vs : List Nat) (D : Addr) (tb : TB) (more : Sem Unit) : Prop := ∀ (pins : List (Addr × Obj)) (s : Shared) (σ : L2.St) (H : Hp) (Nx : Hp → Prop), Inv B pins σ H s → tb D σ H Nx →
  wpAny (model B.prog B.w) B.A more (fun _ s' => ∃ σ' H', Inv B pins σ' H' s' ∧ Keeps vs σ σ' ∧ Nx H') noE s
def StartIs (M : Model) (A : Around) (e : Expr) (k : Nat) : Prop := ∀ {R : Result → Shared → Prop} {s : Shared} {it acc : Value} {env : Env}, codeAny M A (.compLoop e k it acc env) R s →
  wpAny M A (pyIter it) (fun it' s' => codeAny M A (.compLoop e k it' acc env) R s') (notedBy M A env fun x s' => R (.error x) s') s → codeAny M A (.compStart e k it acc env) R s
theorem dcG_core {e tg iter : Expr} {ifs : List Expr} {gs : List Comprehension} {scope : Scope} {own : List (Str × Nat)} {pos' : Pos} {wi : TI} {g : TG} {tt : TT} {tb : TB} {o0 : HO} {more : Addr → Env → Sem Unit} {pins : List (Addr × Obj)} {s : Shared} {σ : L2.St} {H : Hp} {Q : VK} {use : Option (Value → Sem Unit)} {Qf : Value → Shared → Prop}
    (hcl : clausesOf e = ⟨tg, iter, ifs, 0⟩ :: gs) (turnIs : ∀ it D ce, TurnIs (model X.prog X.w) X.A e 0 iter.pos tg ifs it (.ref D) ce (more D ce)) (startIs : StartIs (model X.prog X.w) X.A e 0)
    (bare : ∀ (H : Hp) (h : Heap), sysModules < h.objs.size → ObjOk X.prog X.w H (h.push { cls := .type "dict", data := .dict #[] }) h.objs.size o0)
    (hc : X.calm = true) (hN : X.N.Nodup) (I : Inv X pins σ H s) (hi : PI X tg iter wi) (ok : BlkOk X.N X.env.scope scope own)
    (hg : ∀ (s : Shared) (H : Hp) (C : Addr) (cl : List (Str × Addr)) (fp : List Addr), PG (X.blk s H scope (compEnvC scope cl C X.env) fp) tg g)
    (ht : ∀ (s : Shared) (H : Hp) (C : Addr) (cl : List (Str × Addr)) (fp : List Addr), PTs (X.blk s H scope (compEnvC scope cl C X.env) fp) ifs tt)
    (hb : ∀ (s : Shared) (H : Hp) (C : Addr) (cl : List (Str × Addr)) (fp : List Addr) (D : Addr), Behind (X.blk s H scope (compEnvC scope cl C X.env) fp) (own.map (·.2)) D tb (more D (compEnvC scope cl C X.env)))
    (hs : ∀ x, foldedSetIterable iter X.env x = pure x) (h : tDcG o0 wi g tt tb (own.map (·.2)) σ H Q)
    (out : ∀ D C s' m H', Inv X pins σ H' s' → Q (.ref D) H' → s'.heap.Ns C m → FpOk X pins H' C → compPost (model X.prog X.w) X.A X.xe use Qf (.ref D) C (.ok .next) s') :
    wpAny (model X.prog X.w) X.A (comprehension e scope X.env pos' newDict false (eval iter X.env) use) Qf X.xe s := by
  have around : ∀ y ∈ scope.names, y.2 = .free → ∃ c, X.env.cells.lookup y.1 = some c := fun y hy z => (ok.free y hy z).elim (fun k => I.ok.has _ (.inl k)) fun k => I.ok.has _ (.inr k)
  refine wpAny_comprehension_free (use := use) hcl hs (closure_ok around) ok.kind (fun y hy z => by rw [ok.uniq y hy, z]) (thn (hi.run pins s σ H _ I h) fun xv t1 k1 => thn k1 fun iv t2 k2 => ?_)
  obtain ⟨it, fps, tn, J, Ha, rfl, Ia, T, ta, fa, q⟩ := k2
  refine wpAny_newObj_type (newEnv_comp ?_)
  generalize eD : t2.heap.objs.size = D
  obtain ⟨W, ⟨m0, w0⟩, turn⟩ := q D (Ia.hok.fresh (Nat.le_of_eq eD))
  generalize eT : ({ t2 with heap := t2.heap.push { cls := .type "dict", data := .dict #[] } } : Shared) = t3
  have heT : t3.heap = t2.heap.push { cls := .type "dict", data := .dict #[] } := by rw [← eT]
  have Ib : Inv X pins σ (upd Ha D o0) t3 := by
    rw [← eT]
    refine Ia.laid (t' := t2.toks) (fun b o z => Heap.get?_push_of_some _ z) (Nat.le_of_eq eD) ?_
    rw [← eD]
    exact bare _ t2.heap Ia.big
  have fb : ∀ b ∈ fps, FpOk X pins (upd Ha D o0) b ∧ b < t3.heap.objs.size := fun b mb => by
    obtain ⟨o, z, _⟩ := T.obj _ _ ta b mb
    have lt := Heap.lt_size z
    have ne : b ≠ D := by rw [← eD]; exact Nat.ne_of_lt lt
    exact ⟨⟨by rw [upd_ne ne]; exact (fa b mb).1, (fa b mb).2⟩, by rw [heT, Heap.size_push]; exact Nat.lt_succ_of_lt lt⟩
  have tb3 : tn 0 t3.heap := T.keep _ _ _ ta fun b _ o z => by rw [heT]; exact Heap.get?_push_of_some _ z
  have Ic := block_start Ib ok hN fb
  generalize eC : cellsFrom (t3.heap.objs.size + 1) scope.names (cloFrom X.env.cells scope.names []) = cl at Ic ⊢
  have pg := hg t3 (upd Ha D o0) t3.heap.objs.size cl fps
  have pt := ht t3 (upd Ha D o0) t3.heap.objs.size cl fps
  have pb := hb t3 (upd Ha D o0) t3.heap.objs.size cl fps D
  show codeAny _ _ (.compStart e 0 (.ref it) (.ref D) (compEnvC scope cl t3.heap.objs.size X.env)) (compPost (model X.prog X.w) X.A X.xe use Qf (.ref D) t3.heap.objs.size) { t3 with heap := pushCells (t3.heap.push { cls := .type "dict", data := .dict #[] }) scope.names }
  have nfp : ∀ b ∈ fps, (upd Ha D o0) b = none := fun b mb => (fb b mb).1.1
  generalize eE : compEnvC scope cl t3.heap.objs.size X.env = ce at Ic pg pt pb ⊢
  have loc : ce.locals = t3.heap.objs.size := by subst eE; rfl
  generalize eH : upd Ha D o0 = Hb at Ib Ic pg pt pb w0 nfp fb
  generalize e4 : ({ t3 with heap := pushCells (t3.heap.push { cls := .type "dict", data := .dict #[] }) scope.names } : Shared) = t4 at Ic ⊢
  have ta4 : tn 0 t4.heap := T.keep _ _ _ tb3 fun b _ o z => by rw [← e4]; exact pushCells_keeps _ _ _ _ (Heap.get?_push_of_some _ z)
  have stands : ∀ {σ' : L2.St} {H' : Hp} {s' : Shared}, Inv (X.blk t3 Hb scope ce fps) [] σ' H' s' → (∀ b ∈ fps, H' b = none) → ∀ b ∈ fps, FpOk (X.blk t3 Hb scope ce fps) [] H' b := fun {σ' H' s'} I' hn b mb =>
    ⟨hn b mb, (I'.ok.exf b mb).1, I'.ok.exfs b mb, .inl mb, fun x c z => (I'.ok.exf b mb).2 x c z, fun p hp => by cases hp⟩
  have loop : codeAny (model X.prog X.w) X.A (.compLoop e 0 (.ref it) (.ref D) ce) (compPost (model X.prog X.w) X.A X.xe use Qf (.ref D) t3.heap.objs.size) t4 := by
    refine loop_clause (turnIs _ D ce) (fun n t => ∃ i H', Inv (X.blk t3 Hb scope ce fps) [] (wipe σ (own.map (·.2))) H' t ∧ tn i t.heap ∧ (∀ b ∈ fps, H' b = none) ∧ W i n H') ?_ m0 ⟨0, Hb, Ic, ta4, nfp, w0⟩
    rintro n t5 ⟨i, H5, I5, ta5, n5, w5⟩
    rcases turn i n H5 w5 with ⟨stop, qq⟩ | ⟨go, Nx, hNx, step⟩
    · refine thnF (T.done (X.blk t3 Hb scope ce fps) rfl rfl rfl hc i [] t5 _ H5 noE I5 (stands I5 n5) ta5 stop) fun r t6 ⟨er, I6⟩ => ?_
      subst er
      have I7 : Inv X pins σ H5 t6 := Ib.call' (ch := fps) I6.os I6.base I6.hok I6.bare fun b mb => ⟨(fb b mb).1.2.2.2.1, (fb b mb).1.2.1, (fb b mb).1.2.2.2.2.1, (fb b mb).1.2.2.2.2.2⟩
      have nC : H5 t3.heap.objs.size = none := by
        have z : H5 ce.locals = none := I6.free
        rwa [loc] at z
      obtain ⟨m, hm, _⟩ := I6.loc
      have hm : t6.heap.Ns ce.locals m := hm
      rw [loc] at hm
      exact out D t3.heap.objs.size t6 m H5 I7 qq hm (Ib.fpOk (Nat.le_refl _) nC)
    · refine thnF (T.item (X.blk t3 Hb scope ce fps) rfl rfl rfl hc i [] t5 _ H5 noE I5 (stands I5 n5) ta5 go) fun r t6 ⟨u, er, k6⟩ => ?_
      subst er
      refine thnF k6 fun _ t7 ⟨x, H7, I7, r7, y7, ta7, n7⟩ => thnF (pg.run _ t7 _ H7 x u _ (I7.pinned (stands I7 n7) (T.obj _ _ ta7)) r7 (step x H7 y7)) fun _ t8 ⟨σ8, H8, I8, hw8, q8⟩ => thnF (pt.run _ t8 σ8 H8 _ I8 q8) fun b t9 ⟨H9, I9, q9⟩ => ?_
      have ends : ∀ {σ9 : L2.St} {t : Shared} {H' : Hp}, Inv (X.blk t3 Hb scope ce fps) ([] ++ pinsAt fps t7.heap) σ9 H' t → Keeps (own.map (·.2)) σ8 σ9 → Nx H' →
          ∃ m, m < n ∧ ∃ i H', Inv (X.blk t3 Hb scope ce fps) [] (wipe σ (own.map (·.2))) H' t ∧ tn i t.heap ∧ (∀ b ∈ fps, H' b = none) ∧ W i m H' := fun {σ9 t H'} I' kp nx => by
        obtain ⟨m', lt, w'⟩ := hNx H' nx
        have pinned : ∀ b ∈ fps, ∀ o, t7.heap.get? b = some o → t.heap.get? b = some o ∧ H' b = none := fun b mb o z =>
          have p := I'.pin (b, o) (List.mem_append_right _ (List.mem_append_right _ (mem_pinsAt mb z)))
          ⟨p.1, p.2.1⟩
        refine ⟨m', lt, i + 1, H', (I'.unpinned (pins := [])).weak (by rw [kp.1, ← hw8, wipe_length]) (fun j v z => kp.2 j v (by rw [hw8]; exact z)), T.keep _ _ _ ta7 fun b mb o z => (pinned b mb o z).1, fun b mb => ?_, w'⟩
        obtain ⟨o, z, _⟩ := T.obj _ _ ta7 b mb
        exact (pinned b mb o z).2
      cases b with
      | false =>
        simp only [Bool.false_eq_true, if_false] at q9 ⊢
        exact ends I9 (keeps_self _ _) q9
      | true =>
        simp only [if_true] at q9 ⊢
        exact thnF (pb _ t9 σ8 H9 Nx I9 q9) fun _ t10 ⟨σ9, H10, I10, kp, nx⟩ => ends I10 kp nx
  exact startIs loop (T.self X.A 0 _ _ _ ta4 loop)
/-- as a value -/
theorem out_value {pins : List (Addr × Obj)} {σ : L2.St} {Q : VK} (D C : Addr) (s' : Shared) (m) (H' : Hp) (I' : Inv X pins σ H' s') (q : Q (.ref D) H') (hn : s'.heap.Ns C m) (f : FpOk X pins H' C) : compPost (model X.prog X.w) X.A X.xe none (EP X pins σ Q) (.ref D) C (.ok .next) s' := by
  obtain ⟨f0, f1, f2, f3, f4, f5⟩ := f
  exact ⟨m, hn, fun h'' sb => ⟨.ref D, H', I'.turned (t' := s'.toks) (fun b o nb z => (sb.2 b nb).trans z) f0 f1 f3 f4 f5, rfl, q⟩⟩
/-- stored to a name -/
theorem out_name {pins : List (Addr × Obj)} {σ : L2.St} {i : Nat} {y : Str} {py : Pos} {E : Ends} (hN : X.N.Nodup) (hy : X.N[i]? = some y) (hyl : X.env.scope.names.lookup y = some .local) (D C : Addr) (s' : Shared) (m) (H' : Hp) (I' : Inv X pins σ H' s')
    (q : gName i (.ref D) σ H' E.nx) (hn : s'.heap.Ns C m) (f : FpOk X pins H' C) : compPost (model X.prog X.w) X.A X.xe (some (assign (.Name y py) X.env)) (fun _ s' => SP X pins E .next s') (.ref D) C (.ok .next) s' := by
  show wpAny _ _ (assign (.Name y py) X.env (.ref D)) _ _ _
  refine wpAny_assign_Name (store_ok2 (v := V.ref D) I' hN hy (.inl hyl) rfl (fun s2 I2 ⟨a, sb, ha⟩ => ?_) (.inr hyl))
  obtain ⟨f0, f1, f2, f3, f4, f5⟩ := f
  have nC : C ≠ a := ha.elim (fun z => by rw [z]; exact f1) fun z e => f4 y a z e.symm
  exact ⟨m, hn.sameBut sb nC, fun h3 sb3 => ⟨_, H', I2.turned (t' := s2.toks) (fun b o nb e => (sb3.2 b nb).trans e) f0 f1 f3 f4 f5, q⟩⟩
theorem sw_dict {kx vx : Expr} {gs : List Comprehension} {scope : Scope} {pos py : Pos} {y : Str} {l : Nat} {env : Env} (hk : env.scope.kind = .function) (hy : env.scope.names.lookup y = some .local) (hl : (py.line == pos.line) = true)
    (ha : (scope.names.any fun (n, k) => n == y && (k == .local || k == .cell)) = false) : swapsWith (.DictComp kx vx gs scope pos) (some (.Name y py)) l env = pure true := by
  have ky : env.kindOf y = some .local := hy
  have hb : env.blockKind = .function := by unfold Env.blockKind; rw [hk]; rfl
  unfold swapsWith
  simp only [hb, ky, ha, Expr.pos, hl]
  rfl
/-- a value at its key -/
def tbPut (tk tv : TE) : TB := fun D σ H Nx => tk σ H fun y H1 => tv σ H1 fun z H2 => ∃ H3, DPut H2 D y z H3 ∧ Nx H3
def put1 (kx vx : Expr) (D : Addr) (env : Env) : Sem Unit := do
  let kv ← eval kx env
  let vv ← holding [kv] (eval vx env)
  standAt { kx.pos with endLine := vx.pos.endLine, endCol := vx.pos.endCol }
  holding [kv, vv] (dictSet D kv vv)
theorem behind_put {B : Cx} {kx vx : Expr} {tk tv : TE} {vs : List Nat} {D : Addr} (hk : PE B kx tk) (hv : PE B vx tv) (hx : B.xe = noE) (hu : B.A.units + 1 < cLine) : Behind B vs D (tbPut tk tv) (put1 kx vx D B.env) := by
  intro pins s σ H Nx I q
  have pk := hk.run pins s σ H _ I q
  rw [hx] at pk
  refine wpAny_bind (thnF pk fun kv s1 ⟨y, H1, I1, r1, q1⟩ => ?_)
  have pv := hv.run pins s1 σ H1 _ I1 q1
  rw [hx] at pv
  refine wpAny_bind (wpAny_holding (thnF pv fun vv s2 ⟨z, H2, I2, r2, H3, g3, nx⟩ => ?_))
  exact wpAny_bind (wpAny_standAt (wpAny_holding (put_dict hu I2 g3 r1 r2 fun s3 I3 => ⟨σ, H3, I3, keeps_self _ _, nx⟩)))
/-- one clause, keys as DPut has them -/
theorem pe_dcT {kx vx tg iter : Expr} {ifs : List Expr} {scope : Scope} {own : List (Str × Nat)} {pos : Pos} {wi : TI} {g : TG} {tt : TT} {tk tv : TE} (hu : X.A.units + 1 < cLine) (hc : X.calm = true) (hN : X.N.Nodup) (hi : PI X tg iter wi) (ok : BlkOk X.N X.env.scope scope own)
    (hg : ∀ (s : Shared) (H : Hp) (C : Addr) (cl : List (Str × Addr)) (fp : List Addr), PG (X.blk s H scope (compEnvC scope cl C X.env) fp) tg g)
    (ht : ∀ (s : Shared) (H : Hp) (C : Addr) (cl : List (Str × Addr)) (fp : List Addr), PTs (X.blk s H scope (compEnvC scope cl C X.env) fp) ifs tt)
    (hk : ∀ (s : Shared) (H : Hp) (C : Addr) (cl : List (Str × Addr)) (fp : List Addr), PE (X.blk s H scope (compEnvC scope cl C X.env) fp) kx tk)
    (hv : ∀ (s : Shared) (H : Hp) (C : Addr) (cl : List (Str × Addr)) (fp : List Addr), PE (X.blk s H scope (compEnvC scope cl C X.env) fp) vx tv) (hs : ∀ x, foldedSetIterable iter X.env x = pure x := by intro _; rfl) :
    PE X (.DictComp kx vx [⟨tg, iter, ifs, 0⟩] scope pos) (tDcG (.dT []) wi g tt (tbPut tk tv) (own.map (·.2))) := by
  refine ⟨fun pins s σ H Q I h => ?_⟩
  rw [arm_eval_DictComp]
  refine dcG_core (more := fun D ce => put1 kx vx D ce) rfl (fun it D ce => ⟨rfl, fun Q E s h => ?_⟩) (fun h0 h => codeAny_compStart_dict h0 h) (fun H h b => dt_empty h b) hc hN I hi ok hg ht (fun s H C cl fp D => behind_put (hk s H C cl fp) (hv s H C cl fp) rfl hu) hs h out_value
  show wpAny _ X.A ((compTurn _ 0 it (.ref D) ce).onRaise _) _ _ s
  rw [compTurn_dict]
  exact h
theorem ps_setDcT {i : Nat} {y : Str} {py : Pos} {kx vx tg iter : Expr} {ifs : List Expr} {scope : Scope} {own : List (Str × Nat)} {pos spos : Pos} {wi : TI} {g : TG} {tt : TT} {tk tv : TE} (hu : X.A.units + 1 < cLine) (hc : X.calm = true) (hN : X.N.Nodup) (hy : X.N[i]? = some y) (hyl : X.env.scope.names.lookup y = some .local)
    (hsw : swapsWith (.DictComp kx vx [⟨tg, iter, ifs, 0⟩] scope pos) (some (.Name y py)) spos.line X.env = pure true) (hi : PI X tg iter wi) (ok : BlkOk X.N X.env.scope scope own)
    (hg : ∀ (s : Shared) (H : Hp) (C : Addr) (cl : List (Str × Addr)) (fp : List Addr), PG (X.blk s H scope (compEnvC scope cl C X.env) fp) tg g)
    (ht : ∀ (s : Shared) (H : Hp) (C : Addr) (cl : List (Str × Addr)) (fp : List Addr), PTs (X.blk s H scope (compEnvC scope cl C X.env) fp) ifs tt)
    (hk : ∀ (s : Shared) (H : Hp) (C : Addr) (cl : List (Str × Addr)) (fp : List Addr), PE (X.blk s H scope (compEnvC scope cl C X.env) fp) kx tk)
    (hv : ∀ (s : Shared) (H : Hp) (C : Addr) (cl : List (Str × Addr)) (fp : List Addr), PE (X.blk s H scope (compEnvC scope cl C X.env) fp) vx tv) (hs : ∀ x, foldedSetIterable iter X.env x = pure x := by intro _; rfl) :
    PS X (.Assign [.Name y py] (.DictComp kx vx [⟨tg, iter, ifs, 0⟩] scope pos) spos) (tAsg (tDcG (.dT []) wi g tt (tbPut tk tv) (own.map (·.2))) (gName i)) := by
  refine ⟨fun pins s σ H D I h => ?_⟩
  rw [exec_Assign_Name_used _ _ _ _ hsw]
  refine wpAny_bind (wpAny_standAt (wpAny_bind ?_))
  show wpAny _ X.A (do let _ ← comprehension (.DictComp kx vx [⟨tg, iter, ifs, 0⟩] scope pos) scope X.env (firstIterPos [⟨tg, iter, ifs, 0⟩] pos) newDict false (eval iter X.env) (some (assign (.Name y py) X.env))) _ _ s
  have h : tDcG (.dT []) wi g tt (tbPut tk tv) (own.map (·.2)) σ H (fun x H1 => gName i x σ H1 D.nx) := h
  refine wpAny_bind (thn (dcG_core (Qf := fun _ s' => SP X pins D .next s') (more := fun D ce => put1 kx vx D ce) rfl (fun it D ce => ⟨rfl, fun Q E s h => ?_⟩) (fun h0 h => codeAny_compStart_dict h0 h) (fun H h b => dt_empty h b) hc hN I hi ok hg ht (fun s H C cl fp D => behind_put (hk s H C cl fp) (hv s H C cl fp) rfl hu) hs h (out_name hN hy hyl)) fun _ s' hq => wpAny_pure (wpAny_pure hq))
  show wpAny _ X.A ((compTurn _ 0 it (.ref D) ce).onRaise _) _ _ s
  rw [compTurn_dict]
  exact h
/-! ### two clauses -/
def tbTwo (wi1 : TI) (g1 : TG) (tt1 : TT) (tb : TB) (vs1 : List Nat) : TB := fun D σ H Nx => wi1 σ H fun J H4 => ∃ W : Nat → Nat → Hp → Prop, (∃ m, W 0 m H4) ∧ ∀ j k H, W j k H →
  (J.stop j H ∧ Nx H) ∨ (J.go j H ∧ ∃ Nx1 : Hp → Prop, (∀ H', Nx1 H' → ∃ k', k' < k ∧ W (j + 1) k' H') ∧ ∀ x H', J.yld j H x H' → g1 x (wipe σ vs1) H' fun σ3 H5 => wipe σ3 vs1 = wipe σ vs1 ∧ tt1 σ3 H5 fun b H6 =>
    if b = true then tb D σ3 H6 Nx1 else Nx1 H6)
def again1 (e i1 : Expr) (D : Addr) (env : Env) : Sem Unit := do
  let x ← eval i1 env
  standAt i1.pos
  let x ← foldedSetIterable i1 env x
  let _ ← runOwn (.compStart e 1 (← holding [x] (pyIter x)) (.ref D) env) env
theorem wipe_other {σ : L2.St} {i : Nat} {vs : List Nat} (h : i ∉ vs) : (wipe σ vs)[i]? = σ[i]? := wipe_out h
theorem behind_two {B : Cx} {e i1 tg1 : Expr} {ifs1 : List Expr} {wi1 : TI} {g1 : TG} {tt1 : TT} {tb : TB} {vs vs1 : List Nat} {D : Addr} {more : Sem Unit} (hc : B.calm = true) (hi : PI B tg1 i1 wi1) (hg : PG B tg1 g1) (ht : PTs B ifs1 tt1) (hb : Behind B vs1 D tb more) (hx : B.xe = noE) (hv : ∀ i ∈ vs1, i ∈ vs)
    (turnIs : ∀ it, TurnIs (model B.prog B.w) B.A e 1 i1.pos tg1 ifs1 it (.ref D) B.env more) (startIs : StartIs (model B.prog B.w) B.A e 1) (hs : ∀ x, foldedSetIterable i1 B.env x = pure x) : Behind B vs D (tbTwo wi1 g1 tt1 tb vs1) (again1 e i1 D B.env) := by
  intro pins s σ H Nx I q
  have pi := hi.run pins s σ H _ I q
  rw [hx] at pi
  refine wpAny_bind (thnF pi fun xv s1 h1 => wpAny_bind (wpAny_standAt (wpAny_bind (wpAny_of_eq (hs xv) (wpAny_bind (wpAny_holding (thnF h1 fun iv s2 h2 => ?_)))))))
  obtain ⟨it, fps, tn, J, H2, rfl, I2, T, ta, fa, W, ⟨m0, w0⟩, turn⟩ := h2
  have stands : ∀ {H' : Hp}, (∀ b ∈ fps, H' b = none) → ∀ b ∈ fps, FpOk B pins H' b := fun hn b mb => ⟨hn b mb, (fa b mb).2⟩
  have back : ∀ {σ' : L2.St}, σ' = wipe σ vs1 → Keeps vs σ σ' := fun {σ'} e => by
    subst e
    refine ⟨wipe_length _ _, fun j v z => ?_⟩
    obtain ⟨z1, z2⟩ := wipe_some z
    rw [wipe_other fun y => z2 (hv j y)]
    exact z1
  have loop : codeAny (model B.prog B.w) B.A (.compLoop e 1 (.ref it) (.ref D) B.env) (fun r s' => match r with
      | .ok _ => ∃ σ' H', Inv B pins σ' H' s' ∧ Keeps vs σ σ' ∧ Nx H'
      | .error _ => False) s2 := by
    refine loop_clause (turnIs _) (fun k t => ∃ j H', Inv B pins (wipe σ vs1) H' t ∧ tn j t.heap ∧ (∀ b ∈ fps, H' b = none) ∧ W j k H') ?_ m0 ⟨0, H2, I2.weak (wipe_length _ _) (fun j v z => (wipe_some z).1), ta, fun b mb => (fa b mb).1, w0⟩
    rintro k t5 ⟨j, H5, I5, ta5, n5, w5⟩
    rcases turn j k H5 w5 with ⟨stop, nx⟩ | ⟨go, Nx1, hNx, step⟩
    · refine thnF (T.done B rfl rfl rfl hc j _ t5 _ H5 noE I5 (stands n5) ta5 stop) fun r t6 ⟨er, I6⟩ => ?_
      subst er
      exact ⟨_, H5, I6, back rfl, nx⟩
    · refine thnF (T.item B rfl rfl rfl hc j _ t5 _ H5 noE I5 (stands n5) ta5 go) fun r t6 ⟨u, er, k6⟩ => ?_
      subst er
      refine thnF k6 fun _ t7 ⟨x, H7, I7, r7, y7, ta7, n7⟩ => ?_
      have pg := hg.run _ t7 _ H7 x u _ (I7.pinned (stands n7) (T.obj _ _ ta7)) r7 (step x H7 y7)
      rw [hx] at pg
      refine thnF pg fun _ t8 ⟨σ8, H8, I8, hw8, q8⟩ => ?_
      have pt := ht.run _ t8 σ8 H8 _ I8 q8
      rw [hx] at pt
      refine thnF pt fun b t9 ⟨H9, I9, q9⟩ => ?_
      have ends : ∀ {σ9 : L2.St} {t : Shared} {H' : Hp}, Inv B (pins ++ pinsAt fps t7.heap) σ9 H' t → Keeps vs1 σ8 σ9 → Nx1 H' → ∃ m, m < k ∧ ∃ j H', Inv B pins (wipe σ vs1) H' t ∧ tn j t.heap ∧ (∀ b ∈ fps, H' b = none) ∧ W j m H' := fun {σ9 t H'} I' kp nx => by
        obtain ⟨m', lt, w'⟩ := hNx H' nx
        have pinned : ∀ b ∈ fps, ∀ o, t7.heap.get? b = some o → t.heap.get? b = some o ∧ H' b = none := fun b mb o z =>
          have p := I'.pin (b, o) (List.mem_append_right _ (List.mem_append_right _ (mem_pinsAt mb z)))
          ⟨p.1, p.2.1⟩
        refine ⟨m', lt, j + 1, H', I'.unpinned.weak (by rw [kp.1, wipe_length, ← wipe_length σ8 vs1, hw8, wipe_length]) (fun i v z => kp.2 i v (by rw [hw8]; exact z)), T.keep _ _ _ ta7 fun b mb o z => (pinned b mb o z).1, fun b mb => ?_, w'⟩
        obtain ⟨o, z, _⟩ := T.obj _ _ ta7 b mb
        exact (pinned b mb o z).2
      cases b with
      | false =>
        simp only [Bool.false_eq_true, if_false] at q9 ⊢
        exact ends I9 (keeps_self _ _) q9
      | true =>
        simp only [if_true] at q9 ⊢
        exact thnF (hb _ t9 σ8 H9 Nx1 I9 q9) fun _ t10 ⟨σ9, H10, I10, kp, nx⟩ => ends I10 kp nx
  have start := startIs loop (T.self B.A 0 _ _ _ ta loop)
  refine wpAny_bind (wpAny_runOwn ?_)
  rw [Around.mark_none]
  refine codeAny_mono start fun r s' hr => ?_
  cases r with
  | ok f => exact wpAny_pure hr
  | error e => exact hr.elim
theorem turn2_eq {kx vx tg iter tg1 iter1 : Expr} {ifs ifs1 : List Expr} {scope : Scope} {pos : Pos} {it : Value} {D : Addr} {ce : Env} : compTurn (.DictComp kx vx [⟨tg, iter, ifs, 0⟩, ⟨tg1, iter1, ifs1, 0⟩] scope pos) 0 it (.ref D) ce = (do
      standAt iter.pos
      match ← pyNext it with
      | none => pure (.done .next)
      | some v =>
        letOwnedTupleGo tg it v
        assign tg ce v
        let mut ok := true
        for c in ifs do
          if ok then ok ← isTrue c ce (eval c ce)
        if ok then
          again1 (.DictComp kx vx [⟨tg, iter, ifs, 0⟩, ⟨tg1, iter1, ifs1, 0⟩] scope pos) iter1 D ce
        again (.compLoop (.DictComp kx vx [⟨tg, iter, ifs, 0⟩, ⟨tg1, iter1, ifs1, 0⟩] scope pos) 0 it (.ref D) ce)) := by
  unfold again1
  simp only [bind_assoc, pure_bind]
  rfl
theorem turn_out {prog : Program} {w : World} {A : Around} {kx vx tg iter tg1 iter1 : Expr} {ifs ifs1 : List Expr} {scope : Scope} {pos : Pos} {it : Value} {D : Addr} {ce : Env} : TurnIs (model prog w) A (.DictComp kx vx [⟨tg, iter, ifs, 0⟩, ⟨tg1, iter1, ifs1, 0⟩] scope pos) 0 iter.pos tg ifs it (.ref D) ce (again1 (.DictComp kx vx [⟨tg, iter, ifs, 0⟩, ⟨tg1, iter1, ifs1, 0⟩] scope pos) iter1 D ce) := by
  refine ⟨rfl, fun Q E s h => ?_⟩
  show wpAny _ A ((compTurn _ 0 it (.ref D) ce).onRaise _) _ _ s
  rw [turn2_eq]
  exact h
theorem turn_in {prog : Program} {w : World} {A : Around} {kx vx tg iter tg1 iter1 : Expr} {ifs ifs1 : List Expr} {scope : Scope} {pos : Pos} {it : Value} {D : Addr} {ce : Env} : TurnIs (model prog w) A (.DictComp kx vx [⟨tg, iter, ifs, 0⟩, ⟨tg1, iter1, ifs1, 0⟩] scope pos) 1 iter1.pos tg1 ifs1 it (.ref D) ce (put1 kx vx D ce) := by
  refine ⟨rfl, fun Q E s h => ?_⟩
  show wpAny _ A ((compTurn _ 1 it (.ref D) ce).onRaise _) _ _ s
  exact h
theorem start_in {prog : Program} {w : World} {A : Around} {kx vx tg iter tg1 iter1 : Expr} {ifs ifs1 : List Expr} {scope : Scope} {pos : Pos} : StartIs (model prog w) A (.DictComp kx vx [⟨tg, iter, ifs, 0⟩, ⟨tg1, iter1, ifs1, 0⟩] scope pos) 1 := by
  intro R s it acc env h0 h
  refine codeAny_of_tree ?_
  show wpAny _ A ((compStart (.DictComp kx vx [⟨tg, iter, ifs, 0⟩, ⟨tg1, iter1, ifs1, 0⟩] scope pos) 1 it acc env).onRaise (fun x => do noteFrame x env; standAt theWindowsPlace)) _ _ s
  refine wpAny_notedAt ?_
  unfold compStart
  show wpAny _ A (ask >>= _) _ _ s
  refine wpAny_bind (wpAny_askSetting (wpAny_ite ?_))
  split
  · first
      | exact wpAny_bind (wpAny_pure (wpAny_pure (And.intro rfl h0)))
      | exact wpAny_pure (And.intro rfl h0)
  · first
      | exact wpAny_bind (wpAny_rule (wpAny_bind (wpAny_standAt (wpAny_bind (wpAny_mono h (fun jt s' h' => wpAny_pure (And.intro rfl h')) fun _ _ z => z)))))
      | (refine wpAny_bind (wpAny_rule ?_); show wpAny _ A (standAt iter1.pos >>= _) _ _ s; exact wpAny_bind (wpAny_standAt (wpAny_bind (wpAny_mono h (fun jt s' h' => wpAny_pure (And.intro rfl h')) fun _ _ z => z))))
/-- two clauses; o0: the empty dict, of the kind that is wanted -/
theorem pe_dc2 {kx vx tg iter tg1 iter1 : Expr} {ifs ifs1 : List Expr} {scope : Scope} {own : List (Str × Nat)} {vs1 : List Nat} {pos : Pos} {wi wi1 : TI} {g g1 : TG} {tt tt1 : TT} {tk tv : TE} (hu : X.A.units + 1 < cLine) (hc : X.calm = true) (hN : X.N.Nodup) (hi : PI X tg iter wi) (ok : BlkOk X.N X.env.scope scope own) (hv1 : ∀ i ∈ vs1, i ∈ own.map (·.2))
    (hg : ∀ (s : Shared) (H : Hp) (C : Addr) (cl : List (Str × Addr)) (fp : List Addr), PG (X.blk s H scope (compEnvC scope cl C X.env) fp) tg g)
    (ht : ∀ (s : Shared) (H : Hp) (C : Addr) (cl : List (Str × Addr)) (fp : List Addr), PTs (X.blk s H scope (compEnvC scope cl C X.env) fp) ifs tt)
    (hi1 : ∀ (s : Shared) (H : Hp) (C : Addr) (cl : List (Str × Addr)) (fp : List Addr), PI (X.blk s H scope (compEnvC scope cl C X.env) fp) tg1 iter1 wi1)
    (hg1 : ∀ (s : Shared) (H : Hp) (C : Addr) (cl : List (Str × Addr)) (fp : List Addr), PG (X.blk s H scope (compEnvC scope cl C X.env) fp) tg1 g1)
    (ht1 : ∀ (s : Shared) (H : Hp) (C : Addr) (cl : List (Str × Addr)) (fp : List Addr), PTs (X.blk s H scope (compEnvC scope cl C X.env) fp) ifs1 tt1)
    (hk : ∀ (s : Shared) (H : Hp) (C : Addr) (cl : List (Str × Addr)) (fp : List Addr), PE (X.blk s H scope (compEnvC scope cl C X.env) fp) kx tk)
    (hv : ∀ (s : Shared) (H : Hp) (C : Addr) (cl : List (Str × Addr)) (fp : List Addr), PE (X.blk s H scope (compEnvC scope cl C X.env) fp) vx tv) (hs : ∀ x, foldedSetIterable iter X.env x = pure x := by intro _; rfl) (hs1 : ∀ env x, foldedSetIterable iter1 env x = pure x := by intro _ _; rfl) :
    PE X (.DictComp kx vx [⟨tg, iter, ifs, 0⟩, ⟨tg1, iter1, ifs1, 0⟩] scope pos) (tDcG (.dK []) wi g tt (tbTwo wi1 g1 tt1 (tbPut tk tv) vs1) (own.map (·.2))) := by
  refine ⟨fun pins s σ H Q I h => ?_⟩
  rw [arm_eval_DictComp]
  exact dcG_core (more := fun D ce => again1 _ iter1 D ce) rfl (fun it D ce => turn_out) (fun h0 h => codeAny_compStart_dict h0 h) (fun H h b => dk_empty h b) hc hN I hi ok hg ht (fun s H C cl fp D => behind_two hc (hi1 s H C cl fp) (hg1 s H C cl fp) (ht1 s H C cl fp) (behind_put (hk s H C cl fp) (hv s H C cl fp) rfl hu) rfl hv1 (fun it => turn_in) start_in (hs1 _)) hs h out_value
theorem ps_setDc2 {i : Nat} {y : Str} {py : Pos} {kx vx tg iter tg1 iter1 : Expr} {ifs ifs1 : List Expr} {scope : Scope} {own : List (Str × Nat)} {vs1 : List Nat} {pos spos : Pos} {wi wi1 : TI} {g g1 : TG} {tt tt1 : TT} {tk tv : TE} (hu : X.A.units + 1 < cLine) (hc : X.calm = true) (hN : X.N.Nodup) (hy : X.N[i]? = some y) (hyl : X.env.scope.names.lookup y = some .local)
    (hsw : swapsWith (.DictComp kx vx [⟨tg, iter, ifs, 0⟩, ⟨tg1, iter1, ifs1, 0⟩] scope pos) (some (.Name y py)) spos.line X.env = pure true) (hi : PI X tg iter wi) (ok : BlkOk X.N X.env.scope scope own) (hv1 : ∀ i ∈ vs1, i ∈ own.map (·.2))
    (hg : ∀ (s : Shared) (H : Hp) (C : Addr) (cl : List (Str × Addr)) (fp : List Addr), PG (X.blk s H scope (compEnvC scope cl C X.env) fp) tg g)
    (ht : ∀ (s : Shared) (H : Hp) (C : Addr) (cl : List (Str × Addr)) (fp : List Addr), PTs (X.blk s H scope (compEnvC scope cl C X.env) fp) ifs tt)
    (hi1 : ∀ (s : Shared) (H : Hp) (C : Addr) (cl : List (Str × Addr)) (fp : List Addr), PI (X.blk s H scope (compEnvC scope cl C X.env) fp) tg1 iter1 wi1)
    (hg1 : ∀ (s : Shared) (H : Hp) (C : Addr) (cl : List (Str × Addr)) (fp : List Addr), PG (X.blk s H scope (compEnvC scope cl C X.env) fp) tg1 g1)
    (ht1 : ∀ (s : Shared) (H : Hp) (C : Addr) (cl : List (Str × Addr)) (fp : List Addr), PTs (X.blk s H scope (compEnvC scope cl C X.env) fp) ifs1 tt1)
    (hk : ∀ (s : Shared) (H : Hp) (C : Addr) (cl : List (Str × Addr)) (fp : List Addr), PE (X.blk s H scope (compEnvC scope cl C X.env) fp) kx tk)
    (hv : ∀ (s : Shared) (H : Hp) (C : Addr) (cl : List (Str × Addr)) (fp : List Addr), PE (X.blk s H scope (compEnvC scope cl C X.env) fp) vx tv) (hs : ∀ x, foldedSetIterable iter X.env x = pure x := by intro _; rfl) (hs1 : ∀ env x, foldedSetIterable iter1 env x = pure x := by intro _ _; rfl) :
    PS X (.Assign [.Name y py] (.DictComp kx vx [⟨tg, iter, ifs, 0⟩, ⟨tg1, iter1, ifs1, 0⟩] scope pos) spos) (tAsg (tDcG (.dK []) wi g tt (tbTwo wi1 g1 tt1 (tbPut tk tv) vs1) (own.map (·.2))) (gName i)) := by
  refine ⟨fun pins s σ H D I h => ?_⟩
  rw [exec_Assign_Name_used _ _ _ _ hsw]
  refine wpAny_bind (wpAny_standAt (wpAny_bind ?_))
  show wpAny _ X.A (do let _ ← comprehension (.DictComp kx vx [⟨tg, iter, ifs, 0⟩, ⟨tg1, iter1, ifs1, 0⟩] scope pos) scope X.env (firstIterPos [⟨tg, iter, ifs, 0⟩, ⟨tg1, iter1, ifs1, 0⟩] pos) newDict false (eval iter X.env) (some (assign (.Name y py) X.env))) _ _ s
  have h : tDcG (.dK []) wi g tt (tbTwo wi1 g1 tt1 (tbPut tk tv) vs1) (own.map (·.2)) σ H (fun x H1 => gName i x σ H1 D.nx) := h
  exact wpAny_bind (thn (dcG_core (Qf := fun _ s' => SP X pins D .next s') (more := fun D ce => again1 _ iter1 D ce) rfl (fun it D ce => turn_out) (fun h0 h => codeAny_compStart_dict h0 h) (fun H h b => dk_empty h b) hc hN I hi ok hg ht (fun s H C cl fp D => behind_two hc (hi1 s H C cl fp) (hg1 s H C cl fp) (ht1 s H C cl fp) (behind_put (hk s H C cl fp) (hv s H C cl fp) rfl hu) rfl hv1 (fun it => turn_in) start_in (hs1 _)) hs h (out_name hN hy hyl)) fun _ s' hq => wpAny_pure (wpAny_pure hq))
end
end My
namespace My
open PySem L2 PyProof.Rows
/-! ### == by an own __eq__, whatever it answers -/
section
variable {X : Cx}
theorem op_eqOwn {CX : CXT} {k : Nat} {C f : Addr} {fd : FuncData} {ps : List Str} {sp : Sp} {E : XK} (F : FnOk X.prog X.w X.K X.mg X.base CX k f fd ps sp) (hr : Room k X.A)
    (hs : PySem.W.findIn X.K (.ref C) "__eq__" = some (some (.ref f))) (hf : PySem.W.isFn X.K (.ref f) = true) (hb : Binds X.K fd ps []) (hx : Passes CX X E) :
    OpR X (compareOp .Eq) (fun x y H Q => ∃ a b dx dy fs gs, x = .ref a ∧ y = .ref b ∧ H a = some (.ins C dx fs) ∧ H b = some (.ins C dy gs) ∧ sp [x, y] H (fun v H' => ∃ c, v = .bl c ∧ Q (.bl c) H') E) := by
  intro pins s σ H x y v u Q I rx ry h
  obtain ⟨a, b, dx, dy, fs, gs, rfl, rfl, ha, hb', hsp⟩ := h
  cases rx
  cases ry
  show wpAny (model X.prog X.w) X.A (richCompare .Eq (.ref a) (.ref b)) (EP X pins σ Q) X.xe s
  obtain ⟨_, J, _⟩ := ins_get I.hok ha
  obtain ⟨_, J', _⟩ := ins_get I.hok hb'
  obtain ⟨_, J, _⟩ := J.look
  obtain ⟨_, J', _⟩ := J'.look
  obtain ⟨m, hF⟩ := I.fr
  refine PySem.W.cmp_K (op := .Eq) (tb := .ref C) hr.units0 hF I.ok.mod.kin J J'.type (by simp [PySem.W.notFirst]) hs hf ?_
  have vals : Vals [V.ref a, V.ref b] [Value.ref a, Value.ref b] := .cons rfl (.cons rfl .nil)
  have e0 : Env0 X.prog X.w X.K X.mg X.base X.A X.stack s H := I.env0
  have hl := F.len _ _ _ _ hsp
  refine wpAny_call (codeAny_mono (F.run X.A X.stack s H ⟨[.ref a, .ref b], []⟩ [.ref a, .ref b] [.ref a, .ref b] _ E hr e0 (by
    have bd := hb s [.ref a, .ref b] I.kIn (by simpa using hl)
    simpa using bd) vals hsp) fun r s' hq => ?_)
  cases r with
  | error e => exact hx pins σ H s e s' I hq
  | ok fl =>
    cases fl with
    | ret w =>
      obtain ⟨z, H', I', rz, c, ez, qz⟩ := I.after hq
      subst ez
      cases rz
      exact ⟨.bl c, H', I', rfl, qz⟩
    | next => exact False.elim hq
    | brk => exact False.elim hq
    | cont => exact False.elim hq
end
end My
namespace My
open PySem L2 PyProof.Rows PySem.W
/-! ### != of instances with an own __eq__ and the object's __ne__ -/
section
variable {prog : Program} {w : World} {A : Around} {E : Value → Shared → Prop} {s : Shared} {K : PySem.W.Frag} {x y C L f : Addr} {h₀ : Heap} {m : Str → Option Value} {ox : Obj} {od : Option Obj}
theorem check_ne {Q : Unit → Shared → Prop} (X : K.In s.heap) (I : PySem.W.InstAt s.heap x ox C od) (hm : PySem.W.mroIn K C (.type "object") = some true) (hq : Q () s) :
    wpAny (model prog w) A (checkBuiltinCall "object.__ne__" ⟨[.ref x, .ref y], []⟩) Q E s := by
  have L1 := PySem.W.looks_mroIn (M := model prog w) X hm
  simp only [checkBuiltinCall, F.cmpKind_ne, F.cmpSplit_ne]
  refine wpAny_bind ?_
  unfold isInstance
  refine wpAny_bind (I.type.here (L1.here ?_))
  simp only [Bool.not_true, Bool.false_eq_true, if_false]
  exact wpAny_pure hq
theorem entry_ne {Q : Fin → Shared → Prop} (hu : A.units < cLine) (X : K.In s.heap) (I : PySem.W.InstAt s.heap x ox C od) (hs : PySem.W.findIn K (.ref C) "__eq__" = some (some (.ref f))) (hf : PySem.W.isFn K (.ref f) = true)
    (hcall : wpAny (model prog w) A (call (.ref f) [.ref x, .ref y]) (fun v s' => ∃ b, v = .bool b ∧ Q (.done (.ret (.bool (!b)))) s') E s) :
    wpAny (model prog w) A (Builtin.«object.__ne__» ⟨[.ref x, .ref y], []⟩) Q E s := by
  unfold Builtin.«object.__ne__»
  repeat (first
    | with_reducible refine wpAny_cRoomFor hu ?_
    | (refine wpAny_bind (m := callSpecialIfBound? (.ref x) (Str.ofString "__eq__") [.ref y])
        (PySem.W.ifBound_K X I hs hf (wpAny_mono hcall (fun r s' hr => by
          obtain ⟨b, rfl, hq⟩ := hr
          repeat (first | exact hq | exact wpAny_pure hq | exact wpAny_truthy_bool hq | (refine wpAny_bind (m := truthy (.bool _)) (wpAny_truthy_bool ?_)) | wp_step)) fun _ _ e => e)))
    | wp_step)
theorem try_ne {Q : Option Value → Shared → Prop} (hu : A.units + 1 < cLine) (X : K.In s.heap) (I : PySem.W.InstAt s.heap x ox C od) (hm : PySem.W.mroIn K C (.type "object") = some true) (hn : PySem.W.findIn K (.ref C) "__ne__" = some (some (.builtin "object.__ne__")))
    (hs : PySem.W.findIn K (.ref C) "__eq__" = some (some (.ref f))) (hf : PySem.W.isFn K (.ref f) = true)
    (hcall : wpAny (model prog w) A.in1 (call (.ref f) [.ref x, .ref y]) (fun v s' => ∃ b, v = .bool b ∧ Q (some (.bool (!b))) s') E s) :
    wpAny (model prog w) A (tryCompare (.ref x) "__ne__" (.ref y)) Q E s := by
  have S := F.cmp_object.ne
  have one : wpAny (model prog w) A (callSpecialIfBound? (.ref x) "__ne__" [.ref y]) (fun r s' => ∃ b, r = some (.bool b) ∧ Q (some (.bool b)) s') E s := by
    simp only [callSpecialIfBound?, bindSpecialIfBound?]
    refine wpAny_holding (wpAny_bind (wpAny_bind (wpAny_bind (I.type.here ((PySem.W.looks_findIn X hn).here ?_)))))
    simp only [S.bind]
    refine wpAny_bind (wpAny_askSetting (wpAny_ite ?_))
    have fin : wpAny (model prog w) A (call (.builtin "object.__ne__") ([.ref x] ++ [.ref y]) >>= fun v => pure (some v)) (fun r s' => ∃ b, r = some (.bool b) ∧ Q (some (.bool b)) s') E s := by
      refine wpAny_bind (wpAny_call (codeAny_call_builtin S.plain F.cmpEntry_ne (check_ne X I hm (entry_ne (A := A.in1) hu X I hs hf (wpAny_mono hcall (fun v s' hv => ?_) fun _ _ e => e)))))
      obtain ⟨b, rfl, hq⟩ := hv
      exact ⟨b, rfl, wpAny_pure ⟨_, rfl, hq⟩⟩
    split
    · exact wpAny_bind (wpAny_pure (wpAny_pure fin))
    · exact wpAny_tryCatch (wpAny_bind (wpAny_pure (wpAny_pure fin)))
  unfold tryCompare
  refine wpAny_bind (wpAny_mono one (fun v s' hv => ?_) fun _ _ e => e)
  obtain ⟨b, rfl, hq⟩ := hv
  exact wpAny_pure hq
theorem ne_own {Q : Value → Shared → Prop} {oy : Obj} {odY : Option Obj} (hu : A.units + 1 < cLine) (X : K.In s.heap) (I : PySem.W.InstAt s.heap x ox C od) (J : PySem.W.InstAt s.heap y oy C odY) (hm : PySem.W.mroIn K C (.type "object") = some true) (hn : PySem.W.findIn K (.ref C) "__ne__" = some (some (.builtin "object.__ne__")))
    (hs : PySem.W.findIn K (.ref C) "__eq__" = some (some (.ref f))) (hf : PySem.W.isFn K (.ref f) = true)
    (hcall : wpAny (model prog w) A.in1 (call (.ref f) [.ref x, .ref y]) (fun v s' => ∃ b, v = .bool b ∧ Q (.bool (!b)) s') E s) :
    wpAny (model prog w) A (richCompare .NotEq (.ref x) (.ref y)) Q E s := by
  unfold richCompare
  simp only [oneThing_ref]
  refine wpAny_holding ?_
  refine wpAny_bind (wpAny_cRoomFor (Nat.lt_of_succ_lt hu) ?_)
  rw [cmpInfo_NotEq]
  dsimp only
  refine wpAny_bind (I.type.here (wpAny_bind (J.type.here ?_)))
  rw [show (Value.ref C != Value.ref C) = false from by simp]
  simp only [Bool.false_eq_true, if_false]
  refine wpAny_bind (wpAny_pure ?_)
  simp only [Bool.false_eq_true, if_false]
  refine wpAny_bind (try_ne hu X I hm hn hs hf (wpAny_mono hcall (fun v s' hv => ?_) fun _ _ e => e))
  obtain ⟨b, rfl, hq⟩ := hv
  exact ⟨b, rfl, wpAny_pure hq⟩
end
section
variable {X : Cx}
theorem op_neOwn {CX : CXT} {k : Nat} {C f : Addr} {fd : FuncData} {ps : List Str} {sp : Sp} {E : XK} (F : FnOk X.prog X.w X.K X.mg X.base CX k f fd ps sp) (hr : Room (k + 1) X.A) (hm : PySem.W.mroIn X.K C (.type "object") = some true) (hn : PySem.W.findIn X.K (.ref C) "__ne__" = some (some (.builtin "object.__ne__")))
    (hs : PySem.W.findIn X.K (.ref C) "__eq__" = some (some (.ref f))) (hf : PySem.W.isFn X.K (.ref f) = true) (hb : Binds X.K fd ps []) (hx : Passes CX X E) :
    OpR X (compareOp .NotEq) (fun x y H Q => ∃ a b dx dy fs gs, x = .ref a ∧ y = .ref b ∧ H a = some (.ins C dx fs) ∧ H b = some (.ins C dy gs) ∧ sp [x, y] H (fun v H' => ∃ c, v = .bl c ∧ Q (.bl (!c)) H') E) := by
  intro pins s σ H x y v u Q I rx ry h
  obtain ⟨a, b, dx, dy, fs, gs, rfl, rfl, ha, hb', hsp⟩ := h
  cases rx
  cases ry
  show wpAny (model X.prog X.w) X.A (richCompare .NotEq (.ref a) (.ref b)) (EP X pins σ Q) X.xe s
  obtain ⟨_, J, _⟩ := ins_get I.hok ha
  obtain ⟨_, J', _⟩ := ins_get I.hok hb'
  obtain ⟨_, J, _⟩ := J.look
  obtain ⟨_, J', _⟩ := J'.look
  have hu : X.A.units + 1 < cLine := hu_of hr
  refine ne_own hu I.kIn J J' hm hn hs hf ?_
  have vals : Vals [V.ref a, V.ref b] [Value.ref a, Value.ref b] := .cons rfl (.cons rfl .nil)
  have e0 : Env0 X.prog X.w X.K X.mg X.base X.A.in1 X.stack s H := I.env0.in1
  have hl := F.len _ _ _ _ hsp
  refine wpAny_call (codeAny_mono (F.run X.A.in1 X.stack s H ⟨[.ref a, .ref b], []⟩ [.ref a, .ref b] [.ref a, .ref b] _ E hr.in1 e0 (by
    have bd := hb s [.ref a, .ref b] I.kIn (by simpa using hl)
    simpa using bd) vals hsp) fun r s' hq => ?_)
  cases r with
  | error e => exact hx pins σ H s e s' I hq
  | ok fl =>
    cases fl with
    | ret w =>
      obtain ⟨z, H', I', rz, c, ez, qz⟩ := I.after hq
      subst ez
      cases rz
      exact ⟨c, rfl, .bl (!c), H', I', rfl, qz⟩
    | next => exact False.elim hq
    | brk => exact False.elim hq
    | cont => exact False.elim hq
/-- == of an instance with an own __eq__ and a dict -/
theorem op_eqDict {CX : CXT} {k : Nat} {C f : Addr} {fd : FuncData} {ps : List Str} {sp : Sp} {E : XK} (F : FnOk X.prog X.w X.K X.mg X.base CX k f fd ps sp) (hr : Room k X.A)
    (hs : PySem.W.findIn X.K (.ref C) "__eq__" = some (some (.ref f))) (hf : PySem.W.isFn X.K (.ref f) = true) (hnf : PySem.W.notFirst X.K C (.type "dict") = true) (hb : Binds X.K fd ps []) (hx : Passes CX X E) :
    OpR X (compareOp .Eq) (fun x y H Q => ∃ a d dx fs kvs, x = .ref a ∧ y = .ref d ∧ H a = some (.ins C dx fs) ∧ H d = some (.dK kvs) ∧ sp [x, y] H (fun v H' => ∃ c, v = .bl c ∧ Q (.bl c) H') E) := by
  intro pins s σ H x y v u Q I rx ry h
  obtain ⟨a, b, dx, fs, kvs, rfl, rfl, ha, hb', hsp⟩ := h
  cases rx
  cases ry
  show wpAny (model X.prog X.w) X.A (richCompare .Eq (.ref a) (.ref b)) (EP X pins σ Q) X.xe s
  obtain ⟨_, J, _⟩ := ins_get I.hok ha
  obtain ⟨_, J, _⟩ := J.look
  obtain ⟨_, _, _, _, ob, es, ep, e, ⟨hcls, _⟩, _⟩ := (show ObjOk X.prog X.w H s.heap b (.dK kvs) from I.hok b _ hb')
  have hty : PySem.W.Looks (model X.prog X.w) s.heap (typeOf (.ref b)) (.type "dict") := hcls ▸ (PySem.W.Looks.ld e).andThen .now
  obtain ⟨m, hF⟩ := I.fr
  refine PySem.W.cmp_K (op := .Eq) (tb := .type "dict") hr.units0 hF I.ok.mod.kin J hty hnf hs hf ?_
  have vals : Vals [V.ref a, V.ref b] [Value.ref a, Value.ref b] := .cons rfl (.cons rfl .nil)
  have e0 : Env0 X.prog X.w X.K X.mg X.base X.A X.stack s H := I.env0
  have hl := F.len _ _ _ _ hsp
  refine wpAny_call (codeAny_mono (F.run X.A X.stack s H ⟨[.ref a, .ref b], []⟩ [.ref a, .ref b] [.ref a, .ref b] _ E hr e0 (by
    have bd := hb s [.ref a, .ref b] I.kIn (by simpa using hl)
    simpa using bd) vals hsp) fun r s' hq => ?_)
  cases r with
  | error e => exact hx pins σ H s e s' I hq
  | ok fl =>
    cases fl with
    | ret w =>
      obtain ⟨z, H', I', rz, c, ez, qz⟩ := I.after hq
      subst ez
      cases rz
      exact ⟨.bl c, H', I', rfl, qz⟩
    | next => exact False.elim hq
    | brk => exact False.elim hq
    | cont => exact False.elim hq
def tMethKK (C : Addr) (m : Str) (sp : Sp) (gV : List V → List V → List V) (E : XK) (ta : TE) (tk : TA) : TE := fun σ H Q => ta σ H fun x H1 => ∃ a dx fs, x = .ref a ∧ H1 a = some (.ins C dx fs) ∧ fs.lookup m = none ∧ tk σ H1 fun zs H2 => sp (gV [x] zs) H2 Q E
/-- o.m(a=.., b=..) -/
theorem pe_methKK {CX : CXT} {k : Nat} {f C : Addr} {fd : FuncData} {ps ks : List Str} {sp : Sp} {E : XK} {m : Str} {pos apos : Pos} {o : Expr} {kws : List Keyword} {ta : TE} {tk : TA} {g : List Value → List Value → List Value} {gV : List V → List V → List V} {pl : Sem Bool} (he : PE X o ta) (c : Cls X.K C) (hm : Meth X.K C m f) (F : FnOk X.prog X.w X.K X.mg X.base CX k f fd ps sp) (hr : Room k X.A) (hb : KBinds X.K fd ps ks g gV) (hx : Passes CX X E)
    (hkw : PK X kws tk) (hall : (backToKw pos (keywordEach kws X.env)).all (·.1.isSome) = true := by rfl) (hks : (backToKw pos (keywordEach kws X.env)).filterMap (·.1) = ks := by rfl)
    (hpl : ((backTo pos (starEach [] X.env)).any (·.1) || (backToKw pos (keywordEach kws X.env)).any (·.1.isNone)) = false := by rfl)
    (ht : eval (.Call (.Attribute o m apos) [] kws pos) X.env = (do
      let ov ← eval o X.env
      standAt apos.atName
      let (f, first) ← holding [ov] (getMethod ov m pl)
      callWith pos f first (backTo pos (starEach [] X.env)) (backToKw pos (keywordEach kws X.env))) := by rfl) :
    PE X (.Call (.Attribute o m apos) [] kws pos) (tMethKK C m sp gV E ta tk) := by
  refine ⟨fun pins s σ H Q I h => ?_⟩
  refine PySem.W.methodCall_KW (pl := pl) (thn (he.run pins s σ H _ I h) fun u s1 ⟨x, H1, I1, rx, a, dx, fs, ex, ea, l, q⟩ => ?_) ht
  subst ex
  obtain rfl : u = Value.ref a := rx
  refine getmeth_ok I1 ea c hm l ?_
  refine PySem.W.callWith_KW0 (first := [.ref a]) (h₀ := X.base) I.ok.mod.kin hm.kp hall (thn (hkw.run pos pins s1 σ H1 _ I1 q) fun ws s2 ⟨zs, H2, I2, rz, q2⟩ => ⟨I2.kIn, ?_⟩) hpl
  rw [hks]
  exact run_fnk (us := [.ref a]) (vs := [.ref a]) F hr hb hx I2 (.cons rfl .nil) rz q2
end
end My
namespace My
open PySem L2 PyProof.Rows
def topS (i : Nat) : Stmt := PySem.Challenge.pw_suretexts_k86_whole_words_found_by_halvi.main.body.getD i (.Pass ⟨0, 0, 0, 0⟩)
abbrev sis_integer : Stmt := topS 5
theorem scis_integer : FnScope ["value"] ["value"] (defScope sis_integer) := ⟨rfl, rfl, rfl, by decide +kernel, rfl, by decide +kernel, by decide +kernel⟩
abbrev sis_between : Stmt := topS 6
theorem scis_between : FnScope ["value", "least", "most"] ["value", "least", "most"] (defScope sis_between) := ⟨rfl, rfl, rfl, by decide +kernel, rfl, by decide +kernel, by decide +kernel⟩
abbrev sis_listed : Stmt := topS 7
theorem scis_listed : FnScope ["value"] ["value"] (defScope sis_listed) := ⟨rfl, rfl, rfl, by decide +kernel, rfl, by decide +kernel, by decide +kernel⟩
abbrev sis_letter : Stmt := topS 8
theorem scis_letter : FnScope ["sign"] ["sign"] (defScope sis_letter) := ⟨rfl, rfl, rfl, by decide +kernel, rfl, by decide +kernel, by decide +kernel⟩
abbrev sis_text : Stmt := topS 11
theorem scis_text : FnScope ["value", "sign"] ["value"] (defScope sis_text) := ⟨rfl, rfl, rfl, by decide +kernel, rfl, by decide +kernel, by decide +kernel⟩
abbrev sis_ring : Stmt := topS 12
theorem scis_ring : FnScope ["value"] ["value"] (defScope sis_ring) := ⟨rfl, rfl, rfl, by decide +kernel, rfl, by decide +kernel, by decide +kernel⟩
abbrev sneed_word : Stmt := topS 13
theorem scneed_word : FnScope ["word"] ["word"] (defScope sneed_word) := ⟨rfl, rfl, rfl, by decide +kernel, rfl, by decide +kernel, by decide +kernel⟩
abbrev s_need_texts : Stmt := topS 16
theorem sc_need_texts : FnScope ["texts", "text"] ["texts"] (defScope s_need_texts) := ⟨rfl, rfl, rfl, by decide +kernel, rfl, by decide +kernel, by decide +kernel⟩
abbrev s_places_in : Stmt := topS 17
theorem sc_places_in : FnScope ["texts", "number", "text", "place"] ["texts"] (defScope s_places_in) := ⟨rfl, rfl, rfl, by decide +kernel, rfl, by decide +kernel, by decide +kernel⟩
abbrev splain_places : Stmt := topS 18
theorem scplain_places : FnScope ["texts", "word", "size", "number", "place"] ["texts", "word"] (defScope splain_places) := ⟨rfl, rfl, rfl, by decide +kernel, rfl, by decide +kernel, by decide +kernel⟩
abbrev s_in_common : Stmt := topS 19
theorem sc_in_common : FnScope ["one", "other", "many"] ["one", "other"] (defScope s_in_common) := ⟨rfl, rfl, rfl, by decide +kernel, rfl, by decide +kernel, by decide +kernel⟩
abbrev s_sorted_places : Stmt := topS 20
theorem sc_sorted_places : FnScope ["texts", "read", "number", "place", "_"] ["texts"] (defScope s_sorted_places) := ⟨rfl, rfl, rfl, by decide +kernel, rfl, by decide +kernel, by decide +kernel⟩
abbrev s_law_pot : Stmt := topS 23
theorem sc_law_pot : FnScope ["_law_script", "_law_k", "_law_cell"] ["_law_script", "_law_k"] (defScope s_law_pot) := ⟨rfl, rfl, rfl, by decide +kernel, rfl, by decide +kernel, by decide +kernel⟩
abbrev s_law_draw : Stmt := topS 24
theorem sc_law_draw : FnScope ["_law_pot_here", "_law_size", "_law_digit"] ["_law_pot_here", "_law_size"] (defScope s_law_draw) := ⟨rfl, rfl, rfl, by decide +kernel, rfl, by decide +kernel, by decide +kernel⟩
abbrev s_law_pick : Stmt := topS 25
theorem sc_law_pick : FnScope ["_law_pot_here", "_law_some"] ["_law_pot_here", "_law_some"] (defScope s_law_pick) := ⟨rfl, rfl, rfl, by decide +kernel, rfl, by decide +kernel, by decide +kernel⟩
abbrev s_law_text : Stmt := topS 26
theorem sc_law_text : FnScope ["_law_pot_here", "_law_most", "_law_found", "_law_turn"] ["_law_pot_here", "_law_most"] (defScope s_law_text) := ⟨rfl, rfl, rfl, by decide +kernel, rfl, by decide +kernel, by decide +kernel⟩
abbrev s_law_rows : Stmt := topS 27
theorem sc_law_rows : FnScope ["_law_texts", "_law_found", "_law_number", "_law_text_here", "_law_place", "_law_rest"] ["_law_texts"] (defScope s_law_rows) := ⟨rfl, rfl, rfl, by decide +kernel, rfl, by decide +kernel, by decide +kernel⟩
abbrev s_law_places : Stmt := topS 28
theorem sc_law_places : FnScope ["_law_texts", "_law_word", "_law_found", "_law_number", "_law_text_here", "_law_place"] ["_law_texts", "_law_word"] (defScope s_law_places) := ⟨rfl, rfl, rfl, by decide +kernel, rfl, by decide +kernel, by decide +kernel⟩
abbrev s_law_again : Stmt := topS 29
theorem sc_law_again : FnScope ["_law_texts", "_law_often", "_law_text_here", "_law_place", "_law_end", "_law_some", "_law_most", "_law_word"] ["_law_texts"] (defScope s_law_again) := ⟨rfl, rfl, rfl, by decide +kernel, rfl, by decide +kernel, by decide +kernel⟩
abbrev s_law_word_right : Stmt := topS 30
theorem sc_law_word_right : FnScope ["_law_finder", "_law_texts", "_law_word", "_law_due", "_law_at", "_law_stretch", "_law_number", "_law_row"] ["_law_finder", "_law_texts", "_law_word"] (defScope s_law_word_right) := ⟨rfl, rfl, rfl, by decide +kernel, rfl, by decide +kernel, by decide +kernel⟩
abbrev s_law_words : Stmt := topS 31
theorem sc_law_words : FnScope ["_law_pot_here", "_law_texts", "_law_found", "_law_turn", "_law_text_here", "_law_place", "_law_word"] ["_law_pot_here", "_law_texts"] (defScope s_law_words) := ⟨rfl, rfl, rfl, by decide +kernel, rfl, by decide +kernel, by decide +kernel⟩
abbrev slaw : Stmt := topS 32
theorem sclaw : FnScope ["_law_script", "_law_pot_here", "_law_texts", "_law_turn", "_law_finder", "_law_rows_here", "_law_due", "_law_word", "_law_other", "_law_number", "_law_place"] ["_law_script"] (defScope slaw) := ⟨rfl, rfl, rfl, by decide +kernel, rfl, by decide +kernel, by decide +kernel⟩
abbrev sFinder___init__ : Stmt := inClass (topS 21) 0
theorem scFinder___init__ : FnScope ["self", "texts"] ["self", "texts"] (defScope sFinder___init__) := ⟨rfl, rfl, rfl, by decide +kernel, rfl, by decide +kernel, by decide +kernel⟩
abbrev sFinder___eq__ : Stmt := inClass (topS 21) 1
theorem scFinder___eq__ : FnScope ["self", "other"] ["self", "other"] (defScope sFinder___eq__) := ⟨rfl, rfl, rfl, by decide +kernel, rfl, by decide +kernel, by decide +kernel⟩
abbrev sFinder_texts : Stmt := inClass (topS 21) 2
theorem scFinder_texts : FnScope ["self"] ["self"] (defScope sFinder_texts) := ⟨rfl, rfl, rfl, by decide +kernel, rfl, by decide +kernel, by decide +kernel⟩
abbrev sFinder_rows : Stmt := inClass (topS 21) 3
theorem scFinder_rows : FnScope ["self"] ["self"] (defScope sFinder_rows) := ⟨rfl, rfl, rfl, by decide +kernel, rfl, by decide +kernel, by decide +kernel⟩
abbrev sFinder_last_letters : Stmt := inClass (topS 21) 4
theorem scFinder_last_letters : FnScope ["self", "number", "place"] ["self"] (defScope sFinder_last_letters) := ⟨rfl, rfl, rfl, by decide +kernel, rfl, by decide +kernel, by decide +kernel⟩
abbrev sFinder__read_from : Stmt := inClass (topS 21) 5
theorem scFinder__read_from : FnScope ["self", "at", "number", "place"] ["self", "at"] (defScope sFinder__read_from) := ⟨rfl, rfl, rfl, by decide +kernel, rfl, by decide +kernel, by decide +kernel⟩
abbrev sFinder__rows_ahead : Stmt := inClass (topS 21) 6
theorem scFinder__rows_ahead : FnScope ["self", "word", "with_word", "low", "high", "middle", "read"] ["self", "word", "with_word"] (defScope sFinder__rows_ahead) := ⟨rfl, rfl, rfl, by decide +kernel, rfl, by decide +kernel, by decide +kernel⟩
abbrev sFinder__bounds : Stmt := inClass (topS 21) 7
theorem scFinder__bounds : FnScope ["self", "word"] ["self", "word"] (defScope sFinder__bounds) := ⟨rfl, rfl, rfl, by decide +kernel, rfl, by decide +kernel, by decide +kernel⟩
abbrev sFinder_stretch_of : Stmt := inClass (topS 21) 8
theorem scFinder_stretch_of : FnScope ["self", "word", "first", "behind"] ["self", "word"] (defScope sFinder_stretch_of) := ⟨rfl, rfl, rfl, by decide +kernel, rfl, by decide +kernel, by decide +kernel⟩
abbrev sFinder_places_of : Stmt := inClass (topS 21) 9
theorem scFinder_places_of : FnScope ["self", "word", "first", "behind"] ["self", "word"] (defScope sFinder_places_of) := ⟨rfl, rfl, rfl, by decide +kernel, rfl, by decide +kernel, by decide +kernel⟩
abbrev sFinder_how_often : Stmt := inClass (topS 21) 10
theorem scFinder_how_often : FnScope ["self", "word", "first", "behind"] ["self", "word"] (defScope sFinder_how_often) := ⟨rfl, rfl, rfl, by decide +kernel, rfl, by decide +kernel, by decide +kernel⟩
abbrev sFinder_longest_again : Stmt := inClass (topS 21) 11
theorem scFinder_longest_again : FnScope ["self", "longest", "at", "both"] ["self"] (defScope sFinder_longest_again) := ⟨rfl, rfl, rfl, by decide +kernel, rfl, by decide +kernel, by decide +kernel⟩
structure Bs (mg : Str → Option Value) : Prop where
  isinstance : mg "isinstance" = none
  int : mg "int" = none
  bool : mg "bool" = none
  str : mg "str" = none
  list : mg "list" = none
  tuple : mg "tuple" = none
  len : mg "len" = none
  range : mg "range" = none
  abs : mg "abs" = none
  max : mg "max" = none
  min : mg "min" = none
  divmod : mg "divmod" = none
  enumerate : mg "enumerate" = none
  sorted : mg "sorted" = none
  sum : mg "sum" = none
  all : mg "all" = none
structure Glo (mg : Str → Option Value) : Prop where
  MOST_TEXTS : ∃ t, mg "MOST_TEXTS" = some (.int 20 t)
  MOST_LETTERS : ∃ t, mg "MOST_LETTERS" = some (.int 400 t)
structure WebK (K : PySem.W.Frag) (mg : Str → Option Value) (C : Addr) : Prop where
  cl : Cls K C
  nT : NoAttr K C "_texts"
  nR : NoAttr K C "_rows"
  mgC : mg "Finder" = some (.ref C)
  i1 : PySem.W.findIn K (.ref C) "__class__" = some (some (.builtin "object.__class__"))
  i2 : PySem.W.specialIn K (.builtin "object.__class__") "__get__" = some (some (.builtin "getset_descriptor.__get__"))
  i3 : PySem.W.takesIn K (.builtin "object.__class__") = some true
  i4 : PySem.W.mroIn K C (.type "object") = some true
  i5 : PySem.W.kitOne K (.ref C) (.ref C) = some true
  ne : PySem.W.findIn K (.ref C) "__ne__" = some (some (.builtin "object.__ne__"))
  nl : PySem.W.notFirst K C (.type "list") = true
  kl : PySem.W.kitOne K (.type "list") (.ref C) = some false
abbrev iv (L : List Nat) : List V := L.map fun n : Nat => V.int (n : Int)
theorem same_new {H : Hp} {p : Addr} (h : H p = none) (o : HO) : Same H (upd H p o) := fun b u q => by rw [upd_ne (ne_of_none q h)]; exact q
theorem iteNo {c A B : Prop} [Decidable c] (h : ¬ c) (b : B) : if decide c = true then A else B := by
  rw [decide_eq_false h]
  exact iteF b
theorem iteNot {c A B : Prop} [Decidable c] (h : ¬ c) (a : A) : if (!decide c) = true then A else B := by
  rw [decide_eq_false h]
  exact iteT a
theorem iteNot' {c A B : Prop} [Decidable c] (h : c) (b : B) : if (!decide c) = true then A else B := by
  rw [decide_eq_true h]
  exact iteF b
theorem iteNN {c A B : Prop} [Decidable c] (h : ¬ c) (b : B) : if (!!decide c) = true then A else B := by
  rw [decide_eq_false h]
  exact iteF b
theorem iv_at {L : List Nat} {j b : Nat} (h : L[j]? = some b) : atI (iv L) (j : Int) = some (.int (b : Int)) := by
  refine atI_nat ?_
  rw [iv, List.getElem?_map, h]
  rfl
theorem iv_app (L : List Nat) (n : Nat) : iv (L ++ [n]) = iv L ++ [V.int (n : Int)] := by
  unfold iv
  rw [List.map_append]
  rfl
theorem same_upd {H H' : Hp} {p : Addr} {o : HO} (h : Same H H') (np : H p = none) : Same H (upd H' p o) := fun b u q => by
  rw [upd_ne (ne_of_none q np)]
  exact h b u q
theorem iteYes {c A B : Prop} [Decidable c] (h : c) (a : A) : if decide c = true then A else B := by
  rw [decide_eq_true h]
  exact iteT a
theorem bl_true {c : Prop} [Decidable c] {Q : VK} {H : Hp} (h : c) (q : Q (.bl true) H) : Q (.bl (decide c)) H := by
  rw [decide_eq_true h]
  exact q
theorem int_eq {a b : Int} : V.int a = V.int b ↔ a = b := ⟨fun h => V.int.inj h, fun h => by rw [h]⟩
/-! ### lists of ints compared -/
abbrev iz (L : List Int) : List V := L.map V.int
theorem iv_iz (L : List Nat) : iv L = iz (L.map fun n : Nat => (n : Int)) := by
  unfold iv iz
  rw [List.map_map]
  rfl
abbrev dz (L : List Int) : PyData := .list (L.map PyData.int)
theorem dpAll_iz {K : PySem.W.Frag} {H : Hp} : ∀ L : List Int, DpAll K H (iz L) (L.map PyData.int)
  | [] => .nil
  | n :: r => .cons (.int n) (dpAll_iz r)
theorem dp_iz {K : PySem.W.Frag} {H : Hp} {p : Addr} {L : List Int} (h : H p = some (.lst (iz L))) : Dp K H (.ref p) (dz L) := .lst (SqL.of h) (dpAll_iz L)
theorem layAll_iz : ∀ L : List Int, PyData.canLayAll0 (L.map PyData.int) = true
  | [] => rfl
  | n :: r => by
    show (PyData.canLay0 (.int n) && PyData.canLayAll0 (r.map PyData.int)) = true
    rw [layAll_iz r]
    rfl
theorem depthAll_iz : ∀ L : List Int, PyData.depthAll (L.map PyData.int) = 0
  | [] => rfl
  | n :: r => by
    show max (PyData.depth (.int n)) (PyData.depthAll (r.map PyData.int)) = 0
    rw [depthAll_iz r]
    rfl
theorem shaped_iz (L : List Int) : SeqAt.shaped (dz L) = true := by
  unfold SeqAt.shaped
  have h1 : PyData.canLay0 (dz L) = true := by
    show PyData.canLay0 (.list (L.map PyData.int)) = true
    unfold PyData.canLay0
    exact layAll_iz L
  have h2 : PyData.depth (dz L) = 1 := by
    show PyData.depth (.list (L.map PyData.int)) = 1
    unfold PyData.depth
    rw [depthAll_iz]
  rw [h1, h2]
  rfl
theorem eqv_same (L : List Int) : PyData.eqv (dz L) (dz L) = true := by
  have h1 : PyData.canLay0 (dz L) = true := by
    show PyData.canLay0 (.list (L.map PyData.int)) = true
    unfold PyData.canLay0
    exact layAll_iz L
  exact SeqAt.eqv_refl _ h1
theorem eqv_empty (L : List Int) : PyData.eqv (dz L) (dz []) = decide (L = []) := by
  cases L with
  | nil => rfl
  | cons n r => rfl
theorem iteNb {x : Bool} {A B : Prop} (h : x = true) (b : B) : if (!x) = true then A else B := by
  rw [h]
  exact iteF b
theorem bl_is {x : Bool} {Q : VK} {H : Hp} (h : x = true) (q : Q (.bl true) H) : Q (.bl x) H := by
  rw [h]
  exact q
def Kept (a : Addr) (H H' : Hp) : Prop := ∀ b o, H b = some o → b ≠ a → H' b = some o
theorem Kept.trans {a : Addr} {H H1 H2 : Hp} (h : Kept a H H1) (h2 : Kept a H1 H2) : Kept a H H2 := fun b o e n => h2 b o (h b o e n) n
theorem Same.kept {a : Addr} {H H' : Hp} (h : Same H H') : Kept a H H' := fun b o e _ => h b o e
theorem paired_get {α β : Type} {F : α → β → Prop} : ∀ {l1 : List α} {l2 : List β} {i : Nat} {a : α}, Paired F l1 l2 → l1[i]? = some a → ∃ b, l2[i]? = some b ∧ F a b
  | _, _, _, _, .nil, h => by simp at h
  | _, _, 0, _, .cons r _, h => ⟨_, rfl, by cases h; exact r⟩
  | _, _, i + 1, _, .cons _ t, h => by
    obtain ⟨b, h1, h2⟩ := paired_get (i := i) t (by simpa using h)
    exact ⟨b, by simpa using h1, h2⟩
theorem paired_mono {α β : Type} {F G : α → β → Prop} (h : ∀ a b, F a b → G a b) : ∀ {l1 : List α} {l2 : List β}, Paired F l1 l2 → Paired G l1 l2
  | _, _, .nil => .nil
  | _, _, .cons a r => .cons (h _ _ a) (paired_mono h r)
theorem paired_len {α β : Type} {F : α → β → Prop} : ∀ {l1 : List α} {l2 : List β}, Paired F l1 l2 → l1.length = l2.length
  | _, _, .nil => rfl
  | _, _, .cons _ r => congrArg Nat.succ (paired_len r)
section
variable {P : Program} {w : World} {K : PySem.W.Frag} {mg : Str → Option Value} {base : Heap} {C : Addr}
def spis_integer (_ : PySem.W.Frag) (_ : Addr) : Sp := fun vs H Q _ => ∃ n : Int, vs = [.int n] ∧ Q (.bl true) H
theorem okis_integer (D : Def K mg "is_integer" sis_integer ["value"]) (B : Bs mg) (Glb : Glo mg) (WK : WebK K mg C) :
    Good P w K mg base "is_integer" sis_integer ["value"] 1 (spis_integer K C) := by
  refine D.good fun f fd F => ?_
  refine F.ok scis_integer (fun vs H Q E h => ?_) (fun cdv A outer s H vs Q E hr h => ?_)
  · obtain ⟨n, rfl, q⟩ := h
    first | rfl | (rcases h with ⟨_, _, rfl, _⟩ | ⟨_, rfl, _⟩ <;> rfl)
  obtain ⟨n, rfl, q⟩ := h
  refine ⟨_, (pss_one (ps_ret (pe_and (pe_callB call_isi (by rfl) B.isinstance (by decide +kernel) (pa_cons (pv 0) (pa_cons (pe_bltn (v := .ty "int") (by rfl) B.int (by decide +kernel) rfl) pa_nil))) (pe_one (pe_not (pe_callB call_isi (by rfl) B.isinstance (by decide +kernel) (pa_cons (pv 0) (pa_cons (pe_bltn (v := .ty "bool") (by rfl) B.bool (by decide +kernel) rfl) pa_nil)))))))), ?_⟩
  exact ⟨_, rfl, _, _, _, _, true, rfl, .ty _, .base (.int n), kit_ty (by decide +kernel), _, rfl, iteT ⟨_, rfl, _, _, _, _, false, rfl, .ty _, .base (.int n), kit_ty (by decide +kernel), _, rfl, q⟩⟩
def spis_between (_ : PySem.W.Frag) (_ : Addr) : Sp := fun vs H Q _ => ∃ n a b : Int, vs = [.int n, .int a, .int b] ∧ a ≤ n ∧ n ≤ b ∧ Q (.bl true) H
theorem okis_between (D : Def K mg "is_between" sis_between ["value", "least", "most"]) (B : Bs mg) (Glb : Glo mg) (WK : WebK K mg C)
    (his_integer : Good P w K mg base "is_integer" sis_integer ["value"] 1 (spis_integer K C)) :
    Good P w K mg base "is_between" sis_between ["value", "least", "most"] 2 (spis_between K C) := by
  refine D.good fun f fd F => ?_
  obtain ⟨fis_integer, dis_integer, Ois_integer, mis_integer, kis_integer, bis_integer, Fis_integer⟩ := his_integer
  refine F.ok scis_between (fun vs H Q E h => ?_) (fun cdv A outer s H vs Q E hr h => ?_)
  · obtain ⟨n, a, b, rfl, h1, h2, q⟩ := h
    first | rfl | (rcases h with ⟨_, _, rfl, _⟩ | ⟨_, rfl, _⟩ <;> rfl)
  obtain ⟨n, a, b, rfl, h1, h2, q⟩ := h
  refine ⟨_, (pss_one (ps_ret (pe_and (pe_call Ois_integer hr rfl mis_integer kis_integer bis_integer .nil pass0 (pa_cons (pv 0) pa_nil)) (pe_one (pe_chain op_le op_le (pv 1) (pv 0) (pv 2)))))), ?_⟩
  exact ⟨_, rfl, n, rfl, _, rfl, iteT ⟨_, rfl, _, rfl, _, _, rfl, rfl, _, rfl, iteYes h1 ⟨_, rfl, _, _, rfl, rfl, bl_true h2 q⟩⟩⟩
def spis_listed (_ : PySem.W.Frag) (_ : Addr) : Sp := fun vs H Q _ => ∃ a, vs = [.ref a] ∧ ((∃ xs, H a = some (.lst xs)) ∨ (∃ xs, H a = some (.tup xs))) ∧ ∀ H', Same H H' → Q (.bl true) H'
theorem okis_listed (D : Def K mg "is_listed" sis_listed ["value"]) (B : Bs mg) (Glb : Glo mg) (WK : WebK K mg C) :
    Good P w K mg base "is_listed" sis_listed ["value"] 1 (spis_listed K C) := by
  refine D.good fun f fd F => ?_
  refine F.ok scis_listed (fun vs H Q E h => ?_) (fun cdv A outer s H vs Q E hr h => ?_)
  · obtain ⟨a, rfl, ha, q⟩ := h
    first | rfl | (rcases h with ⟨_, _, rfl, _⟩ | ⟨_, rfl, _⟩ <;> rfl)
  obtain ⟨a, rfl, ha, q⟩ := h
  refine ⟨_, (pss_one (ps_ret (pe_callB call_isiT (by rfl) B.isinstance (by decide +kernel) (pa_cons (pv 0) (pa_cons (pe_tup (pa_cons (pe_bltn (v := .ty "list") (by rfl) B.list (by decide +kernel) rfl) (pa_cons (pe_bltn (v := .ty "tuple") (by rfl) B.tuple (by decide +kernel) rfl) pa_nil))) pa_nil))))), ?_⟩
  refine ⟨_, rfl, (by show 2 ≤ sizeLine; decide), fun tp ntp => ?_⟩
  rcases ha with ⟨xs, ha⟩ | ⟨xs, ha⟩
  · exact ⟨_, tp, [.ty "list", .ty "tuple"], .type "list", [.type "list", .type "tuple"], true, rfl, upd_same, .cons (.ty _) (.cons (.ty _) .nil), .base (.lst (same_new ntp _ _ _ ha)), kitAny_cons (b := true) (kit_ty (by decide +kernel)) (fun h => by cases h) (fun _ => rfl), q _ (same_new ntp _)⟩
  · exact ⟨_, tp, [.ty "list", .ty "tuple"], .type "tuple", [.type "list", .type "tuple"], true, rfl, upd_same, .cons (.ty _) (.cons (.ty _) .nil), .base (.tup (same_new ntp _ _ _ ha)), kitAny_cons (b := false) (kit_ty (by decide +kernel)) (fun _ => kitAny_cons (b := true) (kit_ty (by decide +kernel)) (fun h => by cases h) (fun _ => rfl)) (fun h => by cases h), q _ (same_new ntp _)⟩
end
end My
namespace My
open PySem L2 PyProof.Rows
theorem of_a : Str.ofString "a" = ⟨#[97]⟩ := by decide +kernel
theorem of_z : Str.ofString "z" = ⟨#[122]⟩ := by decide +kernel
theorem not_lt_one {a b : Nat} (h : b ≤ a) : ¬ ((⟨#[a]⟩ : Str).cps.toList < (⟨#[b]⟩ : Str).cps.toList) := by
  show ¬ ([a] < [b])
  rw [List.cons_lt_cons_iff]
  rintro (z | ⟨_, z⟩)
  · omega
  · exact absurd z (List.lt_irrefl [])
/-- a text -/
structure OkT (x : Str) : Prop where
  len : x.length ≤ 400
  let_ : ∀ c ∈ x.cps.toList, 97 ≤ c ∧ c ≤ 122
theorem line400 {n : Nat} (h : n ≤ 400) : n ≤ sizeLine := Nat.le_trans h (by decide)
theorem ref_at {ts : List Addr} {i : Nat} {v : V} (h : (ts.map V.ref)[i]? = some v) : ∃ p, ts[i]? = some p ∧ v = .ref p := by
  rw [List.getElem?_map] at h
  cases e : ts[i]? with
  | none => rw [e] at h; cases h
  | some p => rw [e] at h; exact ⟨p, rfl, (Option.some.inj h).symm⟩
theorem str_at {xs : List Str} {i : Nat} {v : V} (h : (xs.map V.str)[i]? = some v) : ∃ x, xs[i]? = some x ∧ v = .str x := by
  rw [List.getElem?_map] at h
  cases e : xs[i]? with
  | none => rw [e] at h; cases h
  | some p => rw [e] at h; exact ⟨p, rfl, (Option.some.inj h).symm⟩
theorem take_snoc {α : Type} {L : List α} {i : Nat} {e : α} (h : L[i]? = some e) : L.take (i + 1) = L.take i ++ [e] := by rw [List.take_succ, h]; rfl
theorem T_len (l : List Nat) : (⟨l.toArray⟩ : Str).length = l.length := by simp [Str.length]
theorem T_line {l : List Nat} (h : l.length ≤ 1000) : (⟨l.toArray⟩ : Str).length ≤ sizeLine := by
  rw [T_len]
  exact Nat.le_of_lt (small1000 h)
theorem T_app (a b : List Nat) : (⟨a.toArray⟩ : Str) ++ (⟨b.toArray⟩ : Str) = ⟨(a ++ b).toArray⟩ := by
  exact congrArg Str.mk (show a.toArray ++ b.toArray = (a ++ b).toArray by simp)
theorem T_inj {a b : List Nat} : T a = T b ↔ a = b := by
  constructor
  · intro h
    have h2 : (⟨a.toArray⟩ : Str) = ⟨b.toArray⟩ := V.str.inj h
    have h3 : a.toArray = b.toArray := Str.mk.inj h2
    simpa using congrArg Array.toList h3
  · rintro rfl
    rfl
theorem T_nil : Str.ofString "" = ⟨([] : List Nat).toArray⟩ := by decide +kernel
theorem at_nat {l : List Nat} {i c : Nat} (h : l[i]? = some c) : atI (⟨l.toArray⟩ : Str).cps.toList (i : Int) = some c := by
  show atI l.toArray.toList (i : Int) = some c
  exact atI_nat (by simpa using h)
theorem cut_from {l : List Nat} {p : Nat} : cutS ⟨l.toArray⟩ (some (p : Int)) none = ⟨(l.drop p).toArray⟩ := by
  unfold cutS
  rw [T_len, HT.sIx_nat, HT.sIx_none]
  refine congrArg Str.mk ?_
  show ((l.toArray.toList.drop (min p l.length)).take (l.length - min p l.length)).toArray = _
  rw [List.toList_toArray]
  congr 1
  rw [List.take_of_length_le (by rw [List.length_drop]; omega)]
  rcases Nat.le_total p l.length with h | h
  · rw [Nat.min_eq_left h]
  · rw [Nat.min_eq_right h, List.drop_eq_nil_of_le h, List.drop_eq_nil_of_le (Nat.le_refl _)]
theorem cut_to {l : List Nat} {p : Nat} : cutS ⟨l.toArray⟩ none (some (p : Int)) = ⟨(l.take p).toArray⟩ := by
  unfold cutS
  rw [T_len, HT.sIx_nat, HT.sIx_none]
  refine congrArg Str.mk ?_
  show ((l.toArray.toList.drop 0).take (min p l.length - 0)).toArray = _
  rw [List.toList_toArray, List.drop_zero, Nat.sub_zero]
  congr 1
  rcases Nat.le_total p l.length with h | h
  · rw [Nat.min_eq_left h]
  · rw [Nat.min_eq_right h, List.take_of_length_le h, List.take_of_length_le (Nat.le_refl _)]
abbrev tS (l : List Nat) : Str := ⟨l.toArray⟩
theorem cutS_mid (l : List Nat) (p s : Nat) : cutS (tS l) (some (p : Int)) (some ((p : Int) + (s : Int))) = tS ((l.drop p).take s) := by
  rw [show ((p : Int) + (s : Int)) = ((p + s : Nat) : Int) by omega]
  unfold cutS
  rw [T_len, HT.sIx_nat, HT.sIx_nat]
  refine congrArg Str.mk ?_
  show ((l.toArray.toList.drop (min p l.length)).take (min (p + s) l.length - min p l.length)).toArray = _
  rw [List.toList_toArray]
  congr 1
  rcases Nat.le_total p l.length with h | h
  · rw [Nat.min_eq_left h]
    rcases Nat.le_total (p + s) l.length with k | k
    · rw [Nat.min_eq_left k, show p + s - p = s by omega]
    · rw [Nat.min_eq_right k, List.take_of_length_le (by rw [List.length_drop]; exact Nat.le_refl _), List.take_of_length_le (by rw [List.length_drop]; omega)]
  · rw [Nat.min_eq_right h, List.drop_eq_nil_of_le h, List.drop_eq_nil_of_le (Nat.le_refl _)]
    simp
theorem T_small {l : List Nat} (h : l.length ≤ 1000) : l.length ≤ sizeLine := Nat.le_trans h (by decide)
theorem tS_inj {a b : List Nat} (h : tS a = tS b) : a = b := by
  have := congrArg (fun v : Str => v.cps.toList) h
  simpa using this
theorem tS_lt {a b : List Nat} : sLt (tS a) (tS b) ↔ a < b := by
  unfold sLt
  simp
theorem cut_last (l : List Nat) : cutS (tS l) none (some (-1)) = tS l.dropLast := by
  unfold cutS
  rw [T_len, HT.sIx_none]
  refine congrArg Str.mk ?_
  have e : HT.sIx l.length l.length (some (-1)) = l.length - 1 := by
    show (if (-1 : Int) < 0 then ((-1 : Int) + (l.length : Int)).toNat else min (-1 : Int).toNat l.length) = _
    rw [if_pos (by decide)]
    omega
  rw [e]
  show ((l.toArray.toList.drop 0).take (l.length - 1 - 0)).toArray = _
  rw [List.toList_toArray, List.drop_zero, Nat.sub_zero, List.dropLast_eq_take]
section
variable {P : Program} {w : World} {K : PySem.W.Frag} {mg : Str → Option Value} {base : Heap} {C : Addr}
def spis_letter (_ : PySem.W.Frag) (_ : Addr) : Sp := fun vs H Q _ => ∃ c : Nat, vs = [.str ⟨#[c]⟩] ∧ 97 ≤ c ∧ c ≤ 122 ∧ Q (.bl true) H
theorem okis_letter (D : Def K mg "is_letter" sis_letter ["sign"]) (B : Bs mg) (Glb : Glo mg) (WK : WebK K mg C) :
    Good P w K mg base "is_letter" sis_letter ["sign"] 1 (spis_letter K C) := by
  refine D.good fun f fd F => ?_
  refine F.ok scis_letter (fun vs H Q E h => ?_) (fun cdv A outer s H vs Q E hr h => ?_)
  · obtain ⟨c, rfl, h1, h2, q⟩ := h
    first | rfl | (rcases h with ⟨_, _, rfl, _⟩ | ⟨_, rfl, _⟩ <;> rfl)
  obtain ⟨c, rfl, h1, h2, q⟩ := h
  refine ⟨_, (pss_one (ps_ret (pe_chain op_le_str op_le_str pe_str (pv 0) pe_str))), ?_⟩
  have k1 : ¬ ((⟨#[c]⟩ : Str).cps.toList < (Str.ofString "a").cps.toList) := by
    rw [of_a]
    exact not_lt_one h1
  have k2 : ¬ ((Str.ofString "z").cps.toList < (⟨#[c]⟩ : Str).cps.toList) := by
    rw [of_z]
    exact not_lt_one h2
  refine ⟨_, rfl, _, _, rfl, rfl, _, rfl, iteNot k1 ⟨_, _, rfl, rfl, ?_⟩⟩
  show Q (.bl (!decide _)) _
  rw [decide_eq_false k2]
  exact q
def spis_text (_ : PySem.W.Frag) (_ : Addr) : Sp := fun vs H Q _ => ∃ x, vs = [.str x] ∧ OkT x ∧ Q (.bl true) H
theorem okis_text (D : Def K mg "is_text" sis_text ["value"]) (B : Bs mg) (Glb : Glo mg) (WK : WebK K mg C)
    (his_letter : Good P w K mg base "is_letter" sis_letter ["sign"] 1 (spis_letter K C)) :
    Good P w K mg base "is_text" sis_text ["value"] 2 (spis_text K C) := by
  refine D.good fun f fd F => ?_
  obtain ⟨fis_letter, dis_letter, Ois_letter, mis_letter, kis_letter, bis_letter, Fis_letter⟩ := his_letter
  refine F.ok scis_text (fun vs H Q E h => ?_) (fun cdv A outer s H vs Q E hr h => ?_)
  · obtain ⟨x, rfl, hl, q⟩ := h
    first | rfl | (rcases h with ⟨_, _, rfl, _⟩ | ⟨_, rfl, _⟩ <;> rfl)
  obtain ⟨x, rfl, hl, q⟩ := h
  refine ⟨_, (pss_cons (ps_if (PW.pt (pw_or (pt_not (pt_val (pe_callB call_isi (by rfl) B.isinstance (by decide +kernel) (pa_cons (pv 0) (pa_cons (pe_bltn (v := .ty "str") (by rfl) B.str (by decide +kernel) rfl) pa_nil))))) (pw_or1 (pt_cmpR op_gt (pe_callB call_len_str (by rfl) B.len (by decide +kernel) (pa_cons (pv 0) pa_nil)) (pe_globI Glb.MOST_LETTERS) (nomark _)))))
    (pss_one (ps_ret pe_bl)) pss_nil)
  (pss_one (ps_ret (pe_drop (pe_callB (cr_all rfl) (by rfl) B.all (by decide +kernel) (pa_cons (pe_lc (own := [("sign", 1)]) (g := gName 1) (by rfl) scis_text.nd (pi_str (pv 0)) (blkOk_by (own := [("sign", 1)]) (N := ["value", "sign"]) (sc := defScope sis_text) (by decide +kernel)) (fun _ _ _ _ _ => (pg_name (i := 1) scis_text.nd rfl (by first | exact Or.inl rfl | exact Or.inr rfl))) (fun _ _ _ _ _ => pts_nil) (fun _ _ _ _ _ => (pe_call Ois_letter hr rfl mis_letter kis_letter bis_letter .nil pass0 (pa_cons (pv 1) pa_nil)))) pa_nil)))))), ?_⟩
  have hlen := hl.len
  refine ⟨_, rfl, _, _, _, _, true, rfl, .ty _, .base (.str _), kit_ty (by decide +kernel), _, rfl, iteF ⟨_, rfl, _, rfl, line400 hlen, _, _, rfl, rfl, _, rfl, iteNo (by omega) ?_⟩⟩
  refine ⟨_, rfl, _, rfl, fun D nD => lc_it walk_str (fun i H' => H' = upd H D (.lst ((List.replicate i true).map V.bl))) rfl (fun _ _ _ _ => trivial) ?_ ?_⟩
  · rintro i y H1 H2 hi rfl ⟨rfl, c, hc, rfl⟩
    have hm := hl.let_ c (by
      have := Array.mem_of_getElem? hc
      simpa using this)
    refine ⟨rfl, _, rfl, c, rfl, hm.1, hm.2, _, upd_same, ?_, ?_⟩
    · rw [List.length_map, List.length_replicate]
      have hi2 : i < x.length := hi
      exact Nat.lt_of_lt_of_le (by omega : i < 1000) (by decide)
    · rw [upd_upd, List.replicate_succ', List.map_append]
      rfl
  · rintro H1 rfl
    refine ⟨D, _, rfl, SqL.of upd_same, D, _, H, rfl, nD, bl_is1 ?_ q⟩
    rw [List.all_eq_true]
    intro b hb
    rw [List.eq_of_mem_replicate hb]
    rfl
end
end My
namespace My
open PySem L2 PyProof.Rows
def PotOk (x y : Int) : Prop := 0 ≤ x ∧ 0 ≤ y ∧ y < 2147483590
def PotAt (H : Hp) (a : Addr) : Prop := ∃ x y : Int, H a = some (.lst [.int x, .int y]) ∧ PotOk x y
theorem PotAt.new {H : Hp} {a p : Addr} {o : HO} (h : PotAt H a) (np : H p = none) : PotAt (upd H p o) a := by
  obtain ⟨x, y, e, h⟩ := h
  exact ⟨x, y, by rw [upd_ne (ne_of_none e np)]; exact e, h⟩
theorem PotAt.put {H : Hp} {a p : Addr} {o : HO} (h : PotAt H a) (np : p ≠ a) : PotAt (upd H p o) a := by
  obtain ⟨x, y, e, h⟩ := h
  exact ⟨x, y, by rw [upd_ne np.symm]; exact e, h⟩
theorem PotAt.same {H H' : Hp} {a : Addr} (h : PotAt H a) (s : Same H H') : PotAt H' a := by
  obtain ⟨x, y, e, h⟩ := h
  exact ⟨x, y, s _ _ e, h⟩
theorem PotAt.ne {H : Hp} {a p : Addr} (h : PotAt H a) (np : H p = none) : p ≠ a := by
  obtain ⟨x, y, e, h⟩ := h
  exact (ne_of_none e np).symm
theorem PotAt.ntup {H : Hp} {a p : Addr} {xs : List V} (h : PotAt H a) (hp : H p = some (.tup xs)) : p ≠ a := by
  obtain ⟨x, y, e, h⟩ := h
  exact ne_of hp e (by intro q; cases q)
theorem Kept.new {H H' : Hp} {a p : Addr} {o : HO} (h : Kept a H H') (np : H' p = none) : Kept a H (upd H' p o) := h.trans (Same.kept (same_new np o))
theorem Kept.put {H H' : Hp} {a p : Addr} {o : HO} (h : Kept a H H') (np : H p = none) : Kept a H (upd H' p o) := fun b u e n => by
  rw [upd_ne (ne_of_none e np)]
  exact h b u e n
structure OkL (x : Str) : Prop where
  ok : OkT x
  few : ∀ c ∈ x.cps.toList, c ≤ 99
theorem okT_nil : OkL (Str.ofString "") := ⟨⟨by decide +kernel, by decide +kernel⟩, by decide +kernel⟩
theorem str_app_len (x y : Str) : (x ++ y : Str).length = x.length + y.length := Array.size_append
theorem okT_app {x y : Str} (h : OkL x) (k : OkL y) (hl : x.length + y.length ≤ 400) : OkL (x ++ y) := by
  have mem : ∀ c ∈ (x ++ y : Str).cps.toList, c ∈ x.cps.toList ∨ c ∈ y.cps.toList := fun c hc => by
    have : c ∈ x.cps.toList ++ y.cps.toList := by
      rw [← Array.toList_append]
      exact hc
    exact List.mem_append.mp this
  refine ⟨⟨by rw [str_app_len]; exact hl, fun c hc => ?_⟩, fun c hc => ?_⟩
  · exact (mem c hc).elim (h.ok.let_ c) (k.ok.let_ c)
  · exact (mem c hc).elim (h.few c) (k.few c)
theorem okT_one {v : V} (h : v ∈ [V.str (Str.ofString "a"), V.str (Str.ofString "b"), V.str (Str.ofString "a"), V.str (Str.ofString "c")]) : ∃ x, v = .str x ∧ OkL x ∧ x.length = 1 := by
  simp only [List.mem_cons, List.not_mem_nil, or_false] at h
  rcases h with rfl | rfl | rfl | rfl
  · exact ⟨_, rfl, ⟨⟨by decide +kernel, by decide +kernel⟩, by decide +kernel⟩, by decide +kernel⟩
  · exact ⟨_, rfl, ⟨⟨by decide +kernel, by decide +kernel⟩, by decide +kernel⟩, by decide +kernel⟩
  · exact ⟨_, rfl, ⟨⟨by decide +kernel, by decide +kernel⟩, by decide +kernel⟩, by decide +kernel⟩
  · exact ⟨_, rfl, ⟨⟨by decide +kernel, by decide +kernel⟩, by decide +kernel⟩, by decide +kernel⟩
section
variable {P : Program} {w : World} {K : PySem.W.Frag} {mg : Str → Option Value} {base : Heap} {C : Addr}
def sp_law_pot (K : PySem.W.Frag) (_ : Addr) : Sp := fun vs H Q _ => ∃ a, ∃ ns : List Int, vs = [.ref a, .int 0] ∧ SqL K H a (ns.map V.int) ∧ ∀ p H', PotAt H' p → Same H H' → H p = none → Q (.ref p) H'
theorem ok_law_pot (D : Def K mg "_law_pot" s_law_pot ["_law_script", "_law_k"]) (B : Bs mg) (Glb : Glo mg) (WK : WebK K mg C) :
    Good P w K mg base "_law_pot" s_law_pot ["_law_script", "_law_k"] 1 (sp_law_pot K C) := by
  refine D.good fun f fd F => ?_
  refine F.ok sc_law_pot (fun vs H Q E h => ?_) (fun cdv A outer s H vs Q E hr h => ?_)
  · obtain ⟨a, ns, rfl, hS, q⟩ := h
    first | rfl | (rcases h with ⟨_, _, rfl, _⟩ | ⟨_, rfl, _⟩ <;> rfl)
  obtain ⟨a, ns, rfl, hS, q⟩ := h
  refine ⟨_, (pss_cons (ps_set (i := 2) sc_law_pot.nd rfl (by first | exact Or.inl rfl | exact Or.inr rfl) (pe_ifExp (pt_cmpR op_lt (pv 1) (pe_callB call_len_seq (by rfl) B.len (by decide +kernel) (pa_cons (pv 0) pa_nil)) (nomark _)) (pe_callB call_abs (by rfl) B.abs (by decide +kernel) (pa_cons (pe_ix ix_list (pv 0) (pv 1) (fun _ _ => rfl)) pa_nil)) (pe_op op_add (pe_op op_mul pe_int (pv 1)) pe_int)))
  (pss_one (ps_ret (pe_lst (pa_cons (pe_callB (call_max2 rfl) (by rfl) B.max (by decide +kernel) (pa_cons pe_int (pa_cons (pe_op op_sub (pv 2) (pe_op op_pow pe_int pe_int)) pa_nil))) (pa_cons (pe_op op_add (pe_op op_mod (pe_callTy call_int1 (by rfl) B.int (by decide +kernel) (pa_cons (pe_op op_add (pe_op op_add (pe_op op_mul (pe_op op_mod (pe_callTy call_int1 (by rfl) B.int (by decide +kernel) (pa_cons (pv 2) pa_nil)) pe_int) pe_int) (pe_op op_mul pe_int (pv 1))) pe_int) pa_nil)) pe_int) pe_int) pa_nil)))))), ?_⟩
  refine ⟨_, rfl, _, rfl, _, _, rfl, .inl hS, _, _, rfl, rfl, _, rfl, ?_⟩
  refine ite2 (fun c1 => ?pos) (fun c1 => ?neg)
  case' pos =>
    obtain ⟨n, rest, rfl⟩ : ∃ n rest, ns = n :: rest := by
      cases ns with
      | nil => exact absurd (of_decide_eq_true c1) (by decide)
      | cons n rest => exact ⟨n, rest, rfl⟩
    refine ⟨_, rfl, _, rfl, _, _, _, .int n, rfl, rfl, hS, atI_nat (j := 0) rfl, _, rfl, ?_⟩
    have hz0 : (0 : Int) ≤ (if n < 0 then -n else n) := by split <;> omega
  case' neg =>
    refine ⟨_, rfl, _, _, rfl, rfl, .inl ⟨by decide, by decide⟩, _, _, rfl, rfl, ?_⟩
    have hz0 : (0 : Int) ≤ (1087 * 0 + 839) := by decide
  all_goals
    refine ⟨_, rfl, _, _, rfl, rfl, ⟨by decide, by decide, by decide⟩, _, _, rfl, rfl, _, _, rfl, _, rfl, .inl ⟨_, rfl, _, _, rfl, rfl, (by show (0 : Int) < 2147483489; decide), _, _, rfl, rfl, .inl ⟨?_, ?_⟩, _, rfl, _, _, rfl, rfl, .inl ⟨by decide, by decide⟩, _, _, rfl, rfl, _, _, rfl, rfl, .inl ⟨_, rfl, _, _, rfl, rfl, (by show (0 : Int) < 2147483543; decide), _, _, rfl, rfl, (by show 2 ≤ sizeLine; decide), fun p np => q p _ ⟨_, _, upd_same, ?_, ?_, ?_⟩ (same_new np _) np⟩⟩⟩
    · omega
    · omega
    · split <;> omega
    · omega
    · omega
def sp_law_draw (_ : PySem.W.Frag) (_ : Addr) : Sp := fun vs H Q _ => ∃ a n, vs = [.ref a, .int ((n : Nat) : Int)] ∧ PotAt H a ∧ 0 < n ∧ n ≤ 1000 ∧ ∀ (d : Nat) H', d < n → Kept a H H' → PotAt H' a → Q (.int (d : Int)) H'
theorem ok_law_draw (D : Def K mg "_law_draw" s_law_draw ["_law_pot_here", "_law_size"]) (B : Bs mg) (Glb : Glo mg) (WK : WebK K mg C) :
    Good P w K mg base "_law_draw" s_law_draw ["_law_pot_here", "_law_size"] 1 (sp_law_draw K C) := by
  refine D.good fun f fd F => ?_
  refine F.ok sc_law_draw (fun vs H Q E h => ?_) (fun cdv A outer s H vs Q E hr h => ?_)
  · obtain ⟨a, n, rfl, ⟨x, y, ha, hx, hy, hy2⟩, hn, hn2, q⟩ := h
    first | rfl | (rcases h with ⟨_, _, rfl, _⟩ | ⟨_, rfl, _⟩ <;> rfl)
  obtain ⟨a, n, rfl, ⟨x, y, ha, hx, hy, hy2⟩, hn, hn2, q⟩ := h
  refine ⟨_, (pss_cons (ps_if (pt_cmpR op_gt (pe_ix ix_list (pv 0) pe_int (fun _ _ => rfl)) pe_int (nomark _))
    (pss_cons (ps_asg (pe_callB call_divmod (by rfl) B.divmod (by decide +kernel) (pa_cons (pe_ix ix_list (pv 0) pe_int (fun _ _ => rfl)) (pa_cons (pv 1) pa_nil))) (pg_tup rfl (pgs_cons (pg_sub (pv 0) pe_int set_list) (pgs_cons (pg_name (i := 2) sc_law_draw.nd rfl (by first | exact Or.inl rfl | exact Or.inr rfl)) pgs_nil))))
  (pss_one (ps_ret (pv 2)))) pss_nil)
  (pss_cons (ps_asg (pe_op op_mod (pe_callTy call_int1 (by rfl) B.int (by decide +kernel) (pa_cons (pe_op op_add (pe_op op_mul (pe_ix ix_list (pv 0) pe_int (fun _ _ => rfl)) pe_int) pe_int) pa_nil)) pe_int) (pg_sub (pv 0) pe_int set_list))
  (pss_one (ps_ret (pe_op op_mod (pe_callTy call_int1 (by rfl) B.int (by decide +kernel) (pa_cons (pe_op op_fdiv (pe_op op_mod (pe_callTy call_int1 (by rfl) B.int (by decide +kernel) (pa_cons (pe_op op_mul (pe_ix ix_list (pv 0) pe_int (fun _ _ => rfl)) (pe_ix ix_list (pv 0) pe_int (fun _ _ => rfl))) pa_nil)) pe_int) pe_int) pa_nil)) (pv 1)))))), ?_⟩
  refine ⟨_, rfl, _, _, _, .int x, rfl, rfl, SqL.of ha, rfl, _, _, rfl, rfl, _, rfl, ?_⟩
  refine ite2 (fun c1 => ?_) (fun c1 => ?_)
  · have hpos : (0 : Int) < x := of_decide_eq_true c1
    refine ⟨_, rfl, _, _, _, .int x, rfl, rfl, SqL.of ha, rfl, _, rfl, _, _, rfl, ⟨by omega, by omega⟩, fun p np => ?_⟩
    have hpa : a ≠ p := ne_of_none ha np
    have ha' : (upd H p (.tup [.int (x / (n : Int)), .int (x % (n : Int))])) a = some (.lst [.int x, .int y]) := by
      rw [upd_ne hpa]
      exact ha
    have ed : (((x % (n : Int)).toNat : Nat) : Int) = x % (n : Int) := Int.toNat_of_nonneg (Int.emod_nonneg _ (by omega))
    have el := Int.emod_lt_of_pos x (show (0 : Int) < (n : Int) by omega)
    refine ⟨_, _, rfl, SqT.of upd_same, rfl, _, _, rfl, _, rfl, _, _, _, 0, rfl, rfl, ha', rfl, _, _, rfl, rfl, ?_⟩
    refine ⟨_, rfl, ?_⟩
    have := q (x % (n : Int)).toNat (upd (upd H p (.tup [.int (x / (n : Int)), .int (x % (n : Int))])) a (.lst [.int (x / (n : Int)), .int y])) (by omega) (fun b o e nb => by rw [upd_ne nb, upd_ne (ne_of_none e np)]; exact e)
      ⟨_, _, upd_same, Int.ediv_nonneg hx (by omega), hy, hy2⟩
    rw [ed] at this
    exact this
  · refine ⟨_, rfl, _, _, _, .int y, rfl, rfl, SqL.of ha, rfl, _, _, rfl, rfl, .inl ⟨by omega, by omega⟩, _, _, rfl, rfl, .inl ⟨_, rfl, _, _, rfl, rfl, (by show (0 : Int) < 2147483543; decide), _, rfl, _, _, _, 1, rfl, rfl, ha, rfl, ?_⟩⟩
    have hz0 : (0 : Int) ≤ (y * 40879 + 31333) % 2147483543 := by omega
    have hz1 : (y * 40879 + 31333) % 2147483543 < (2147483543 : Int) := by omega
    refine ⟨_, rfl, _, _, _, .int ((y * 40879 + 31333) % 2147483543), rfl, rfl, SqL.of upd_same, rfl, _, rfl, _, _, _, .int ((y * 40879 + 31333) % 2147483543), rfl, rfl, SqL.of upd_same, rfl, _, _, rfl, rfl, .inl ⟨by omega, by omega⟩, .inl ⟨_, rfl, _, _, rfl, rfl, (by show (0 : Int) < 2147483489; decide), _, _, rfl, rfl, ⟨by decide, by decide⟩, .inl ⟨_, rfl, _, rfl, _, _, rfl, rfl, (by show (0 : Int) < (n : Int); omega), ?_⟩⟩⟩
    have fin : ∀ z : Int, 0 ≤ z → z < 2147483543 → Q (V.int (z * z % 2147483489 / 23 % (n : Int))) (upd H a (.lst [.int x, .int z])) := fun z hz0 hz1 => by
      have ed : (((z * z % 2147483489 / 23 % (n : Int)).toNat : Nat) : Int) = z * z % 2147483489 / 23 % (n : Int) := Int.toNat_of_nonneg (Int.emod_nonneg _ (by omega))
      have el := Int.emod_lt_of_pos (z * z % 2147483489 / 23) (show (0 : Int) < (n : Int) by omega)
      have := q (z * z % 2147483489 / 23 % (n : Int)).toNat (upd H a (.lst [.int x, .int z])) (by omega) (fun b o e nb => by rw [upd_ne nb]; exact e) ⟨_, _, upd_same, hx, hz0, by omega⟩
      rw [ed] at this
      exact this
    exact fin _ hz0 hz1
def sp_law_pick (K : PySem.W.Frag) (_ : Addr) : Sp := fun vs H Q _ => ∃ a l, ∃ xs : List V, vs = [.ref a, .ref l] ∧ H l = some (.lst xs) ∧ l ≠ a ∧ 0 < xs.length ∧ xs.length ≤ 1000 ∧ PotAt H a ∧ ∀ v H', v ∈ xs → Kept a H H' → PotAt H' a → Q v H'
theorem ok_law_pick (D : Def K mg "_law_pick" s_law_pick ["_law_pot_here", "_law_some"]) (B : Bs mg) (Glb : Glo mg) (WK : WebK K mg C)
    (h_law_draw : Good P w K mg base "_law_draw" s_law_draw ["_law_pot_here", "_law_size"] 1 (sp_law_draw K C)) :
    Good P w K mg base "_law_pick" s_law_pick ["_law_pot_here", "_law_some"] 2 (sp_law_pick K C) := by
  refine D.good fun f fd F => ?_
  obtain ⟨f_law_draw, d_law_draw, O_law_draw, m_law_draw, k_law_draw, b_law_draw, F_law_draw⟩ := h_law_draw
  refine F.ok sc_law_pick (fun vs H Q E h => ?_) (fun cdv A outer s H vs Q E hr h => ?_)
  · obtain ⟨a, l, xs, rfl, hl, hla, h0, hlen, hp, q⟩ := h
    first | rfl | (rcases h with ⟨_, _, rfl, _⟩ | ⟨_, rfl, _⟩ <;> rfl)
  obtain ⟨a, l, xs, rfl, hl, hla, h0, hlen, hp, q⟩ := h
  refine ⟨_, (pss_one (ps_ret (pe_ix ix_list (pv 1) (pe_call O_law_draw hr rfl m_law_draw k_law_draw b_law_draw .nil pass0 (pa_cons (pv 0) (pa_cons (pe_callB call_len_seq (by rfl) B.len (by decide +kernel) (pa_cons (pv 1) pa_nil)) pa_nil))) (fun _ _ => rfl)))), ?_⟩
  refine ⟨_, rfl, _, rfl, _, rfl, _, _, rfl, .inl (SqL.of hl), a, xs.length, rfl, hp, h0, hlen, fun d H' hd hk hp' => ?_⟩
  exact ⟨_, _, _, _, rfl, rfl, SqL.of (hk l _ hl hla), atI_nat (List.getElem?_eq_getElem hd), q _ H' (List.getElem_mem hd) hk hp'⟩
def sp_law_text (_ : PySem.W.Frag) (_ : Addr) : Sp := fun vs H Q _ => ∃ a m, vs = [.ref a, .int ((m : Nat) : Int)] ∧ PotAt H a ∧ m ≤ 10 ∧ ∀ x H', OkL x → x.length ≤ m → Kept a H H' → PotAt H' a → Q (.str x) H'
theorem ok_law_text (D : Def K mg "_law_text" s_law_text ["_law_pot_here", "_law_most"]) (B : Bs mg) (Glb : Glo mg) (WK : WebK K mg C)
    (h_law_draw : Good P w K mg base "_law_draw" s_law_draw ["_law_pot_here", "_law_size"] 1 (sp_law_draw K C))
    (h_law_pick : Good P w K mg base "_law_pick" s_law_pick ["_law_pot_here", "_law_some"] 2 (sp_law_pick K C)) :
    Good P w K mg base "_law_text" s_law_text ["_law_pot_here", "_law_most"] 3 (sp_law_text K C) := by
  refine D.good fun f fd F => ?_
  obtain ⟨f_law_draw, d_law_draw, O_law_draw, m_law_draw, k_law_draw, b_law_draw, F_law_draw⟩ := h_law_draw
  obtain ⟨f_law_pick, d_law_pick, O_law_pick, m_law_pick, k_law_pick, b_law_pick, F_law_pick⟩ := h_law_pick
  refine F.ok sc_law_text (fun vs H Q E h => ?_) (fun cdv A outer s H vs Q E hr h => ?_)
  · obtain ⟨a, m, rfl, hp, hm, q⟩ := h
    first | rfl | (rcases h with ⟨_, _, rfl, _⟩ | ⟨_, rfl, _⟩ <;> rfl)
  obtain ⟨a, m, rfl, hp, hm, q⟩ := h
  refine ⟨_, (pss_cons (ps_set (i := 2) sc_law_text.nd rfl (by first | exact Or.inl rfl | exact Or.inr rfl) pe_str)
  (pss_cons (ps_for PassesOwn.never rfl (pi_range1 (by rfl) B.range (pa_cons (pe_call O_law_draw (hr.mono (by decide)) rfl m_law_draw k_law_draw b_law_draw .nil pass0 (pa_cons (pv 0) (pa_cons (pe_op op_add (pv 1) pe_int) pa_nil))) pa_nil)) (pg_name (i := 3) sc_law_text.nd rfl (by first | exact Or.inl rfl | exact Or.inr rfl))
    (pss_one (ps_set (i := 2) sc_law_text.nd rfl (by first | exact Or.inl rfl | exact Or.inr rfl) (pe_op op_add_str (pv 2) (pe_call O_law_pick hr rfl m_law_pick k_law_pick b_law_pick .nil pass0 (pa_cons (pv 0) (pa_cons (pe_lst (pa_cons pe_str (pa_cons pe_str (pa_cons pe_str (pa_cons pe_str pa_nil))))) pa_nil)))))))
  (pss_one (ps_ret (pv 2))))), ?_⟩
  refine ⟨_, rfl, _, rfl, _, _, rfl, rfl, a, m + 1, rfl, hp, by omega, by omega, fun d H1 hd hk1 hp1 => ⟨_, rfl, by omega, by omega, ?_⟩⟩
  refine for_range (lo := 0) (n := d) (fun i σ H' => ∃ (v : Option V) (x : Str), σ = [some (.ref a), some (.int (m : Int)), some (.str x), v] ∧ x.length = i ∧ OkL x ∧ Kept a H H' ∧ PotAt H' a) ?_ ?_ ?_
  · exact ⟨none, _, rfl, by decide +kernel, okT_nil, hk1, hp1⟩
  · rintro i σ H2 hi ⟨v, x, rfl, hlen, hx, hk, hpp⟩
    refine ⟨_, rfl, _, rfl, (by show 4 ≤ sizeLine; decide), fun p np => ?_⟩
    have hpl : upd H2 p (.lst [V.str (Str.ofString "a"), V.str (Str.ofString "b"), V.str (Str.ofString "a"), V.str (Str.ofString "c")]) p = some (.lst [V.str (Str.ofString "a"), V.str (Str.ofString "b"), V.str (Str.ofString "a"), V.str (Str.ofString "c")]) := upd_same
    refine ⟨a, p, _, rfl, hpl, hpp.ne np, by simp, by simp, hpp.new np, fun y H3 hy hk3 hp3 => ?_⟩
    obtain ⟨z, rfl, hz, hz1⟩ := okT_one hy
    refine ⟨_, _, rfl, rfl, ?_, ?_⟩
    · rw [hlen, hz1]
      exact Nat.le_trans (by omega : i + 1 ≤ 400) (by decide)
    · exact ⟨_, x ++ z, rfl, by rw [str_app_len, hlen, hz1], okT_app hx hz (by omega), (hk.new np).trans hk3, hp3⟩
  · rintro σ H2 ⟨v, x, rfl, hlen, hx, hk, hpp⟩
    exact ⟨_, rfl, q x H2 hx (by omega) hk hpp⟩
end
end My
/-! sorted(xs) by data: what is told does not hang on the sequence -/
namespace My
open PySem PySem.W L2 PyProof.Rows
/-- how items are read as data that may be set in sequence: tuples, alike, no two of them equal -/
structure EncOk {α : Type} (enc : α → PyData) : Prop where
  al : ∀ a b, alike (enc a) (enc b) = true
  inj : ∀ a b, PyData.eqv (enc a) (enc b) = true → a = b
  tup : ∀ a, ∃ x r, enc a = .tuple (x :: r)
  deep : ∀ a, (enc a).depth ≤ 8
theorem toks_inj {x y : PyData} (h : alike x y = true) (e : keyToks x = keyToks y) : PyData.eqv x y = true := by
  cases c : PyData.eqv x y with
  | true => rfl
  | false =>
    have h2 := (toks_eqv x y h).2 c [] [.inl 0]
    rw [e, lex_pre] at h2
    have h3 : PyProof.Rows.lexLt itemOrd (keyToks y) (keyToks y) = false := lex_irrefl _
    rw [h3] at h2
    exact absurd h2 (by decide)
section
variable {α : Type} {enc : α → PyData}
def sortE (enc : α → PyData) (A : List α) : List α := A.mergeSort (dataLe false enc)
theorem sortE_perm (A : List α) : (sortE enc A).Perm A := List.mergeSort_perm _ _
theorem sortE_mem {A : List α} {x : α} : x ∈ sortE enc A ↔ x ∈ A := (sortE_perm A).mem_iff
theorem sortE_map (A : List α) : (A.map enc).mergeSort (dataLe false id) = (sortE enc A).map enc := (List.map_mergeSort (f := enc) (r := dataLe false enc) (s := dataLe false id) (l := A) (fun a _ b _ => rfl)).symm
theorem le_def (a b : α) : dataLe false enc a b = !dataLt (enc b) (enc a) := rfl
theorem le_total' (a b : α) : (dataLe false enc a b || dataLe false enc b a) = true := by
  rw [le_def, le_def]
  cases h1 : dataLt (enc b) (enc a) with
  | false => rfl
  | true =>
    cases h2 : dataLt (enc a) (enc b) with
    | false => rfl
    | true =>
      have := lex_trans (O := itemOrd) _ _ _ h1 h2
      rw [show PyProof.Rows.lexLt itemOrd (keyToks (enc b)) (keyToks (enc b)) = false from lex_irrefl _] at this
      cases this
theorem le_trans' (a b c : α) (h : dataLe false enc a b = true) (k : dataLe false enc b c = true) : dataLe false enc a c = true := by
  rw [le_def] at h k ⊢
  cases e : dataLt (enc c) (enc a) with
  | false => rfl
  | true =>
    rcases lex_negTrans (O := itemOrd) _ (keyToks (enc b)) _ e with z | z
    · rw [show dataLt (enc c) (enc b) = true from z] at k
      cases k
    · rw [show dataLt (enc b) (enc a) = true from z] at h
      cases h
theorem le_antisymm' (E : EncOk enc) (a b : α) (h : dataLe false enc a b = true) (k : dataLe false enc b a = true) : a = b := by
  rw [le_def] at h k
  refine E.inj a b (toks_inj (E.al a b) (lex_total (O := itemOrd) _ _ ?_ ?_))
  · simpa [dataLt] using k
  · simpa [dataLt] using h
theorem sortE_eq (E : EncOk enc) {A B : List α} (h : A.Perm B) : sortE enc A = sortE enc B := by
  have hA : (sortE enc A).Pairwise fun a b => dataLe false enc a b = true := List.pairwise_mergeSort le_trans' le_total' A
  have hB : (sortE enc B).Pairwise fun a b => dataLe false enc a b = true := List.pairwise_mergeSort le_trans' le_total' B
  exact (((sortE_perm A).trans h).trans (sortE_perm B).symm).eq_of_pairwise (fun a b _ _ => le_antisymm' E a b) hA hB
theorem paired_at {β : Type} {F : Addr → β → Prop} : ∀ {ts : List Addr} {L : List β}, Paired F ts L → ∀ {j : Nat} {z : V}, (ts.map V.ref)[j]? = some z → ∃ p b, z = .ref p ∧ p ∈ ts ∧ L[j]? = some b ∧ F p b
  | _, _, .nil, _, _, h => by simp at h
  | _, _, .cons r _, 0, _, h => by
    cases h
    exact ⟨_, _, rfl, List.mem_cons_self, rfl, r⟩
  | _, _, .cons _ t, j + 1, _, h => by
    obtain ⟨p, b, e, m, k1, k2⟩ := paired_at t (j := j) (by simpa using h)
    exact ⟨p, b, e, List.mem_cons_of_mem _ m, by simpa using k1, k2⟩
theorem sorted_pick {F : Addr → α → Prop} (inj : ∀ a b, enc a = enc b → a = b) {ts : List Addr} {A : List α} (hP : Paired F ts A) : ∀ {zs : List V} {M : List α}, Paired (fun (z : V) (d : PyData) => ∃ j : Nat, (ts.map V.ref)[j]? = some z ∧ (A.map enc)[j]? = some d) zs (M.map enc) → ∃ us : List Addr, zs = us.map V.ref ∧ Paired F us M ∧ ∀ u ∈ us, u ∈ ts
  | _, [], .nil => ⟨[], rfl, .nil, fun _ h => by cases h⟩
  | _, m :: M, .cons h t => by
    obtain ⟨us, rfl, hu, hm⟩ := sorted_pick inj hP t
    obtain ⟨j, h1, h2⟩ := h
    obtain ⟨p, e, rfl, hp, he, hf⟩ := paired_at hP h1
    rw [List.getElem?_map, he] at h2
    have h3 := inj _ _ (Option.some.inj h2)
    subst h3
    exact ⟨p :: us, rfl, .cons hf hu, fun u z => (List.mem_cons.mp z).elim (fun z => z ▸ hp) (hm u)⟩
theorem eqv_refl_of {x y : PyData} (h : alike x y = true) (e : x = y) : PyData.eqv x y = true := toks_inj h (by rw [e])
theorem dpAll_of {K : PySem.W.Frag} {H : Hp} {F : Addr → α → Prop} (hd : ∀ p e, F p e → Dp K H (.ref p) (enc e)) : ∀ {ts : List Addr} {A : List α}, Paired F ts A → DpAll K H (ts.map V.ref) (A.map enc)
  | _, _, .nil => .nil
  | _, _, .cons r t => .cons (hd _ _ r) (dpAll_of hd t)
theorem pairedP_len {β : Type} {F : Addr → β → Prop} : ∀ {ts : List Addr} {L : List β}, Paired F ts L → ts.length = L.length
  | _, _, .nil => rfl
  | _, _, .cons _ t => congrArg Nat.succ (pairedP_len t)
/-- sorted(xs), read -/
theorem sort_read {K : PySem.W.Frag} {H : Hp} {l : Addr} {F : Addr → α → Prop} {ts : List Addr} {A : List α} {Q : VK} (E : EncOk enc) (hl : SqL K H l (ts.map V.ref)) (hP : Paired F ts A) (hd : ∀ p e, F p e → Dp K H (.ref p) (enc e)) (hlen : A.length ≤ 100000)
    (q : ∀ (us : List Addr) (p : Addr), Paired F us (sortE enc A) → (∀ u ∈ us, u ∈ ts) → H p = none → Q (.ref p) (upd H p (.lst (us.map V.ref)))) : rSortD K [.ref l] H Q := by
  refine ⟨l, _, A.map enc, rfl, hl, dpAll_of hd hP, AllAlike.of E.al, Sortable.tuples E.tup, fun d hdm => ?_, by rw [List.length_map, pairedP_len hP]; exact hlen, fun zs p hz np => ?_⟩
  · obtain ⟨a, _, rfl⟩ := List.mem_map.mp hdm
    exact E.deep a
  · rw [sortE_map] at hz
    obtain ⟨us, rfl, h1, h2⟩ := sorted_pick (fun a b e => E.inj a b (eqv_refl_of (E.al a b) e)) hP hz
    exact q us p h1 h2 np
end
/-- == and != of data within a comprehension -/
theorem op_eqDK {X : Cx} {K : PySem.W.Frag} (h : X.K = K) (hu : X.A.units + 64 < cLine) : OpR X (compareOp .Eq) (rEqD K) := h ▸ op_eqD hu
theorem op_neDK {X : Cx} {K : PySem.W.Frag} (h : X.K = K) (hu : X.A.units + 64 < cLine) : OpR X (compareOp .NotEq) (rNeD K) := h ▸ op_neD hu
theorem sl_listK {X : Cx} {K : PySem.W.Frag} (h : X.K = K) : SlR X (rSlL K) := h ▸ sl_list
/-- pairs of numbers -/
def enc2 (e : Nat × Nat) : PyData := .tuple [.int (e.1 : Int), .int (e.2 : Int)]
theorem enc2_ok : EncOk enc2 := by
  refine ⟨fun a b => rfl, fun a b h => ?_, fun a => ⟨_, _, rfl⟩, fun a => ?_⟩
  · have h : (((a.1 : Int) == (b.1 : Int)) && (((a.2 : Int) == (b.2 : Int)) && true)) = true := h
    simp only [Bool.and_eq_true, beq_iff_eq, and_true] at h
    exact Prod.ext (by omega) (by omega)
  · show PyData.depth (.tuple [.int (a.1 : Int), .int (a.2 : Int)]) ≤ 8
    simp [PyData.depth, PyData.depthAll]
/-- triples of numbers -/
def enc3 (z : Nat × Nat × Nat) : PyData := .tuple [.int (z.1 : Int), .int (z.2.1 : Int), .int (z.2.2 : Int)]
theorem enc3_ok : EncOk enc3 := by
  refine ⟨fun a b => rfl, fun a b h => ?_, fun a => ⟨_, _, rfl⟩, fun a => ?_⟩
  · have h : (((a.1 : Int) == (b.1 : Int)) && (((a.2.1 : Int) == (b.2.1 : Int)) && (((a.2.2 : Int) == (b.2.2 : Int)) && true))) = true := h
    simp only [Bool.and_eq_true, beq_iff_eq, and_true] at h
    exact Prod.ext (by omega) (Prod.ext (by show a.2.1 = b.2.1; omega) (by show a.2.2 = b.2.2; omega))
  · show PyData.depth (.tuple [.int (a.1 : Int), .int (a.2.1 : Int), .int (a.2.2 : Int)]) ≤ 8
    simp [PyData.depth, PyData.depthAll]
end My
set_option maxHeartbeats 4000000
namespace My
open PySem L2 PyProof.Rows
theorem sml1000 {n : Nat} (h : n ≤ 1000) : n < sizeLine := Nat.lt_of_le_of_lt h (by decide)
/-- texts as values -/
abbrev tv (TS : List (List Nat)) : List V := TS.map T
def TxAt (H : Hp) (l : Addr) (TS : List (List Nat)) : Prop := H l = some (.lst (tv TS)) ∨ H l = some (.tup (tv TS))
theorem TxAt.same {H H' : Hp} {l : Addr} {TS : List (List Nat)} (h : TxAt H l TS) (s : Same H H') : TxAt H' l TS := h.imp (s _ _) (s _ _)
theorem TxAt.seq {K : PySem.W.Frag} {H : Hp} {l : Addr} {TS : List (List Nat)} (h : TxAt H l TS) : SqL K H l (tv TS) ∨ SqT K H l (tv TS) := h.imp SqL.of SqT.of
/-- texts that may be given -/
structure OkX (TS : List (List Nat)) : Prop where
  n1 : 1 ≤ TS.length
  n2 : TS.length ≤ 20
  tx : ∀ t ∈ TS, OkT (tS t)
  sum : (TS.map List.length).sum ≤ 400
theorem tv_at {TS : List (List Nat)} {i : Nat} {v : V} (h : (tv TS)[i]? = some v) : ∃ t, TS[i]? = some t ∧ v = T t := by
  rw [List.getElem?_map] at h
  cases e : TS[i]? with
  | none => rw [e] at h; cases h
  | some p => rw [e] at h; exact ⟨p, rfl, (Option.some.inj h).symm⟩
theorem sum_nat (L : List Nat) : ((L.map fun n : Nat => (n : Int)).sum) = ((L.sum : Nat) : Int) := by
  induction L with
  | nil => rfl
  | cons a r ih => rw [List.map_cons, List.sum_cons, List.sum_cons, ih]; omega
section
variable {P : Program} {w : World} {K : PySem.W.Frag} {mg : Str → Option Value} {base : Heap} {C : Addr}
def sp_need_texts (_ : PySem.W.Frag) (_ : Addr) : Sp := fun vs H Q _ => ∃ l TS, vs = [.ref l] ∧ TxAt H l TS ∧ OkX TS ∧ ∀ H', Same H H' → Q .non H'
theorem ok_need_texts (D : Def K mg "_need_texts" s_need_texts ["texts"]) (B : Bs mg) (Glb : Glo mg) (WK : WebK K mg C)
    (his_listed : Good P w K mg base "is_listed" sis_listed ["value"] 1 (spis_listed K C))
    (his_between : Good P w K mg base "is_between" sis_between ["value", "least", "most"] 2 (spis_between K C))
    (his_text : Good P w K mg base "is_text" sis_text ["value"] 2 (spis_text K C)) :
    Good P w K mg base "_need_texts" s_need_texts ["texts"] 3 (sp_need_texts K C) := by
  refine D.good fun f fd F => ?_
  obtain ⟨fis_listed, dis_listed, Ois_listed, mis_listed, kis_listed, bis_listed, Fis_listed⟩ := his_listed
  obtain ⟨fis_between, dis_between, Ois_between, mis_between, kis_between, bis_between, Fis_between⟩ := his_between
  obtain ⟨fis_text, dis_text, Ois_text, mis_text, kis_text, bis_text, Fis_text⟩ := his_text
  refine F.ok sc_need_texts (fun vs H Q E h => ?_) (fun cdv A outer s H vs Q E hr h => ?_)
  · obtain ⟨l, TS, rfl, hl, ho, q⟩ := h
    first | rfl | (rcases h with ⟨_, _, rfl, _⟩ | ⟨_, rfl, _⟩ <;> rfl)
  obtain ⟨l, TS, rfl, hl, ho, q⟩ := h
  refine ⟨_, (pss_cons (ps_if (PW.pt (pw_or (pt_not (pt_val (pe_call Ois_listed (hr.mono (by decide)) rfl mis_listed kis_listed bis_listed .nil pass0 (pa_cons (pv 0) pa_nil)))) (pw_or (pt_not (pt_val (pe_call Ois_between hr rfl mis_between kis_between bis_between .nil pass0 (pa_cons (pe_callB call_len_seq (by rfl) B.len (by decide +kernel) (pa_cons (pv 0) pa_nil)) (pa_cons pe_int (pa_cons (pe_globI Glb.MOST_TEXTS) pa_nil)))))) (pw_or1 (pt_not (pt_val (pe_callB (cr_all rfl) (by rfl) B.all (by decide +kernel) (pa_cons (pe_lc (own := [("text", 1)]) (g := gName 1) (by rfl) sc_need_texts.nd (pi_or (pi_list (pv 0)) (pi_tup (pv 0))) (blkOk_by (own := [("text", 1)]) (N := ["texts", "text"]) (sc := defScope s_need_texts) (by decide +kernel)) (fun _ _ _ _ _ => (pg_name (i := 1) sc_need_texts.nd rfl (by first | exact Or.inl rfl | exact Or.inr rfl))) (fun _ _ _ _ _ => pts_nil) (fun _ _ _ _ _ => (pe_call Ois_text hr rfl mis_text kis_text bis_text .nil pass0 (pa_cons (pv 1) pa_nil)))) pa_nil))))))))
    (pss_one ps_never) pss_nil)
  (pss_one (ps_if (pt_cmpR op_gt (pe_callB (cr_sum rfl) (by rfl) B.sum (by decide +kernel) (pa_cons (pe_lc (own := [("text", 1)]) (g := gName 1) (by rfl) sc_need_texts.nd (pi_or (pi_list (pv 0)) (pi_tup (pv 0))) (blkOk_by (own := [("text", 1)]) (N := ["texts", "text"]) (sc := defScope s_need_texts) (by decide +kernel)) (fun _ _ _ _ _ => (pg_name (i := 1) sc_need_texts.nd rfl (by first | exact Or.inl rfl | exact Or.inr rfl))) (fun _ _ _ _ _ => pts_nil) (fun _ _ _ _ _ => (pe_callB call_len_str (by rfl) B.len (by decide +kernel) (pa_cons (pv 1) pa_nil)))) pa_nil)) (pe_globI Glb.MOST_LETTERS) (nomark _))
    (pss_one ps_never) pss_nil))), ?_⟩
  have hla : (∃ xs, H l = some (.lst xs)) ∨ ∃ xs, H l = some (.tup xs) := hl.imp (fun h => ⟨_, h⟩) fun h => ⟨_, h⟩
  have h1 := ho.n1
  have h2 := ho.n2
  refine ⟨_, rfl, l, rfl, hla, fun H1 hS1 => ⟨_, rfl, iteF ?_⟩⟩
  have hl1 := hl.same hS1
  refine ⟨_, rfl, l, _, rfl, hl1.seq, _, 1, 20, rfl, by rw [List.length_map]; omega, by rw [List.length_map]; omega, _, rfl, iteF ?_⟩
  have gl : ∀ (H' : Hp) (D : Addr), Same H1 H' → H' D = none → D ≠ l := fun H' D hS nD => by
    rcases hl1 with h | h
    · exact (ne_of_none (hS _ _ h) nD).symm
    · exact (ne_of_none (hS _ _ h) nD).symm
  have body1 : ∀ (D : Addr), H1 D = none → ∀ (i : Nat) (x : V) (H' : Hp), (tv TS)[i]? = some x → (Same H1 H' ∧ H' D = some (.lst ((List.replicate i true).map V.bl))) → ∃ y, x = .str y ∧ OkT y ∧ ∃ acc, H' D = some (.lst acc) ∧ acc.length < sizeLine ∧ Same H1 (upd H' D (.lst (acc ++ [V.bl true]))) ∧ upd H' D (.lst (acc ++ [V.bl true])) D = some (.lst ((List.replicate (i + 1) true).map V.bl)) := fun D nD i x H' hx ⟨hS, hD⟩ => by
    obtain ⟨t, ht, rfl⟩ := tv_at hx
    have hil := (List.getElem?_eq_some_iff.mp ht).1
    refine ⟨_, rfl, ho.tx t (List.mem_of_getElem? ht), _, hD, by rw [List.length_map, List.length_replicate]; exact sml1000 (by omega), same_upd hS nD, ?_⟩
    rw [upd_same, List.replicate_succ', List.map_append]
    rfl
  have body2 : ∀ (D : Addr) (H2 : Hp), H2 D = none → ∀ (i : Nat) (x : V) (H' : Hp), (tv TS)[i]? = some x → (Same H2 H' ∧ H' D = some (.lst ((((TS.take i).map List.length).map fun n : Nat => (n : Int)).map V.int))) → ∃ t, x = T t ∧ t.length ≤ 400 ∧ ∃ acc, H' D = some (.lst acc) ∧ acc.length < sizeLine ∧ Same H2 (upd H' D (.lst (acc ++ [V.int (t.length : Int)]))) ∧ upd H' D (.lst (acc ++ [V.int (t.length : Int)])) D = some (.lst ((((TS.take (i + 1)).map List.length).map fun n : Nat => (n : Int)).map V.int)) := fun D H2 nD i x H' hx ⟨hS, hD⟩ => by
    obtain ⟨t, ht, rfl⟩ := tv_at hx
    have hil := (List.getElem?_eq_some_iff.mp ht).1
    have htl := (ho.tx t (List.mem_of_getElem? ht)).len
    rw [T_len] at htl
    refine ⟨t, rfl, htl, _, hD, by rw [List.length_map, List.length_map, List.length_map, List.length_take]; exact sml1000 (by omega), same_upd hS nD, ?_⟩
    rw [upd_same, List.take_succ, ht, Option.toList_some, List.map_append, List.map_append, List.map_append]
    rfl
  have hsum : ∀ {L : List Int}, L = (TS.map List.length).map (fun n : Nat => (n : Int)) → L.sum ≤ 400 := fun e => by
    rw [e, sum_nat]
    have := ho.sum
    omega
  rcases hl1 with hl1 | hl1
  · refine .inl ⟨_, rfl, l, rfl, ⟨_, SqL.of hl1⟩, fun D nD => lc_list (K := K) (a := l) (xs := tv TS) (fun i H' => Same H1 H' ∧ H' D = some (.lst ((List.replicate i true).map V.bl))) ⟨same_new nD _, upd_same⟩ (fun i H' _ ⟨hS', _⟩ => SqL.of (hS' _ _ hl1)) (fun i x H' hx hp => ?_) ?_⟩
    · obtain ⟨y, rfl, hy, acc, a1, a2, a3, a4⟩ := body1 D nD i x H' hx hp
      exact ⟨rfl, _, rfl, y, rfl, hy, acc, a1, a2, a3, a4⟩
    rintro H2 ⟨hS2, hD2⟩
    refine ⟨D, _, rfl, SqL.of hD2, _, rfl, ?_⟩
    rw [show (List.replicate (tv TS).length true).all id = true by simp]
    refine iteF ?_
    refine .inl ⟨_, rfl, l, rfl, ⟨_, SqL.of (hS2 _ _ hl1)⟩, fun D2 nD2 => lc_list (K := K) (a := l) (xs := tv TS) (fun i H' => Same H2 H' ∧ H' D2 = some (.lst ((((TS.take i).map List.length).map fun n : Nat => (n : Int)).map V.int))) ⟨same_new nD2 _, upd_same⟩ (fun i H' _ ⟨hS', _⟩ => SqL.of (hS' _ _ (hS2 _ _ hl1))) (fun i x H' hx hp => ?_) ?_⟩
    · obtain ⟨t, rfl, ht, acc, a1, a2, a3, a4⟩ := body2 D2 H2 nD2 i x H' hx hp
      exact ⟨rfl, _, rfl, _, rfl, T_line (by omega), acc, a1, a2, by rw [T_len]; exact a3, by rw [T_len]; exact a4⟩
    rintro H3 ⟨hS3, hD3⟩
    rw [List.length_map, List.take_length] at hD3
    refine ⟨D2, _, rfl, SqL.of hD3, _, _, rfl, rfl, _, rfl, iteNo (fun z => ?_) ?_⟩
    · have := hsum rfl
      omega
    exact q H3 (hS1.trans (hS2.trans hS3))
  · refine .inr ⟨_, rfl, l, rfl, ⟨_, SqT.of hl1⟩, fun D nD => lc_tup (K := K) (a := l) (xs := tv TS) (fun i H' => Same H1 H' ∧ H' D = some (.lst ((List.replicate i true).map V.bl))) ⟨same_new nD _, upd_same⟩ (fun i H' _ ⟨hS', _⟩ => SqT.of (hS' _ _ hl1)) (fun i x H' hx hp => ?_) ?_⟩
    · obtain ⟨y, rfl, hy, acc, a1, a2, a3, a4⟩ := body1 D nD i x H' hx hp
      exact ⟨rfl, _, rfl, y, rfl, hy, acc, a1, a2, a3, a4⟩
    rintro H2 ⟨hS2, hD2⟩
    refine ⟨D, _, rfl, SqL.of hD2, _, rfl, ?_⟩
    rw [show (List.replicate (tv TS).length true).all id = true by simp]
    refine iteF ?_
    refine .inr ⟨_, rfl, l, rfl, ⟨_, SqT.of (hS2 _ _ hl1)⟩, fun D2 nD2 => lc_tup (K := K) (a := l) (xs := tv TS) (fun i H' => Same H2 H' ∧ H' D2 = some (.lst ((((TS.take i).map List.length).map fun n : Nat => (n : Int)).map V.int))) ⟨same_new nD2 _, upd_same⟩ (fun i H' _ ⟨hS', _⟩ => SqT.of (hS' _ _ (hS2 _ _ hl1))) (fun i x H' hx hp => ?_) ?_⟩
    · obtain ⟨t, rfl, ht, acc, a1, a2, a3, a4⟩ := body2 D2 H2 nD2 i x H' hx hp
      exact ⟨rfl, _, rfl, _, rfl, T_line (by omega), acc, a1, a2, by rw [T_len]; exact a3, by rw [T_len]; exact a4⟩
    rintro H3 ⟨hS3, hD3⟩
    rw [List.length_map, List.take_length] at hD3
    refine ⟨D2, _, rfl, SqL.of hD3, _, _, rfl, rfl, _, rfl, iteNo (fun z => ?_) ?_⟩
    · have := hsum rfl
      omega
    exact q H3 (hS1.trans (hS2.trans hS3))
end
end My
namespace My
open PySem PySem.Spec PyProof.Rows L2
/-- any walk: what is done with each item, by what holds behind it -/
theorem it_any {J : It} {n : Nat} {G : Hp → Prop} {Y : Nat → Hp → V → Hp → Prop} (wk : Walk J n G Y) {H0 : Hp} {Qd : Hp → Prop} {Step : V → Hp → (Hp → Prop) → Prop} (Pv : Nat → Hp → Prop) (h0 : Pv 0 H0) (hG : ∀ i H, i ≤ n → Pv i H → G H)
    (hs : ∀ i x H H', i < n → Pv i H → Y i H x H' → Step x H' (Pv (i + 1))) (hd : ∀ H, Pv n H → Qd H) :
    ∃ W : Nat → Nat → Hp → Prop, (∃ m, W 0 m H0) ∧ ∀ i m H, W i m H → (J.stop i H ∧ Qd H) ∨ (J.go i H ∧ ∃ Nx : Hp → Prop, (∀ H', Nx H' → ∃ m', m' < m ∧ W (i + 1) m' H') ∧ ∀ x H', J.yld i H x H' → Step x H' Nx) := by
  refine ⟨fun i m H => i ≤ n ∧ m = n - i ∧ Pv i H, ⟨n, Nat.zero_le _, rfl, h0⟩, fun i m H ⟨hi, em, p⟩ => ?_⟩
  have hq := hG i H hi p
  rcases Nat.lt_or_ge i n with lt | ge
  · exact .inr ⟨wk.goes i H lt hq, Pv (i + 1), fun H' p' => ⟨n - (i + 1), by omega, lt, rfl, p'⟩, fun x H' y => hs i x H H' lt p (wk.yields i H x H' lt hq y)⟩
  · have e : i = n := Nat.le_antisymm hi ge
    subst e
    exact .inl ⟨wk.stops H hq, hd H p⟩
end My
/-! enumerate(t), t a tuple -/
namespace My
open PySem PySem.Spec PyProof.Rows L2
open AutoSeq1 (wpAny_loadPart')
theorem enum_new_tup (q : Addr) (ys : Array Value) (m : Nat) (dc : Option Addr) (sl : Array (Option Value)) :
    Meets (Builtin.«enumerate.__new__» ⟨[.type "enumerate", .ref q], []⟩) (fun _ R s => s.heap.get? q = some { cls := .type "tuple", dict := dc, data := .seq ys m, slots := sl } ∧
      R (.ok (.ret (.ref (s.heap.push { cls := .type "tuple_iterator", data := .fields #[.ref q, .int 0 0] }).objs.size)))
        { s with heap := (s.heap.push { cls := .type "tuple_iterator", data := .fields #[.ref q, .int 0 0] }).push { cls := .type "enumerate", data := .fields #[.none, .bool false, .ref s.heap.objs.size, rawInt 0, .none, .none] } }) :=
  .of_wp fun prog w A R s k => by
    obtain ⟨hh, g, dr, tk, os⟩ := s
    obtain ⟨kq, k⟩ := k
    have hsub := sub_enumerate
    have hT : Heap.IsTuple (Shared.heap ⟨hh, g, dr, tk, os⟩) q ys := ⟨_, kq, rfl, m, rfl⟩
    wp_walk using wpAny_loadPart' kq
    refine wpAny_stack_any fun _ => wpAny_pure ?_
    split
    · rename_i c _ _ _ _ _
      cases (c == Value.type "enumerate") <;>
        (wp_walk using wpAny_loadPart' kq, wpAny_pyIter_tuple hT
         exact ⟨_, rfl, k⟩)
    · wp_walk using wpAny_loadPart' kq, wpAny_pyIter_tuple hT
      exact ⟨_, rfl, k⟩
section
variable {prog : Program} {w : World} {A : Around} {E : Value → Shared → Prop} {s : Shared}
theorem call_enum_tup {q : Addr} {ys : Array Value} {Q : Value → Shared → Prop} (hT : s.heap.IsTuple q ys)
    (k : ∀ h', IsEnum h' (s.heap.objs.size + 1) s.heap.objs.size 0 .none → h'.IsTupleIter s.heap.objs.size q 0 → h'.objs.size = s.heap.objs.size + 2 →
      (∀ b o, s.heap.get? b = some o → h'.get? b = some o) → Q (.ref (s.heap.objs.size + 1)) { s with heap := h' }) :
    wpAny (model prog w) A (call (.type "enumerate") [.ref q]) Q E s := by
  obtain ⟨⟨cl, dc, dt, sl⟩, kq, ec, m, ed⟩ := hT
  cases (show cl = .type "tuple" from ec)
  cases (show dt = .seq ys m from ed)
  refine callType_new F.called_enumerate (by decide) (F.typeCall_enumerate_1 _) (F.newCall_enumerate_1 _) (fun obj => F.args_object_init_2 obj _) F.entry_enumerate_new
    (enum_new_tup q ys m dc sl) ⟨kq, ?_⟩
  have z1 : (s.heap.push { cls := .type "tuple_iterator", data := .fields #[.ref q, .int 0 0] }).objs.size = s.heap.objs.size + 1 := Heap.size_push ..
  show _ ∧ _
  rw [z1]
  have he : IsEnum ((s.heap.push { cls := .type "tuple_iterator", data := .fields #[.ref q, .int 0 0] }).push
      { cls := .type "enumerate", data := .fields #[.none, .bool false, .ref s.heap.objs.size, rawInt 0, .none, .none] }) (s.heap.objs.size + 1) s.heap.objs.size 0 .none := by
    have z2 := Heap.get?_push_size (s.heap.push { cls := .type "tuple_iterator", data := .fields #[.ref q, .int 0 0] })
      (o := { cls := .type "enumerate", data := .fields #[.none, .bool false, .ref s.heap.objs.size, rawInt 0, .none, .none] }) rfl
    rwa [z1] at z2
  exact ⟨⟨_, he, rfl⟩, k _ he ⟨_, Heap.get?_push_of_some _ (Heap.get?_push_size _ rfl), rfl, rfl⟩ (by rw [Heap.size_push, z1]) fun b o x => Heap.get?_push_of_some _ (Heap.get?_push_of_some _ x)⟩
end
/-- the tuple at a, each item in a new pair -/
def Ity (K : PySem.W.Frag) (a : Addr) : It :=
  ⟨fun i H => ∃ (xs : List V) (x : V), SqT K H a xs ∧ xs[i]? = some x, fun i H v H' => ∃ T x, v = .ref T ∧ H T = none ∧ H' = upd H T (.tup [.int (i : Nat), x]) ∧ ∀ xs, SqT K H a xs → xs[i]? = some x, fun i H => ∃ xs : List V, SqT K H a xs ∧ xs.length = i⟩
theorem walk_enumT {K : PySem.W.Frag} {a : Addr} {xs : List V} : Walk (Ity K a) xs.length (fun H => SqT K H a xs) (YPair (fun i => some (.int (i : Nat))) (fun i => xs[i]?)) := by
  refine ⟨fun i _ hi q => ⟨xs, xs[i], q, List.getElem?_eq_getElem hi⟩, fun _ q => ⟨xs, q, rfl⟩, fun i H v H' _ q y => ?_⟩
  obtain ⟨T, x, y1, y2, y3, y4⟩ := y
  exact ⟨T, .int (i : Nat), x, y1, y2, y3, rfl, y4 xs q⟩
theorem turn_enumT {P : Program} {w : World} {K : PySem.W.Frag} {elts : List Expr} {kk : Nat} {tpos : Pos} (a e it : Addr) (nai : a ≠ it) (nea : e ≠ a) :
    Turn P w K (.Tuple elts kk tpos) (Ity K a) [e, it] e (fun i h => (∃ old, IsEnum h e it ((i : Nat) : Int) old) ∧ h.IsTupleIter it a i ∧ e ≠ it) where
  mem := by simp
  obj := fun i h st b hb => by
    obtain ⟨⟨old, he⟩, ⟨o, ho, hc, hd⟩, _⟩ := st
    rcases (show b = e ∨ b = it by simpa using hb) with z | z
    · subst z; exact ⟨_, he, fun v q => nomatch q⟩
    · subst z; exact ⟨o, ho, fun v q => by rw [hd] at q; cases q⟩
  keep := fun i h h' st k => let ⟨⟨old, he⟩, hi, hne⟩ := st; ⟨⟨old, k e (by simp) _ he⟩, hi.at fun o q => k it (by simp) o q, hne⟩
  item := by
    intro X hP hw hK hc i pins s σ H E I hf st hg
    subst hP hw hK
    obtain ⟨⟨old, he⟩, hit, hne⟩ := st
    obtain ⟨xs, x, hq, hx⟩ := hg
    obtain ⟨its, rv, p, hz⟩ := I.tuple hq
    obtain ⟨u, hu, ru⟩ := rv.get hx
    have le : e < s.heap.objs.size := Heap.lt_size he
    have li : it < s.heap.objs.size := by obtain ⟨_, q, _⟩ := hit; exact Heap.lt_size q
    have small : i < its.toArray.size := by
      have := (List.getElem?_eq_some_iff.mp hu).1
      simpa using this
    refine wpAny_pyNext_enum_itemD (Draws.tuple (A := X.A.in1) (I.ok.hd hc) it a nai its.toArray) he ⟨hit, (show s.heap.IsTuple a its.toArray from p)⟩ small hne (by simp [hne, nea]) fun x' h' tk hx' ho hst hT hsz hk => ?_
    have ex : x' = u := by
      have : its[i]? = some x' := by simpa using hx'
      rw [hu] at this
      exact (Option.some.inj this).symm
    subst ex
    obtain ⟨hst1, hst2⟩ := hst
    refine ⟨_, rfl, wpAny_letOwnedTupleGo_enum (s := { s with heap := h', toks := tk + 1 }) ho fun h2 he2 sb => ?_⟩
    have gT : h2.get? s.heap.objs.size = some { cls := .type "tuple", data := .seq #[.int i tk, x'] } := (sb.2 _ (Nat.ne_of_gt le)).trans hT
    have okT : ObjOk X.prog X.w (upd H s.heap.objs.size (.tup [.int (i : Nat), x])) h2 s.heap.objs.size (.tup [.int (i : Nat), x]) :=
      ⟨by show 2 ≤ sizeLine; decide, [.int i tk, x'], .cons ⟨_, rfl⟩ (.cons ru .nil), ⟨_, gT, rfl, _, rfl⟩⟩
    have I2 : Inv X pins σ (upd H s.heap.objs.size (.tup [.int (i : Nat), x])) { s with heap := h2, toks := tk + 1 } :=
      I.turnedNew (t' := tk + 1) (ch := [e, it]) (fun b ob hb q => (sb.2 b (fun z => hb (by simp [z]))).trans (hk b ob (fun z => hb (by simp [z])) (fun z => hb (by simp [z])) q)) hf (Nat.le_refl _) okT
    refine ⟨.ref s.heap.objs.size, _, I2, rfl, ⟨_, x, rfl, I.hok.fresh (Nat.le_refl _), rfl, fun ys hy => by rw [I.tuple_inj hy hq]; exact hx⟩, ⟨⟨x', ?_⟩, hst1.at fun o q => (sb.2 it (Ne.symm hne)).trans q, hne⟩, fun b hb => ?_⟩
    · rw [show ((i + 1 : Nat) : Int) = (i : Int) + 1 by omega]
      exact he2
    · have lb : b < s.heap.objs.size := by
        rcases (show b = e ∨ b = it by simpa using hb) with z | z
        · rw [z]; exact le
        · rw [z]; exact li
      rw [upd_ne (Nat.ne_of_lt lb)]
      exact (hf b hb).1
  done := by
    intro X hP hw hK hc i pins s σ H E I hf st hg
    subst hP hw hK
    obtain ⟨⟨old, he⟩, hit, hne⟩ := st
    obtain ⟨xs, hq, hx⟩ := hg
    obtain ⟨its, rv, p, hz⟩ := I.tuple hq
    obtain ⟨f0, f1, f2, f3, f4, f5⟩ := hf it (by simp)
    have hl := rv.length
    have hsz : i = its.toArray.size := by
      rw [List.size_toArray]
      omega
    rw [hsz] at hit
    exact wpAny_pyNext_enum_endD (Draws.tuple (A := X.A.in1) (I.ok.hd hc) it a nai its.toArray) he ⟨hit, (show s.heap.IsTuple a its.toArray from p)⟩ fun h' eb => ⟨rfl, I.turned (t' := s.toks) (fun b o hb e => eb b o hb e) f0 f1 f3 f4 f5⟩
  self := fun A i s Q E st h => let ⟨⟨_, he⟩, _⟩ := st; wpAny_pyIter_enum he h
def iEnumT (K : PySem.W.Frag) (ta : TA) : TI := fun σ H R => ta σ H fun vs H1 => ∃ a xs, vs = [.ref a] ∧ SqT K H1 a xs ∧ R (Ity K a) H1
theorem pi_enumT {X : Cx} {e : Expr} {ta : TA} {p pos tpos : Pos} {elts : List Expr} {kk : Nat} (hg : Gl X "enumerate") (hm : X.mg "enumerate" = none) (ha : PA X [e] ta) (hs : starEach [e] X.env = [(false, eval e X.env)] := by rfl) :
    PI X (.Tuple elts kk tpos) (.Call (.Name "enumerate" p) [e] [] pos) (iEnumT X.K ta) := by
  constructor
  intro pins s σ H R I h
  refine Call_ (ld_blt I hg hm boot_enumerate (PyProof.Rows.callWith_type1 (thn (ha.run pos pins s σ H _ I h) fun us s1 ⟨vs, H1, I1, r1, q1⟩ => ?_) hs rfl))
  obtain ⟨a, xs, rfl, hq, q⟩ := q1
  obtain rfl := Vals.ref1 r1
  obtain ⟨its, rv, p', hz⟩ := I1.tuple hq
  have la : a < s1.heap.objs.size := by obtain ⟨_, z, _⟩ := p'; exact Heap.lt_size z
  refine call_enum_tup (show s1.heap.IsTuple a its.toArray from p') fun h' he hit hsz hk => wpAny_pyIter_enum he ?_
  have I2 : Inv X pins σ H1 { s1 with heap := h' } := I1.kept (t' := s1.toks) hk
  refine ⟨s1.heap.objs.size + 1, [s1.heap.objs.size + 1, s1.heap.objs.size], _, _, H1, rfl, I2, turn_enumT a (s1.heap.objs.size + 1) s1.heap.objs.size (Nat.ne_of_lt la) (Nat.ne_of_gt (Nat.lt_succ_of_lt la)), ⟨⟨.none, he⟩, hit, Nat.succ_ne_self _⟩, fun b hb => ?_, q⟩
  have hle : s1.heap.objs.size ≤ b := by
    rcases (show b = s1.heap.objs.size + 1 ∨ b = s1.heap.objs.size by simpa using hb) with z | z
    · rw [z]; exact Nat.le_succ _
    · rw [z]; exact Nat.le_refl _
  exact I1.fpOk hle (I1.hok.fresh hle)
end My
set_option maxHeartbeats 4000000
namespace My
open PySem PySem.Spec PyProof.Rows L2
/-! set(xs), xs a list of tuples of whole numbers, however often each stands in it: fewer than 63 unlike ones -/
abbrev AK := Addr × List Int
def FewK (ks : List AK) : Prop := ∀ L : List AK, (L.map (·.2)).Nodup → (∀ p ∈ L, p ∈ ks) → L.length < 63
section
variable {prog : Program} {w : World} {A : Around} {E : Value → Shared → Prop} {s : Shared}
theorem tups_loop {I S : Addr} {fp wr : List Addr} {G : Array GenState → Array GenState → Prop} {n : Nat} {Pv : Nat → Value → Prop} {St : Nat → Shared → Prop} {R : Result → Shared → Prop} {ks : List AK} {hb : Heap}
    (Wk : WalksS prog w A.in1 I fp wr G n Pv St) (nS : S ∉ fp) (en : ks.length = n) (few : FewK ks)
    (pick : ∀ i v, Pv i v → ∃ p, v = .ref p.1 ∧ ks[i]? = some p) (tups : ∀ p ∈ ks, IsT prog w hb p.2 p.1) (fS : hb.get? S = none) (fW : ∀ b ∈ wr, hb.get? b = none) (room : A.in1.units < cLine) :
    ∀ (left i : Nat) (s : Shared), i + left = n → St i s → (∀ b o, hb.get? b = some o → s.heap.get? b = some o) → (∃ L es ep t, L2.Got ks i L ∧ SetTR prog w s.heap S L es ep t) →
      (∀ s' L es ep t, L2.Got ks n L → SetTR prog w s'.heap S L es ep t → Moved (S :: wr) G s s' → (∀ b o, hb.get? b = some o → s'.heap.get? b = some o) → R (.ok (.ret .none)) s') →
      codeAny (model prog w) A (.builtin "set.update.loop" ⟨[.ref S, .ref I], []⟩) R s := by
  have nSw : S ∉ wr := fun h => nS (Wk.sub _ h)
  have up : ∀ b ∈ wr, b ∈ S :: wr := fun b h => List.mem_cons_of_mem _ h
  have stays : ∀ {s s' : Shared}, Moved wr G s s' → (∀ b o, hb.get? b = some o → s.heap.get? b = some o) → ∀ b o, hb.get? b = some o → s'.heap.get? b = some o := fun hm old b o e =>
    hm.heap b o (fun h => by rw [fW b h] at e; cases e) (old b o e)
  have inks : ∀ {i : Nat} {L : List AK}, L2.Got ks i L → ∀ p ∈ L, p ∈ ks := fun g p h => List.mem_of_mem_take (g.sub p h)
  intro left
  induction left with
  | zero =>
    rintro i s el hst old ⟨L, es, ep, t, g, hS⟩ fin
    have ei : i = n := el
    subst ei
    refine codeAny_builtin F.entry_set_update_loop ?_
    rw [Around.under_plainId F.plain_set_update_loop _]
    show wpAny _ A.in1 (pyNext (.ref I) >>= _) _ _ s
    refine wpAny_bind (Wk.done s _ _ hst fun s' hm => ?_)
    have old' := stays hm old
    show wpAny _ A.in1 (ret Value.none) _ _ s'
    refine wpAny_pure (fin s' L es ep t g ?_ (hm.mono up) old')
    exact hS.keep (fun o e => hm.heap S o nSw e) fun p h => isT_keep (tups p (inks g p h)) old'
  | succ left ih =>
    rintro i s el hst old ⟨L, es, ep, t, g, hS⟩ fin
    refine codeAny_builtin F.entry_set_update_loop ?_
    rw [Around.under_plainId F.plain_set_update_loop _]
    show wpAny _ A.in1 (pyNext (.ref I) >>= _) _ _ s
    refine wpAny_bind (Wk.item i s _ _ (by omega) hst fun v s' hP hst' hm => ?_)
    obtain ⟨p, rfl, hp⟩ := pick i v hP
    have old' := stays hm old
    have hS1 : SetTR prog w s'.heap S L es ep t := hS.keep (fun o e => hm.heap S o nSw e) fun q h => isT_keep (tups q (inks g q h)) old'
    have hx : IsT prog w s'.heap p.2 p.1 := isT_keep (tups p (List.mem_of_getElem? hp)) old'
    show wpAny _ A.in1 (holding [Value.ref p.1] (setAdd S (.ref p.1)) >>= _) _ _ s'
    refine wpAny_bind (wpAny_holding ?_)
    unfold setAdd
    refine wpAny_holding (wpAny_bind (wpAny_pyHash_tuple room hx ?_))
    have hfew := few L hS1.nd (inks g)
    refine add_at (s := { s' with toks := s'.toks + (p.2.length + 1) }) hS1 hx room (by omega) fun b h' L' es' ep' t' sb hS2 c1 c2 => ?_
    have g2 : L2.Got ks (i + 1) L' := by
      by_cases c : p.2 ∈ L.map (·.2)
      · rw [c1 c]
        exact g.same hp c
      · exact g.more hp (c2 c)
    have old2 : ∀ b o, hb.get? b = some o → h'.get? b = some o := fun b o e => by
      rw [sb.2 b fun z => by rw [z, fS] at e; cases e]
      exact old' b o e
    have hst2 := Wk.frame _ s' h' (s'.toks + (p.2.length + 1)) hst' (Nat.le_add_right _ _) fun b hb' o e => by
      show h'.get? b = _
      rw [sb.2 b fun z => nS (z ▸ hb')]
      exact e
    refine wpAny_pure ⟨plainId_quiet F.plain_set_update_loop _, ih (i + 1) _ (by omega) hst2 old2 ⟨L', es', ep', t', g2, hS2⟩ fun s2 L2 es2 ep2 t2 g3 hS3 hm2 old3 => ?_⟩
    refine fin s2 L2 es2 ep2 t2 g3 hS3 (Moved.trans Wk.gtrans ((hm.mono up).then_heap (Nat.le_add_right _ _) fun b o hb' e => ?_) hm2) old3
    rw [sb.2 b fun z => hb' (z ▸ List.mem_cons_self)]
    exact e
theorem set_of_tups {q : Addr} {ys : Array Value} {ks : List AK} {Q : Value → Shared → Prop}
    (calm : A.handled = none) (hq : s.heap.IsList q ys) (hx : ys.toList = ks.map fun p => Value.ref p.1) (tups : ∀ p ∈ ks, IsT prog w s.heap p.2 p.1) (few : FewK ks) (room : A.units + 3 < cLine)
    (k : ∀ (h' : Heap) (tk : Nat) L es ep t, L2.Got ks ks.length L → SetTR prog w h' s.heap.objs.size L es ep t →
      (∀ b o, s.heap.get? b = some o → h'.get? b = some o) → Q (.ref s.heap.objs.size) { s with heap := h', toks := tk }) :
    wpAny (model prog w) A (call (.type "set") [.ref q]) Q E s := by
  obtain ⟨c, tl, hmro⟩ := PySem.F.called_set.mro
  have hmade := PySem.F.called_set.made
  have hsub := PySem.F.called_set.sub
  refine wpAny_call (codeAny_of_tree ?_)
  show wpAny _ _ (callAny (.type "set") _) _ _ _
  refine wpAny_pure ⟨Code.quiet_builtin _ (by decide +kernel), codeAny_builtin PySem.F.entry_type_call ?_⟩
  rw [Around.under_plain (weight_type_call_type "set" [.ref q] []) rfl]
  have h1 := PySem.F.called_set.notType
  have h2 := PySem.F.called_set.canCreate
  have hct := PySem.F.typeCall_set_1 (.ref q)
  repeat (any_goals (first | assumption | wp_step))
  obtain ⟨nw, enw⟩ : ∃ nw : Obj, nw = { cls := .type "set", dict := none, data := .set #[] 0 (.fresh 0 0 (!w.params.followText "set-order")) } := ⟨_, rfl⟩
  refine codeAny_mono (code_set_led1 (.ref q) (E := E) (Q₁ := fun obj s₁ => obj = .ref s.heap.objs.size ∧ s₁ = { s with heap := s.heap.push nw }) ⟨rfl, by rw [enw]⟩) fun r s₁ hr => ?_
  cases r with
  | error e => exact hr
  | ok fl =>
    cases fl with
    | ret obj =>
      obtain ⟨rfl, rfl⟩ := hr
      have hS : (s.heap.push nw).get? s.heap.objs.size = some nw := Heap.get?_push_size _ (by rw [enw]; rfl)
      have hT : Shared.TypeIs { s with heap := s.heap.push nw } (.ref s.heap.objs.size) "set" := ⟨_, hS, by rw [enw]⟩
      have hli := PySem.F.called_set.init.lookup
      have hbi := PySem.F.called_set.init.bind (.ref s.heap.objs.size)
      repeat (any_goals (first | assumption | wp_step))
      refine codeAny_mono (codeAny_call_builtin (R := wants (fun r s₂ => r = .none ∧ ∃ h' tk L es ep t, s₂ = { s with heap := h', toks := tk } ∧ L2.Got ks ks.length L ∧
          SetTR prog w h' s.heap.objs.size L es ep t ∧
          (∀ b o, s.heap.get? b = some o → h'.get? b = some o)) E) PySem.F.called_set.init.plain PySem.F.entry_set_init (check_set_init_1 hT ?_)) fun r₂ s₂ hr₂ => ?_
      · have push : ∀ b o, s.heap.get? b = some o → (s.heap.push nw).get? b = some o := fun b o e => Heap.get?_push_of_some _ e
        have isl : ∀ od nl sl, (s.heap.push nw).get? q = some { cls := .type "list", dict := od, data := .seq ys nl, slots := sl } → (s.heap.push nw).IsList q ys := fun _ nl _ e => ⟨_, e, rfl, nl, rfl⟩
        subst enw
        obtain ⟨ol, hol, hcl, nl, hdl⟩ := hq
        obtain ⟨ocls, odict, odata, oslots⟩ := ol
        simp only at hcl hdl
        subst hcl; subst hdl
        have hol' := push _ _ hol
        have hsls := PySem.F.sub_list_set
        have hslf := PySem.F.sub_list_frozenset
        have hne : (Value.type "list" == Value.type "dict") = false := by decide
        have hl1 := isl _ _ _ hol'
        unfold Builtin.«set.__init__» noKeywords Builtin.Frozenset.updateFrom
        generalize hPI : pyIter = PI
        wp_walk
        subst hPI
        refine wpAny_pyIter_list hl1 ?_
        refine wpAny_bind (wpAny_runValue ?_)
        have qS : q < s.heap.objs.size := Heap.lt_size hol
        have calm3 : A.in1.in1.in1.handled = none := by simp [calm]
        have z1 : ∀ o : Obj, (s.heap.push o).objs.size = s.heap.objs.size + 1 := fun o => Heap.size_push ..
        have qI : q ≠ s.heap.objs.size + 1 := by
          exact Nat.ne_of_lt (Nat.lt_succ_of_lt qS)
        have away : s.heap.objs.size ∉ [s.heap.objs.size + 1, q] := by
          simp only [List.mem_cons, List.mem_singleton, List.not_mem_nil, or_false, not_or]
          exact ⟨Nat.ne_of_lt (Nat.lt_succ_self _), Nat.ne_of_gt qS⟩
        have sz : ks.length = ys.size := by
          have e := congrArg List.length hx
          rw [Array.length_toList, List.length_map] at e
          exact e.symm
        have rd : ∀ (i : Nat) (v : Value), ys[i]? = some v → ∃ p, v = .ref p.1 ∧ ks[i]? = some p := fun i v hv => by
          have e : (ks.map fun p => Value.ref p.1)[i]? = some v := by rw [← hx, Array.getElem?_toList]; exact hv
          rw [List.getElem?_map] at e
          cases ek : ks[i]? with
          | none => rw [ek] at e; cases e
          | some p =>
            rw [ek] at e
            exact ⟨p, (Option.some.inj e).symm, rfl⟩
        have gone : ∀ b, s.heap.objs.size ≤ b → s.heap.get? b = none := fun b hb => by
          cases e : s.heap.get? b with
          | none => rfl
          | some o =>
            exact absurd (Heap.lt_size e) (Nat.not_lt_of_le hb)
        refine tups_loop (hb := s.heap) ((Walks.list calm3 _ q (by rw [z1]; exact qI) ys).toS) (by rw [z1]; exact away) sz few rd tups (gone _ (Nat.le_refl _)) (fun b hb => gone b ?_) room ys.size 0 _ (by omega)
          ⟨⟨_, Heap.get?_push_size _ (by rfl), rfl, rfl⟩, (hl1.push _)⟩ (fun b o e => Heap.get?_push_of_some _ (Heap.get?_push_of_some _ e)) ?start ?end_
        · rw [List.mem_singleton.mp hb, z1]
          exact Nat.le_succ _
        case start =>
          refine ⟨[], #[], 0, _, L2.Got.zero ks, setTR_fresh (Heap.get?_push_of_some _ hS)⟩
        case end_ =>
          intro s' L es ep t g hS' hm old
          obtain ⟨h', g', d', tk', os'⟩ := s'
          cases (show g' = s.gens from hm.gens)
          cases (show d' = s.drawn from hm.drawn)
          cases (show os' = s.os from hm.os)
          show wpAny _ _ _ _ _ _
          refine wpAny_pure ?_
          show wpAny _ _ (ret Value.none) _ _ _
          rw [← sz] at g
          exact wpAny_pure ⟨rfl, h', tk', L, es, ep, t, rfl, g, hS', old⟩
      · cases r₂ with
        | error e => exact hr₂
        | ok fl₂ =>
          cases fl₂ with
          | ret r =>
            obtain ⟨rfl, h', tk, L, es, ep, t, rfl, g, hS', old⟩ := hr₂
            repeat (any_goals (first | assumption | wp_step))
            exact k _ _ L es ep t g hS' old
          | _ => exact hr₂.elim
    | _ => exact hr.elim
end
section
variable {X : Cx}
def rSetTf (K : PySem.W.Frag) (P : Program) (w : World) : List V → Hp → VK → Prop := fun vs H Q => ∃ (l : Addr) (ks : List AK), vs = [V.ref l] ∧ SqL K H l (ks.map fun p => V.ref p.1) ∧ (∀ p ∈ ks, SqT K H p.1 (p.2.map V.int)) ∧ FewK ks ∧
  ∀ a L, H a = none → (∀ p ∈ L, p ∈ ks) → (∀ p ∈ ks, p.2 ∈ L.map (·.2)) → Q (.ref a) (upd H a (SetTO P w a L))
theorem cr_setTf (hc : X.calm = true) (hu : X.A.units + 64 < cLine) : CallR X (.type "set") (rSetTf X.K X.prog X.w) := by
  intro pins s σ H vs us Q I r h
  obtain ⟨l, ks, rfl, hl, hk, few, q⟩ := h
  rw [Vals.ref1 r]
  obtain ⟨its, rv, pl, _⟩ := I.list hl
  refine set_of_tups (prog := X.prog) (w := X.w) (I.ok.hd hc) pl.isList (by simpa using refs_of_vals rv) (fun p hp => I.isT (hk p hp)) few (by omega) fun h' tk L es ep t g R k => ?_
  refine ⟨.ref s.heap.objs.size, upd H s.heap.objs.size (SetTO X.prog X.w s.heap.objs.size L), I.laid (t' := tk) k (Nat.le_refl _) (setTO_new R.t0), rfl, ?_⟩
  exact q _ L (I.hok.fresh (Nat.le_refl _)) (fun p hp => List.mem_of_mem_take (g.sub p hp)) fun p hp => g.all p (by rw [List.take_length]; exact hp)
end
end My
set_option maxHeartbeats 4000000
namespace My
open PySem L2 PyProof.Rows
def TupAt (H : Hp) (p : Addr) (e : Nat × Nat) : Prop := H p = some (.tup [.int (e.1 : Int), .int (e.2 : Int)])
def TiesAt (H : Hp) (t : Addr) (ts : List (Nat × Nat)) : Prop := ∃ tas : List Addr, H t = some (.lst (tas.map V.ref)) ∧ Paired (TupAt H) tas ts
theorem TiesAt.same {H H' : Hp} {t : Addr} {ts : List (Nat × Nat)} (h : TiesAt H t ts) (s : Same H H') : TiesAt H' t ts := by
  obtain ⟨tas, h1, h2⟩ := h
  exact ⟨tas, s _ _ h1, paired_mono (fun p e hp => s _ _ hp) h2⟩
theorem TiesAt.at_ {H : Hp} {l : Addr} {ts : List (Nat × Nat)} (h : TiesAt H l ts) {x : Nat} {e : Nat × Nat} (hx : ts[x]? = some e) : ∃ xs p, H l = some (.lst xs) ∧ atI xs (x : Int) = some (.ref p) ∧ H p = some (.tup [.int (e.1 : Int), .int (e.2 : Int)]) := by
  obtain ⟨tas, h1, h2⟩ := h
  have hl := paired_len h2
  have hx2 := (List.getElem?_eq_some_iff.mp hx).1
  have e1 : tas[x]? = some (tas[x]'(by omega)) := List.getElem?_eq_getElem _
  obtain ⟨f, hf, hp⟩ := paired_get h2 e1
  rw [hx] at hf
  cases hf
  refine ⟨_, _, h1, atI_nat ?_, hp⟩
  rw [List.getElem?_map, e1]
  rfl
theorem TiesAt.kept {H H' : Hp} {a t : Addr} {ts : List (Nat × Nat)} (h : TiesAt H t ts) (k : Kept a H H') (hp : PotAt H a) (hn : t ≠ a) : TiesAt H' t ts := by
  obtain ⟨tas, h1, h2⟩ := h
  exact ⟨tas, k _ _ h1 hn, paired_mono (fun p e hq => k _ _ hq (hp.ntup hq)) h2⟩
theorem paired_app {α β : Type} {F : α → β → Prop} {a : α} {b : β} : ∀ {l1 : List α} {l2 : List β}, Paired F l1 l2 → F a b → Paired F (l1 ++ [a]) (l2 ++ [b])
  | _, _, .nil, h => .cons h .nil
  | _, _, .cons r t, h => .cons r (paired_app t h)
theorem paired_apps {α β : Type} {F : α → β → Prop} : ∀ {l1 m1 : List α} {l2 m2 : List β}, Paired F l1 l2 → Paired F m1 m2 → Paired F (l1 ++ m1) (l2 ++ m2)
  | _, _, _, _, .nil, h => h
  | _, _, _, _, .cons r t, h => .cons r (paired_apps t h)
theorem TiesAt.push {H : Hp} {p tp : Addr} {ts : List (Nat × Nat)} {u v : Nat} (h : TiesAt H p ts) (nt : H tp = none) :
    ∃ xs, (upd H tp (.tup [.int (u : Int), .int (v : Int)])) p = some (.lst xs) ∧ xs.length = ts.length ∧ TiesAt (upd (upd H tp (.tup [.int (u : Int), .int (v : Int)])) p (.lst (xs ++ [.ref tp]))) p (ts ++ [(u, v)]) := by
  obtain ⟨tas, h1, h2⟩ := h
  have npt : p ≠ tp := ne_of_none h1 nt
  refine ⟨tas.map V.ref, by rw [upd_ne npt]; exact h1, by rw [List.length_map]; exact paired_len h2, tas ++ [tp], by rw [upd_same, List.map_append]; rfl, paired_app (paired_mono (fun q e hq => ?_) h2) ?_⟩
  · have nqp : q ≠ p := ne_of hq h1 (by intro z; cases z)
    show upd _ _ _ q = _
    rw [upd_ne nqp, upd_ne (ne_of_none hq nt)]
    exact hq
  · show upd _ _ _ tp = _
    rw [upd_ne npt.symm, upd_same]
theorem TiesAt.pushV {H : Hp} {p tp : Addr} {ts : List (Nat × Nat)} {u v : Nat} {x y : V} (hx : x = .int (u : Int)) (hy : y = .int (v : Int)) (h : TiesAt H p ts) (nt : H tp = none) :
    ∃ xs, (upd H tp (.tup [x, y])) p = some (.lst xs) ∧ xs.length = ts.length ∧ TiesAt (upd (upd H tp (.tup [x, y])) p (.lst (xs ++ [.ref tp]))) p (ts ++ [(u, v)]) := by
  subst hx hy
  exact h.push nt
theorem TiesAt.nil {H : Hp} {p : Addr} : TiesAt (upd H p (.lst [])) p [] := ⟨[], upd_same, .nil⟩
theorem TiesAt.get {H : Hp} {l : Addr} {ts : List (Nat × Nat)} (h : TiesAt H l ts) : ∃ xs, H l = some (.lst xs) ∧ xs.length = ts.length := by
  obtain ⟨tas, h1, h2⟩ := h
  exact ⟨_, h1, by rw [List.length_map]; exact paired_len h2⟩
theorem TiesAt.pushRef {H : Hp} {l p : Addr} {ts : List (Nat × Nat)} {xs : List V} {e : Nat × Nat} (h : TiesAt H l ts) (hx : H l = some (.lst xs)) (hp : TupAt H p e) : TiesAt (upd H l (.lst (xs ++ [.ref p]))) l (ts ++ [e]) := by
  obtain ⟨tas, h1, h2⟩ := h
  rw [hx] at h1
  cases h1
  have key : ∀ (q : Addr) (f : Nat × Nat), TupAt H q f → TupAt (upd H l (.lst (tas.map V.ref ++ [.ref p]))) q f := fun q f hq => by
    show upd _ _ _ q = _
    rw [upd_ne (ne_of hq hx (by intro z; cases z))]
    exact hq
  exact ⟨tas ++ [p], by rw [upd_same, List.map_append]; rfl, paired_app (paired_mono key h2) (key _ _ hp)⟩
theorem TiesAt.app {H : Hp} {l m p : Addr} {ts us : List (Nat × Nat)} {xs zs : List V} (h : TiesAt H l ts) (k : TiesAt H m us) (hx : H l = some (.lst xs)) (hz : H m = some (.lst zs)) (hp : H p = some (.lst (xs ++ zs))) : TiesAt H p (ts ++ us) := by
  obtain ⟨tas, h1, h2⟩ := h
  obtain ⟨uas, k1, k2⟩ := k
  rw [hx] at h1
  rw [hz] at k1
  cases h1
  cases k1
  exact ⟨tas ++ uas, by rw [hp, List.map_append], paired_apps h2 k2⟩
/-- the places of texts -/
def rowP (TS : List (List Nat)) (n : Nat) : List (Nat × Nat) := (List.range (TS.getD n []).length).map fun p => (n, p)
def plcN (TS : List (List Nat)) (i : Nat) : List (Nat × Nat) := (List.range i).flatMap (rowP TS)
abbrev plc (TS : List (List Nat)) : List (Nat × Nat) := plcN TS TS.length
theorem plcN_succ (TS : List (List Nat)) (i : Nat) : plcN TS (i + 1) = plcN TS i ++ rowP TS i := by
  unfold plcN
  rw [List.range_succ, List.flatMap_append]
  congr 1
  show rowP TS i ++ [] = _
  rw [List.append_nil]
theorem plcN_len (TS : List (List Nat)) : ∀ i, i ≤ TS.length → (plcN TS i).length = ((TS.take i).map List.length).sum
  | 0, _ => rfl
  | i + 1, h => by
    rw [plcN_succ, List.length_append, plcN_len TS i (by omega), List.take_succ, List.getElem?_eq_getElem (by omega), Option.toList_some, List.map_append, List.sum_append]
    unfold rowP
    rw [List.length_map, List.length_range, List.getD_eq_getElem?_getD, List.getElem?_eq_getElem (by omega)]
    simp
theorem sum_take (L : List Nat) (i : Nat) : (L.take i).sum ≤ L.sum := by
  have e : L.sum = (L.take i).sum + (L.drop i).sum := by rw [← List.sum_append, List.take_append_drop]
  omega
theorem plcN_le {TS : List (List Nat)} (ho : OkX TS) {i : Nat} (h : i ≤ TS.length) : (plcN TS i).length ≤ 400 := by
  rw [plcN_len TS i h, List.map_take]
  exact Nat.le_trans (sum_take _ _) ho.sum
theorem plc_mem {TS : List (List Nat)} {e : Nat × Nat} : e ∈ plc TS ↔ e.1 < TS.length ∧ e.2 < (TS.getD e.1 []).length := by
  unfold plc plcN rowP
  rw [List.mem_flatMap]
  constructor
  · rintro ⟨n, hn, h⟩
    obtain ⟨p, hp, rfl⟩ := List.mem_map.mp h
    exact ⟨List.mem_range.mp hn, List.mem_range.mp hp⟩
  · rintro ⟨h1, h2⟩
    exact ⟨e.1, List.mem_range.mpr h1, List.mem_map.mpr ⟨e.2, List.mem_range.mpr h2, rfl⟩⟩
section
variable {P : Program} {w : World} {K : PySem.W.Frag} {mg : Str → Option Value} {base : Heap} {C : Addr}
def sp_places_in (_ : PySem.W.Frag) (_ : Addr) : Sp := fun vs H Q _ => ∃ l TS, vs = [.ref l] ∧ TxAt H l TS ∧ OkX TS ∧ ∀ H' p, H p = none → Same H H' → TiesAt H' p (plc TS) → Q (.ref p) H'
theorem ok_places_in (D : Def K mg "_places_in" s_places_in ["texts"]) (B : Bs mg) (Glb : Glo mg) (WK : WebK K mg C) :
    Good P w K mg base "_places_in" s_places_in ["texts"] 1 (sp_places_in K C) := by
  refine D.good fun f fd F => ?_
  refine F.ok sc_places_in (fun vs H Q E h => ?_) (fun cdv A outer s H vs Q E hr h => ?_)
  · obtain ⟨l, TS, rfl, hl, ho, q⟩ := h
    first | rfl | (rcases h with ⟨_, _, rfl, _⟩ | ⟨_, rfl, _⟩ <;> rfl)
  obtain ⟨l, TS, rfl, hl, ho, q⟩ := h
  refine ⟨_, (pss_one (ps_ret (pe_lc2 (own := [("number", 1), ("text", 2), ("place", 3)]) (vs1 := [3]) (g := gTup K 2 (gCons (gName 1) (gCons (gName 2) gNil))) (g1 := gName 3) (by rfl) sc_places_in.nd (pi_or (pi_enum (by rfl) B.enumerate (pa_cons (pv 0) pa_nil)) (pi_enumT (by rfl) B.enumerate (pa_cons (pv 0) pa_nil))) (blkOk_by (own := [("number", 1), ("text", 2), ("place", 3)]) (N := ["texts", "number", "text", "place"]) (sc := defScope s_places_in) (by decide +kernel)) (by decide) (fun _ _ _ _ _ => (pg_tup rfl (pgs_cons (pg_name (i := 1) sc_places_in.nd rfl (by first | exact Or.inl rfl | exact Or.inr rfl)) (pgs_cons (pg_name (i := 2) sc_places_in.nd rfl (by first | exact Or.inl rfl | exact Or.inr rfl)) pgs_nil)))) (fun _ _ _ _ _ => pts_nil) (fun _ _ _ _ _ => (pi_range1 (by rfl) B.range (pa_cons (pe_callB call_len_str (by rfl) B.len (by decide +kernel) (pa_cons (pv 2) pa_nil)) pa_nil))) (fun _ _ _ _ _ => (pg_name (i := 3) sc_places_in.nd rfl (by first | exact Or.inl rfl | exact Or.inr rfl))) (fun _ _ _ _ _ => pts_nil) (fun _ _ _ _ _ => (pe_tup (pa_cons (pv 1) (pa_cons (pv 3) pa_nil))))))), ?_⟩
  have n2 := ho.n2
  rcases hl with hl | hl
  · refine .inl ⟨_, rfl, l, _, rfl, SqL.of hl, fun D nD => ?_⟩
    refine it_any (walk_enum (K := K) (a := l) (xs := tv TS)) (fun i H' => Same H H' ∧ TiesAt H' D (plcN TS i)) ⟨same_new nD _, TiesAt.nil⟩ (fun i H' _ ⟨hS', _⟩ => SqL.of (hS' _ _ hl)) ?_ ?_
    · rintro i x H2 H3 hi ⟨hS2, hD2⟩ ⟨TP, c1, c2, rfl, nTP, rfl, e1, e2⟩
      replace e1 : some (V.int (i : Int)) = some c1 := e1
      cases e1
      replace e2 : (tv TS)[i]? = some c2 := e2
      obtain ⟨t, ht, rfl⟩ := tv_at e2
      have hil := (List.getElem?_eq_some_iff.mp ht).1
      have htl := (ho.tx t (List.mem_of_getElem? ht)).len
      rw [T_len] at htl
      have et : TS.getD i [] = t := by rw [List.getD_eq_getElem?_getD, ht]; rfl
      have hT3 : upd H2 TP (.tup [V.int (i : Int), T t]) TP = some (.tup [V.int (i : Int), T t]) := upd_same
      have hS3 := hS2.trans (same_new nTP (.tup [V.int (i : Int), T t]))
      have hD3 := hD2.same (same_new nTP (.tup [V.int (i : Int), T t]))
      generalize upd H2 TP (.tup [V.int (i : Int), T t]) = H3 at hT3 hS3 hD3
      have hle := plcN_le ho (i := i + 1) (by omega)
      rw [plcN_succ, List.length_append] at hle
      unfold rowP at hle
      rw [et, List.length_map, List.length_range] at hle
      refine ⟨TP, _, rfl, SqT.of hT3, rfl, _, _, rfl, _, _, rfl, rfl, rfl, ?_⟩
      refine ⟨_, rfl, _, rfl, T_line (by omega), _, rfl, by rw [T_len]; omega, by rw [T_len]; omega, ?_⟩
      rw [T_len, show ((t.length : Nat) : Int).toNat = t.length by omega]
      refine it_any (walk_range (lo := 0) (n := t.length)) (fun j H' => Same H H' ∧ TiesAt H' D (plcN TS i ++ (List.range j).map fun p => (i, p))) ⟨hS3, by rw [List.range_zero, List.map_nil, List.append_nil]; exact hD3⟩ (fun _ _ _ _ => trivial) ?_ ?_
      · rintro j x H4 _ hj ⟨hS4, hD4⟩ ⟨rfl, rfl⟩
        refine ⟨rfl, _, rfl, _, rfl, (by show 2 ≤ sizeLine; decide), fun tp ntp => ?_⟩
        obtain ⟨xs, g1, g2, g3⟩ := hD4.pushV (u := i) (v := j) (x := V.int (i : Int)) (y := V.int (0 + (j : Int))) rfl (by rw [Int.zero_add]) ntp
        refine ⟨xs, g1, ?_, same_upd (hS4.trans (same_new ntp _)) nD, ?_⟩
        · rw [g2, List.length_append, List.length_map, List.length_range]
          exact sml1000 (by omega)
        · rw [List.range_succ, List.map_append, ← List.append_assoc]
          exact g3
      · rintro H4 ⟨hS4, hD4⟩
        refine ⟨hS4, ?_⟩
        rw [plcN_succ]
        unfold rowP
        rw [et]
        exact hD4
    · rintro H4 ⟨hS4, hD4⟩
      rw [List.length_map] at hD4
      exact q H4 D nD hS4 hD4
  · refine .inr ⟨_, rfl, l, _, rfl, SqT.of hl, fun D nD => ?_⟩
    refine it_any (walk_enumT (K := K) (a := l) (xs := tv TS)) (fun i H' => Same H H' ∧ TiesAt H' D (plcN TS i)) ⟨same_new nD _, TiesAt.nil⟩ (fun i H' _ ⟨hS', _⟩ => SqT.of (hS' _ _ hl)) ?_ ?_
    · rintro i x H2 H3 hi ⟨hS2, hD2⟩ ⟨TP, c1, c2, rfl, nTP, rfl, e1, e2⟩
      replace e1 : some (V.int (i : Int)) = some c1 := e1
      cases e1
      replace e2 : (tv TS)[i]? = some c2 := e2
      obtain ⟨t, ht, rfl⟩ := tv_at e2
      have hil := (List.getElem?_eq_some_iff.mp ht).1
      have htl := (ho.tx t (List.mem_of_getElem? ht)).len
      rw [T_len] at htl
      have et : TS.getD i [] = t := by rw [List.getD_eq_getElem?_getD, ht]; rfl
      have hT3 : upd H2 TP (.tup [V.int (i : Int), T t]) TP = some (.tup [V.int (i : Int), T t]) := upd_same
      have hS3 := hS2.trans (same_new nTP (.tup [V.int (i : Int), T t]))
      have hD3 := hD2.same (same_new nTP (.tup [V.int (i : Int), T t]))
      generalize upd H2 TP (.tup [V.int (i : Int), T t]) = H3 at hT3 hS3 hD3
      have hle := plcN_le ho (i := i + 1) (by omega)
      rw [plcN_succ, List.length_append] at hle
      unfold rowP at hle
      rw [et, List.length_map, List.length_range] at hle
      refine ⟨TP, _, rfl, SqT.of hT3, rfl, _, _, rfl, _, _, rfl, rfl, rfl, ?_⟩
      refine ⟨_, rfl, _, rfl, T_line (by omega), _, rfl, by rw [T_len]; omega, by rw [T_len]; omega, ?_⟩
      rw [T_len, show ((t.length : Nat) : Int).toNat = t.length by omega]
      refine it_any (walk_range (lo := 0) (n := t.length)) (fun j H' => Same H H' ∧ TiesAt H' D (plcN TS i ++ (List.range j).map fun p => (i, p))) ⟨hS3, by rw [List.range_zero, List.map_nil, List.append_nil]; exact hD3⟩ (fun _ _ _ _ => trivial) ?_ ?_
      · rintro j x H4 _ hj ⟨hS4, hD4⟩ ⟨rfl, rfl⟩
        refine ⟨rfl, _, rfl, _, rfl, (by show 2 ≤ sizeLine; decide), fun tp ntp => ?_⟩
        obtain ⟨xs, g1, g2, g3⟩ := hD4.pushV (u := i) (v := j) (x := V.int (i : Int)) (y := V.int (0 + (j : Int))) rfl (by rw [Int.zero_add]) ntp
        refine ⟨xs, g1, ?_, same_upd (hS4.trans (same_new ntp _)) nD, ?_⟩
        · rw [g2, List.length_append, List.length_map, List.length_range]
          exact sml1000 (by omega)
        · rw [List.range_succ, List.map_append, ← List.append_assoc]
          exact g3
      · rintro H4 ⟨hS4, hD4⟩
        refine ⟨hS4, ?_⟩
        rw [plcN_succ]
        unfold rowP
        rw [et]
        exact hD4
    · rintro H4 ⟨hS4, hD4⟩
      rw [List.length_map] at hD4
      exact q H4 D nD hS4 hD4
end
end My
set_option maxHeartbeats 4000000
namespace My
open PySem L2 PyProof.Rows
theorem TxAt.ix {K : PySem.W.Frag} {H : Hp} {l : Addr} {TS : List (List Nat)} {n : Nat} {v : V} {Q : VK} (hl : TxAt H l TS) (ht : (tv TS)[n]? = some v) (q : Q v H) : rIx K (.ref l) (.int (n : Int)) H Q := by
  rcases hl with h | h
  · exact .inl ⟨_, _, _, v, rfl, rfl, SqL.of h, atI_nat ht, q⟩
  · exact .inr (.inl ⟨_, _, _, v, rfl, rfl, SqT.of h, atI_nat ht, q⟩)
/-- what is read from a place on -/
def rst (TS : List (List Nat)) (e : Nat × Nat) : List Nat := (TS.getD e.1 []).drop e.2
abbrev Rd3 := List Nat × Nat × Nat
def encR (z : Rd3) : PyData := .tuple [.str (tS z.1), .int (z.2.1 : Int), .int (z.2.2 : Int)]
theorem encR_ok : EncOk encR := by
  refine ⟨fun a b => rfl, fun a b h => ?_, fun a => ⟨_, _, rfl⟩, fun a => ?_⟩
  · have h : ((tS a.1 == tS b.1) && (((a.2.1 : Int) == (b.2.1 : Int)) && (((a.2.2 : Int) == (b.2.2 : Int)) && true))) = true := h
    simp only [Bool.and_eq_true, beq_iff_eq, and_true] at h
    exact Prod.ext (tS_inj h.1) (Prod.ext (by show a.2.1 = b.2.1; omega) (by show a.2.2 = b.2.2; omega))
  · show PyData.depth (.tuple [.str (tS a.1), .int (a.2.1 : Int), .int (a.2.2 : Int)]) ≤ 8
    simp [PyData.depth, PyData.depthAll]
def R3At (H : Hp) (p : Addr) (z : Rd3) : Prop := H p = some (.tup [T z.1, .int (z.2.1 : Int), .int (z.2.2 : Int)])
def R3s (H : Hp) (l : Addr) (Z : List Rd3) : Prop := ∃ as : List Addr, H l = some (.lst (as.map V.ref)) ∧ Paired (R3At H) as Z
theorem R3s.same {H H' : Hp} {l : Addr} {Z : List Rd3} (h : R3s H l Z) (s : Same H H') : R3s H' l Z := by
  obtain ⟨as, h1, h2⟩ := h
  exact ⟨as, s _ _ h1, paired_mono (fun p z h => s _ _ h) h2⟩
theorem R3s.nil {H : Hp} {p : Addr} : R3s (upd H p (.lst [])) p [] := ⟨[], upd_same, .nil⟩
theorem R3s.add {H : Hp} {l p : Addr} {Z : List Rd3} {z : Rd3} (h : R3s H l Z) (hp : R3At H p z) : ∃ xs, H l = some (.lst xs) ∧ xs.length = Z.length ∧ R3s (upd H l (.lst (xs ++ [.ref p]))) l (Z ++ [z]) := by
  obtain ⟨as, h1, h2⟩ := h
  have over : ∀ (q : Addr) (y : Rd3), R3At H q y → R3At (upd H l (.lst (as.map V.ref ++ [.ref p]))) q y := fun q y hq => by
    show upd _ _ _ q = _
    rw [upd_ne (ne_of hq h1 (fun z => nomatch z))]
    exact hq
  exact ⟨as.map V.ref, h1, by rw [List.length_map]; exact paired_len h2, as ++ [p], by rw [upd_same, List.map_append]; rfl, paired_app (paired_mono over h2) (over _ _ hp)⟩
theorem dp_r3 {K : PySem.W.Frag} {H : Hp} {p : Addr} {z : Rd3} (h : R3At H p z) : Dp K H (.ref p) (encR z) := .tup (SqT.of h) (.cons (.str _) (.cons (.int _) (.cons (.int _) .nil)))
def readsP (TS : List (List Nat)) (L : List (Nat × Nat)) : List Rd3 := L.map fun e => (rst TS e, e.1, e.2)
/-- the rows -/
def rowsT (TS : List (List Nat)) : List (Nat × Nat) := (sortE encR (readsP TS (plc TS))).map fun z => (z.2.1, z.2.2)
section
variable {P : Program} {w : World} {K : PySem.W.Frag} {mg : Str → Option Value} {base : Heap} {C : Addr}
def sp_sorted_places (_ : PySem.W.Frag) (_ : Addr) : Sp := fun vs H Q _ => ∃ l TS, vs = [.ref l] ∧ TxAt H l TS ∧ OkX TS ∧ ∀ H' p, H p = none → Same H H' → TiesAt H' p (rowsT TS) → Q (.ref p) H'
theorem ok_sorted_places (D : Def K mg "_sorted_places" s_sorted_places ["texts"]) (B : Bs mg) (Glb : Glo mg) (WK : WebK K mg C)
    (h_places_in : Good P w K mg base "_places_in" s_places_in ["texts"] 1 (sp_places_in K C)) :
    Good P w K mg base "_sorted_places" s_sorted_places ["texts"] 2 (sp_sorted_places K C) := by
  refine D.good fun f fd F => ?_
  obtain ⟨f_places_in, d_places_in, O_places_in, m_places_in, k_places_in, b_places_in, F_places_in⟩ := h_places_in
  refine F.ok sc_sorted_places (fun vs H Q E h => ?_) (fun cdv A outer s H vs Q E hr h => ?_)
  · obtain ⟨l, TS, rfl, hl, ho, q⟩ := h
    first | rfl | (rcases h with ⟨_, _, rfl, _⟩ | ⟨_, rfl, _⟩ <;> rfl)
  obtain ⟨l, TS, rfl, hl, ho, q⟩ := h
  refine ⟨_, (pss_cons (ps_setLc (i := 1) (own := [("number", 2), ("place", 3)]) (g := gTup K 2 (gCons (gName 2) (gCons (gName 3) gNil))) (by rfl) sc_sorted_places.nd rfl rfl (sw_true rfl rfl rfl (by decide +kernel)) (pi_list (pe_call O_places_in hr rfl m_places_in k_places_in b_places_in .nil pass0 (pa_cons (pv 0) pa_nil))) (blkOk_by (own := [("number", 2), ("place", 3)]) (N := ["texts", "read", "number", "place", "_"]) (sc := defScope s_sorted_places) (by decide +kernel)) (fun _ _ _ _ _ => (pg_tup rfl (pgs_cons (pg_name (i := 2) sc_sorted_places.nd rfl (by first | exact Or.inl rfl | exact Or.inr rfl)) (pgs_cons (pg_name (i := 3) sc_sorted_places.nd rfl (by first | exact Or.inl rfl | exact Or.inr rfl)) pgs_nil)))) (fun _ _ _ _ _ => pts_nil) (fun _ _ _ _ _ => (pe_tup (pa_cons (pe_slice sl_str (pe_ix (ix_seqK (K := K) rfl) (pv 0) (pv 2) (by exact fun _ _ => rfl)) (po_some (pv 3)) po_none) (pa_cons (pv 2) (pa_cons (pv 3) pa_nil))))))
  (pss_one (ps_ret (pe_lc (own := [("_", 4), ("number", 2), ("place", 3)]) (g := gTup K 3 (gCons (gName 4) (gCons (gName 2) (gCons (gName 3) gNil)))) (by rfl) sc_sorted_places.nd (pi_list (pe_callB (cr_sortD hr.units) (by rfl) B.sorted (by decide +kernel) (pa_cons (pv 1) pa_nil))) (blkOk_by (own := [("_", 4), ("number", 2), ("place", 3)]) (N := ["texts", "read", "number", "place", "_"]) (sc := defScope s_sorted_places) (by decide +kernel)) (fun _ _ _ _ _ => (pg_tup rfl (pgs_cons (pg_name (i := 4) sc_sorted_places.nd rfl (by first | exact Or.inl rfl | exact Or.inr rfl)) (pgs_cons (pg_name (i := 2) sc_sorted_places.nd rfl (by first | exact Or.inl rfl | exact Or.inr rfl)) (pgs_cons (pg_name (i := 3) sc_sorted_places.nd rfl (by first | exact Or.inl rfl | exact Or.inr rfl)) pgs_nil))))) (fun _ _ _ _ _ => pts_nil) (fun _ _ _ _ _ => (pe_tup (pa_cons (pv 2) (pa_cons (pv 3) pa_nil)))))))), ?_⟩
  refine ⟨_, rfl, l, TS, rfl, hl, ho, fun H1 pl npl hS1 hpl => ?_⟩
  obtain ⟨pas, p1, p2⟩ := id hpl
  have pln := paired_len p2
  have hlen : (plc TS).length ≤ 400 := plcN_le ho (Nat.le_refl _)
  refine ⟨pl, rfl, ⟨_, SqL.of p1⟩, fun D nD => ?_⟩
  refine lc_list (K := K) (a := pl) (xs := pas.map V.ref) (fun i H' => Same H1 H' ∧ R3s H' D (readsP TS ((plc TS).take i))) ⟨same_new nD _, R3s.nil⟩ (fun i H' _ ⟨hS', _⟩ => SqL.of (hS' _ _ p1)) ?_ ?_
  · rintro i x H2 hx ⟨hS2, hD2⟩
    obtain ⟨px, e, rfl, _, he, hpx⟩ := paired_at p2 hx
    obtain ⟨m1, m2⟩ := plc_mem.mp (List.mem_of_getElem? he)
    have hl2 := hl.same (hS1.trans hS2)
    have hpx2 : H2 px = some (.tup [.int (e.1 : Int), .int (e.2 : Int)]) := hS2 _ _ hpx
    have ht : (tv TS)[e.1]? = some (T (TS.getD e.1 [])) := by
      rw [List.getElem?_map, List.getD_eq_getElem?_getD, List.getElem?_eq_getElem m1]
      rfl
    have htl := (ho.tx _ (show TS.getD e.1 [] ∈ TS by rw [List.getD_eq_getElem?_getD, List.getElem?_eq_getElem m1]; exact List.getElem_mem _)).len
    rw [T_len] at htl
    refine ⟨px, _, rfl, SqT.of hpx2, rfl, _, _, rfl, _, _, rfl, rfl, rfl, ?_⟩
    refine ⟨_, rfl, _, rfl, hl2.ix ht ⟨_, rfl, _, rfl, _, rfl, T_line (by omega), ?_⟩⟩
    rw [cut_from]
    refine ⟨_, rfl, _, rfl, (by show 3 ≤ sizeLine; decide), fun tp ntp => ?_⟩
    obtain ⟨xs, g1, g2, g3⟩ := (hD2.same (same_new ntp (.tup [T (rst TS e), .int (e.1 : Int), .int (e.2 : Int)]))).add (p := tp) (z := (rst TS e, e.1, e.2)) upd_same
    refine ⟨xs, g1, ?_, same_upd (hS2.trans (same_new ntp _)) nD, ?_⟩
    · have : (readsP TS ((plc TS).take i)).length ≤ (plc TS).length := by
        unfold readsP
        rw [List.length_map, List.length_take]
        exact Nat.min_le_right _ _
      rw [g2]
      exact sml1000 (Nat.le_trans this (by omega))
    · rw [List.take_succ, he]
      unfold readsP
      rw [List.map_append]
      exact g3
  rintro H2 ⟨hS2, hD2⟩
  rw [List.length_map, pln, List.take_length] at hD2
  obtain ⟨das, d1, d2⟩ := id hD2
  refine ⟨_, rfl, ?_⟩
  have hrl : (readsP TS (plc TS)).length ≤ 400 := by unfold readsP; rw [List.length_map]; exact hlen
  have hsl : (sortE encR (readsP TS (plc TS))).length ≤ 400 := by rw [(sortE_perm _).length_eq]; exact hrl
  dsimp only [tNil]
  refine sort_read encR_ok (SqL.of d1) d2 (fun p e h => dp_r3 h) (by omega) fun us sl hus hsub nsl => ?_
  have hS3 := hS2.trans (same_new nsl (.lst (us.map V.ref)))
  have hus3 := paired_mono (fun p z (h : R3At H2 p z) => (same_new nsl (.lst (us.map V.ref)) _ _ h : R3At (upd H2 sl (.lst (us.map V.ref))) p z)) hus
  have hsl3 : upd H2 sl (.lst (us.map V.ref)) sl = some (.lst (us.map V.ref)) := upd_same
  generalize upd H2 sl (.lst (us.map V.ref)) = H3 at hS3 hus3 hsl3
  have ul := paired_len hus3
  refine ⟨sl, rfl, ⟨_, SqL.of hsl3⟩, fun E1 nE1 => ?_⟩
  refine lc_list (K := K) (a := sl) (xs := us.map V.ref) (fun i H' => Same H3 H' ∧ TiesAt H' E1 (((sortE encR (readsP TS (plc TS))).take i).map fun z => (z.2.1, z.2.2))) ⟨same_new nE1 _, TiesAt.nil⟩ (fun i H' _ ⟨hS', _⟩ => SqL.of (hS' _ _ hsl3)) ?_ ?_
  · rintro i x H4 hx ⟨hS4, hD4⟩
    obtain ⟨px, z, rfl, _, hz, hpx⟩ := paired_at hus3 hx
    refine ⟨px, _, rfl, SqT.of (hS4 _ _ hpx), rfl, _, _, rfl, _, _, rfl, _, _, rfl, rfl, rfl, _, rfl, _, rfl, (by show 2 ≤ sizeLine; decide), fun tp ntp => ?_⟩
    obtain ⟨xs, g1, g2, g3⟩ := hD4.pushV (u := z.2.1) (v := z.2.2) rfl rfl ntp
    refine ⟨xs, g1, ?_, same_upd (hS4.trans (same_new ntp _)) nE1, ?_⟩
    · rw [g2, List.length_map, List.length_take]
      exact sml1000 (by omega)
    · rw [List.take_succ, hz, List.map_append]
      exact g3
  rintro H4 ⟨hS4, hD4⟩
  rw [List.length_map, ul, List.take_length] at hD4
  exact q H4 E1 (((hS1.trans hS3)).free nE1) ((hS1.trans hS3).trans hS4) hD4
end
end My
set_option maxHeartbeats 4000000
namespace My
open PySem L2 PyProof.Rows
theorem R3s.app {H : Hp} {l m : Addr} {Z Y : List Rd3} {xs zs : List V} (h : R3s H l Z) (k : R3s H m Y) (hx : H l = some (.lst xs)) (hz : H m = some (.lst zs)) : R3s (upd H l (.lst (xs ++ zs))) l (Z ++ Y) := by
  obtain ⟨as, h1, h2⟩ := h
  obtain ⟨bs, k1, k2⟩ := k
  rw [hx] at h1
  rw [hz] at k1
  cases h1
  cases k1
  have over : ∀ (q : Addr) (y : Rd3), R3At H q y → R3At (upd H l (.lst (as.map V.ref ++ bs.map V.ref))) q y := fun q y hq => by
    show upd _ _ _ q = _
    rw [upd_ne (ne_of hq hx (fun z => nomatch z))]
    exact hq
  exact ⟨as ++ bs, by rw [upd_same, List.map_append], paired_apps (paired_mono over h2) (paired_mono over k2)⟩
theorem TiesAt.appO {H : Hp} {l m : Addr} {ts us : List (Nat × Nat)} {xs zs : List V} (h : TiesAt H l ts) (k : TiesAt H m us) (hx : H l = some (.lst xs)) (hz : H m = some (.lst zs)) : TiesAt (upd H l (.lst (xs ++ zs))) l (ts ++ us) := by
  obtain ⟨as, h1, h2⟩ := h
  obtain ⟨bs, k1, k2⟩ := k
  rw [hx] at h1
  rw [hz] at k1
  cases h1
  cases k1
  have over : ∀ (q : Addr) (y : Nat × Nat), TupAt H q y → TupAt (upd H l (.lst (as.map V.ref ++ bs.map V.ref))) q y := fun q y hq => by
    show upd _ _ _ q = _
    rw [upd_ne (ne_of hq hx (fun z => nomatch z))]
    exact hq
  exact ⟨as ++ bs, by rw [upd_same, List.map_append], paired_apps (paired_mono over h2) (paired_mono over k2)⟩
theorem readsP_app (TS : List (List Nat)) (A B : List (Nat × Nat)) : readsP TS (A ++ B) = readsP TS A ++ readsP TS B := List.map_append
theorem readsP_len (TS : List (List Nat)) (A : List (Nat × Nat)) : (readsP TS A).length = A.length := List.length_map ..
section
variable {P : Program} {w : World} {K : PySem.W.Frag} {mg : Str → Option Value} {base : Heap} {C : Addr}
def sp_law_rows (_ : PySem.W.Frag) (_ : Addr) : Sp := fun vs H Q _ => ∃ l TS, vs = [.ref l] ∧ H l = some (.lst (tv TS)) ∧ OkX TS ∧ ∀ H' p, H p = none → Same H H' → TiesAt H' p (rowsT TS) → Q (.ref p) H'
theorem ok_law_rows (D : Def K mg "_law_rows" s_law_rows ["_law_texts"]) (B : Bs mg) (Glb : Glo mg) (WK : WebK K mg C) :
    Good P w K mg base "_law_rows" s_law_rows ["_law_texts"] 1 (sp_law_rows K C) := by
  refine D.good fun f fd F => ?_
  refine F.ok sc_law_rows (fun vs H Q E h => ?_) (fun cdv A outer s H vs Q E hr h => ?_)
  · obtain ⟨l, TS, rfl, hl, ho, q⟩ := h
    first | rfl | (rcases h with ⟨_, _, rfl, _⟩ | ⟨_, rfl, _⟩ <;> rfl)
  obtain ⟨l, TS, rfl, hl, ho, q⟩ := h
  refine ⟨_, (pss_cons (ps_set (i := 1) sc_law_rows.nd rfl (by first | exact Or.inl rfl | exact Or.inr rfl) (pe_lst pa_nil))
  (pss_cons (ps_for PassesOwn.never rfl (pi_enum (by rfl) B.enumerate (pa_cons (pv 0) pa_nil)) (pg_tup rfl (pgs_cons (pg_name (i := 2) sc_law_rows.nd rfl (by first | exact Or.inl rfl | exact Or.inr rfl)) (pgs_cons (pg_name (i := 3) sc_law_rows.nd rfl (by first | exact Or.inl rfl | exact Or.inr rfl)) pgs_nil)))
    (pss_one (ps_expr (pe_bm PySem.F.plainAttrs_list PySem.F.slot_list_extend PySem.F.type_list_extend mt_extend (pv 1) (pa_cons (pe_lc (own := [("_law_place", 4)]) (g := gName 4) (by rfl) sc_law_rows.nd (pi_range1 (by rfl) B.range (pa_cons (pe_callB call_len_str (by rfl) B.len (by decide +kernel) (pa_cons (pv 3) pa_nil)) pa_nil)) (blkOk_by (own := [("_law_place", 4)]) (N := ["_law_texts", "_law_found", "_law_number", "_law_text_here", "_law_place", "_law_rest"]) (sc := defScope s_law_rows) (by decide +kernel)) (fun _ _ _ _ _ => (pg_name (i := 4) sc_law_rows.nd rfl (by first | exact Or.inl rfl | exact Or.inr rfl))) (fun _ _ _ _ _ => pts_nil) (fun _ _ _ _ _ => (pe_tup (pa_cons (pe_slice sl_str (pv 3) (po_some (pv 4)) po_none) (pa_cons (pv 2) (pa_cons (pv 4) pa_nil)))))) pa_nil)))))
  (pss_one (ps_ret (pe_lc (own := [("_law_rest", 5), ("_law_number", 2), ("_law_place", 4)]) (g := gTup K 3 (gCons (gName 5) (gCons (gName 2) (gCons (gName 4) gNil)))) (by rfl) sc_law_rows.nd (pi_list (pe_callB (cr_sortD hr.units) (by rfl) B.sorted (by decide +kernel) (pa_cons (pv 1) pa_nil))) (blkOk_by (own := [("_law_rest", 5), ("_law_number", 2), ("_law_place", 4)]) (N := ["_law_texts", "_law_found", "_law_number", "_law_text_here", "_law_place", "_law_rest"]) (sc := defScope s_law_rows) (by decide +kernel)) (fun _ _ _ _ _ => (pg_tup rfl (pgs_cons (pg_name (i := 5) sc_law_rows.nd rfl (by first | exact Or.inl rfl | exact Or.inr rfl)) (pgs_cons (pg_name (i := 2) sc_law_rows.nd rfl (by first | exact Or.inl rfl | exact Or.inr rfl)) (pgs_cons (pg_name (i := 4) sc_law_rows.nd rfl (by first | exact Or.inl rfl | exact Or.inr rfl)) pgs_nil))))) (fun _ _ _ _ _ => pts_nil) (fun _ _ _ _ _ => (pe_tup (pa_cons (pv 2) (pa_cons (pv 4) pa_nil))))))))), ?_⟩
  have n2 := ho.n2
  have hlen : (plc TS).length ≤ 400 := plcN_le ho (Nat.le_refl _)
  refine ⟨Nat.zero_le _, fun F nF => ?_⟩
  have hS1 := same_new nF (.lst [])
  have hF1 : R3s (upd H F (.lst [])) F [] := R3s.nil
  generalize upd H F (.lst []) = H1 at hS1 hF1
  refine ⟨_, rfl, l, _, rfl, SqL.of (hS1 _ _ hl), ?_⟩
  refine for_it (walk_enum (K := K) (a := l) (xs := tv TS)) (fun i σ H' => ∃ v2 v3 v4 : Option V, σ = [some (.ref l), some (.ref F), v2, v3, v4, none] ∧ Same H H' ∧ R3s H' F (readsP TS (plcN TS i))) ⟨none, none, none, rfl, hS1, hF1⟩ (fun i σ H' _ ⟨_, _, _, _, hS', _⟩ => SqL.of (hS' _ _ hl)) ?_ ?_
  · rintro i x σ H2 H3 hi ⟨v2, v3, v4, rfl, hS2, hF2⟩ ⟨TP, c1, c2, rfl, nTP, rfl, e1, e2⟩
    replace e1 : some (V.int (i : Int)) = some c1 := e1
    cases e1
    replace e2 : (tv TS)[i]? = some c2 := e2
    obtain ⟨t, ht, rfl⟩ := tv_at e2
    have hil := (List.getElem?_eq_some_iff.mp ht).1
    have htl := (ho.tx t (List.mem_of_getElem? ht)).len
    rw [T_len] at htl
    have et : TS.getD i [] = t := by rw [List.getD_eq_getElem?_getD, ht]; rfl
    have hT3 : upd H2 TP (.tup [V.int (i : Int), T t]) TP = some (.tup [V.int (i : Int), T t]) := upd_same
    have hS3 := hS2.trans (same_new nTP (.tup [V.int (i : Int), T t]))
    have hF3 := hF2.same (same_new nTP (.tup [V.int (i : Int), T t]))
    generalize upd H2 TP (.tup [V.int (i : Int), T t]) = H3 at hT3 hS3 hF3
    have hle := plcN_le ho (i := i + 1) (by omega)
    rw [plcN_succ, List.length_append] at hle
    have erow : rowP TS i = (List.range t.length).map fun p => (i, p) := by unfold rowP; rw [et]
    rw [erow, List.length_map, List.length_range] at hle
    obtain ⟨fas, f1, f2⟩ := id hF3
    refine ⟨TP, _, rfl, SqT.of hT3, rfl, _, _, rfl, _, _, rfl, rfl, ?_⟩
    refine ⟨_, rfl, .inl ⟨rfl, _, SqL.of f1⟩, _, rfl, _, rfl, T_line (by omega), _, rfl, by rw [T_len]; omega, by rw [T_len]; omega, fun D nD => ?_⟩
    rw [T_len, show ((t.length : Nat) : Int).toNat = t.length by omega]
    refine lc_range (lo := 0) (n := t.length) (fun j H' => Same H3 H' ∧ R3s H' D (readsP TS ((List.range j).map fun p => (i, p)))) ⟨same_new nD _, R3s.nil⟩ ?_ ?_
    · rintro j H4 hj ⟨hS4, hD4⟩
      refine ⟨rfl, _, rfl, _, rfl, _, rfl, _, rfl, T_line (by omega), ?_⟩
      rw [show (0 : Int) + (j : Int) = (j : Int) by omega, cut_from]
      refine ⟨_, rfl, _, rfl, (by show 3 ≤ sizeLine; decide), fun tp ntp => ?_⟩
      obtain ⟨xs, g1, g2, g3⟩ := (hD4.same (same_new ntp (.tup [T (t.drop j), .int (i : Int), .int (j : Int)]))).add (p := tp) (z := (rst TS (i, j), i, j)) (by
        show upd _ _ _ tp = _
        rw [upd_same]
        unfold rst
        rw [et])
      refine ⟨xs, g1, ?_, same_upd (hS4.trans (same_new ntp _)) nD, ?_⟩
      · rw [g2, readsP_len, List.length_map, List.length_range]
        exact sml1000 (by omega)
      · rw [List.range_succ, List.map_append, readsP_app]
        exact g3
    rintro H4 ⟨hS4, hD4⟩
    obtain ⟨das, d1, d2⟩ := id hD4
    have dl := paired_len d2
    have fl := paired_len f2
    rw [readsP_len] at fl
    rw [readsP_len, List.length_map, List.length_range] at dl
    refine ⟨F, D, _, _, rfl, rfl, hS4 _ _ f1, d1, ?_, ?_⟩
    · rw [List.length_map, List.length_map, fl, dl]
      exact Nat.le_of_lt (sml1000 (by omega))
    · refine ⟨_, _, _, rfl, same_upd (hS3.trans hS4) nF, ?_⟩
      rw [plcN_succ, readsP_app, erow]
      exact (hF3.same hS4).app hD4 (hS4 _ _ f1) d1
  rintro σ H2 ⟨v2, v3, v4, rfl, hS2, hD2⟩
  rw [List.length_map] at hD2
  obtain ⟨das, d1, d2⟩ := id hD2
  refine ⟨_, rfl, ?_⟩
  have hrl : (readsP TS (plc TS)).length ≤ 400 := by rw [readsP_len]; exact hlen
  have hsl : (sortE encR (readsP TS (plc TS))).length ≤ 400 := by rw [(sortE_perm _).length_eq]; exact hrl
  dsimp only [tNil]
  refine sort_read encR_ok (SqL.of d1) d2 (fun p e h => dp_r3 h) (Nat.le_trans hrl (by decide)) fun us sl hus hsub nsl => ?_
  have hS3 := hS2.trans (same_new nsl (.lst (us.map V.ref)))
  have hus3 := paired_mono (fun p z (h : R3At H2 p z) => (same_new nsl (.lst (us.map V.ref)) _ _ h : R3At (upd H2 sl (.lst (us.map V.ref))) p z)) hus
  have hsl3 : upd H2 sl (.lst (us.map V.ref)) sl = some (.lst (us.map V.ref)) := upd_same
  generalize upd H2 sl (.lst (us.map V.ref)) = H3 at hS3 hus3 hsl3
  have ul := paired_len hus3
  refine ⟨sl, rfl, ⟨_, SqL.of hsl3⟩, fun E1 nE1 => ?_⟩
  refine lc_list (K := K) (a := sl) (xs := us.map V.ref) (fun i H' => Same H3 H' ∧ TiesAt H' E1 (((sortE encR (readsP TS (plc TS))).take i).map fun z => (z.2.1, z.2.2))) ⟨same_new nE1 _, TiesAt.nil⟩ (fun i H' _ ⟨hS', _⟩ => SqL.of (hS' _ _ hsl3)) ?_ ?_
  · rintro i x H4 hx ⟨hS4, hD4⟩
    obtain ⟨px, z, rfl, _, hz, hpx⟩ := paired_at hus3 hx
    refine ⟨px, _, rfl, SqT.of (hS4 _ _ hpx), rfl, _, _, rfl, _, _, rfl, _, _, rfl, rfl, rfl, _, rfl, _, rfl, (by show 2 ≤ sizeLine; decide), fun tp ntp => ?_⟩
    obtain ⟨xs, g1, g2, g3⟩ := hD4.pushV (u := z.2.1) (v := z.2.2) rfl rfl ntp
    refine ⟨xs, g1, ?_, same_upd (hS4.trans (same_new ntp _)) nE1, ?_⟩
    · rw [g2, List.length_map, List.length_take]
      exact sml1000 (by omega)
    · rw [List.take_succ, hz, List.map_append]
      exact g3
  rintro H4 ⟨hS4, hD4⟩
  rw [List.length_map, ul, List.take_length] at hD4
  exact q H4 E1 (hS3.free nE1) (hS3.trans hS4) hD4
end
end My
set_option maxHeartbeats 4000000
namespace My
open PySem L2 PyProof.Rows
/-- the word is read there -/
abbrev atW (TS : List (List Nat)) (W : List Nat) (e : Nat × Nat) : Bool := decide ((rst TS e).take W.length = W)
def wordP (TS : List (List Nat)) (W : List Nat) : List (Nat × Nat) := (plc TS).filter (atW TS W)
theorem filt_snoc {α : Type} {p : α → Bool} {L : List α} {i : Nat} {x : α} (h : L[i]? = some x) : (L.take (i + 1)).filter p = (L.take i).filter p ++ if p x = true then [x] else [] := by
  rw [List.take_succ, h, List.filter_append]
  show _ ++ [x].filter p = _
  rw [List.filter_cons]
  rfl
theorem T_eq {a b : List Nat} : (V.str (tS a) = V.str (tS b)) ↔ a = b := T_inj
section
variable {P : Program} {w : World} {K : PySem.W.Frag} {mg : Str → Option Value} {base : Heap} {C : Addr}
def spis_ring (_ : PySem.W.Frag) (_ : Addr) : Sp := fun vs H Q _ => ∃ W, vs = [T W] ∧ OkT (tS W) ∧ W ≠ [] ∧ Q (.bl true) H
theorem okis_ring (D : Def K mg "is_ring" sis_ring ["value"]) (B : Bs mg) (Glb : Glo mg) (WK : WebK K mg C)
    (his_text : Good P w K mg base "is_text" sis_text ["value"] 2 (spis_text K C)) :
    Good P w K mg base "is_ring" sis_ring ["value"] 3 (spis_ring K C) := by
  refine D.good fun f fd F => ?_
  obtain ⟨fis_text, dis_text, Ois_text, mis_text, kis_text, bis_text, Fis_text⟩ := his_text
  refine F.ok scis_ring (fun vs H Q E h => ?_) (fun cdv A outer s H vs Q E hr h => ?_)
  · obtain ⟨W, rfl, hW, h0, q⟩ := h
    first | rfl | (rcases h with ⟨_, _, rfl, _⟩ | ⟨_, rfl, _⟩ <;> rfl)
  obtain ⟨W, rfl, hW, h0, q⟩ := h
  refine ⟨_, (pss_one (ps_ret (pe_and (pe_call Ois_text hr rfl mis_text kis_text bis_text .nil pass0 (pa_cons (pv 0) pa_nil)) (pe_one (pe_cmpR op_ne (pv 0) pe_str (nomark _)))))), ?_⟩
  refine ⟨_, rfl, tS W, rfl, hW, _, rfl, iteT ⟨_, rfl, rfl, ?_⟩⟩
  rw [T_nil, decide_eq_false fun z => h0 (T_eq.mp z)]
  exact q
def spneed_word (_ : PySem.W.Frag) (_ : Addr) : Sp := fun vs H Q _ => ∃ W, vs = [T W] ∧ OkT (tS W) ∧ W ≠ [] ∧ Q .non H
theorem okneed_word (D : Def K mg "need_word" sneed_word ["word"]) (B : Bs mg) (Glb : Glo mg) (WK : WebK K mg C)
    (his_ring : Good P w K mg base "is_ring" sis_ring ["value"] 3 (spis_ring K C)) :
    Good P w K mg base "need_word" sneed_word ["word"] 4 (spneed_word K C) := by
  refine D.good fun f fd F => ?_
  obtain ⟨fis_ring, dis_ring, Ois_ring, mis_ring, kis_ring, bis_ring, Fis_ring⟩ := his_ring
  refine F.ok scneed_word (fun vs H Q E h => ?_) (fun cdv A outer s H vs Q E hr h => ?_)
  · obtain ⟨W, rfl, hW, h0, q⟩ := h
    first | rfl | (rcases h with ⟨_, _, rfl, _⟩ | ⟨_, rfl, _⟩ <;> rfl)
  obtain ⟨W, rfl, hW, h0, q⟩ := h
  refine ⟨_, (pss_one (ps_if (pt_not (pt_val (pe_call Ois_ring hr rfl mis_ring kis_ring bis_ring .nil pass0 (pa_cons (pv 0) pa_nil))))
    (pss_one ps_never) pss_nil)), ?_⟩
  exact ⟨_, rfl, W, rfl, hW, h0, _, rfl, iteF q⟩
def spplain_places (_ : PySem.W.Frag) (_ : Addr) : Sp := fun vs H Q _ => ∃ l TS W, vs = [.ref l, T W] ∧ H l = some (.lst (tv TS)) ∧ OkX TS ∧ OkT (tS W) ∧ W ≠ [] ∧ ∀ H' p, H p = none → Same H H' → TiesAt H' p (wordP TS W) → Q (.ref p) H'
theorem okplain_places (D : Def K mg "plain_places" splain_places ["texts", "word"]) (B : Bs mg) (Glb : Glo mg) (WK : WebK K mg C)
    (h_need_texts : Good P w K mg base "_need_texts" s_need_texts ["texts"] 3 (sp_need_texts K C))
    (hneed_word : Good P w K mg base "need_word" sneed_word ["word"] 4 (spneed_word K C))
    (h_places_in : Good P w K mg base "_places_in" s_places_in ["texts"] 1 (sp_places_in K C)) :
    Good P w K mg base "plain_places" splain_places ["texts", "word"] 5 (spplain_places K C) := by
  refine D.good fun f fd F => ?_
  obtain ⟨f_need_texts, d_need_texts, O_need_texts, m_need_texts, k_need_texts, b_need_texts, F_need_texts⟩ := h_need_texts
  obtain ⟨fneed_word, dneed_word, Oneed_word, mneed_word, kneed_word, bneed_word, Fneed_word⟩ := hneed_word
  obtain ⟨f_places_in, d_places_in, O_places_in, m_places_in, k_places_in, b_places_in, F_places_in⟩ := h_places_in
  refine F.ok scplain_places (fun vs H Q E h => ?_) (fun cdv A outer s H vs Q E hr h => ?_)
  · obtain ⟨l, TS, W, rfl, hl, ho, hW, h0, q⟩ := h
    first | rfl | (rcases h with ⟨_, _, rfl, _⟩ | ⟨_, rfl, _⟩ <;> rfl)
  obtain ⟨l, TS, W, rfl, hl, ho, hW, h0, q⟩ := h
  refine ⟨_, (pss_cons (ps_expr (pe_call O_need_texts (hr.mono (by decide)) rfl m_need_texts k_need_texts b_need_texts .nil pass0 (pa_cons (pv 0) pa_nil)))
  (pss_cons (ps_expr (pe_call Oneed_word hr rfl mneed_word kneed_word bneed_word .nil pass0 (pa_cons (pv 1) pa_nil)))
  (pss_cons (ps_set (i := 2) scplain_places.nd rfl (by first | exact Or.inl rfl | exact Or.inr rfl) (pe_callB call_len_str (by rfl) B.len (by decide +kernel) (pa_cons (pv 1) pa_nil)))
  (pss_one (ps_ret (pe_lc (own := [("number", 3), ("place", 4)]) (g := gTup K 2 (gCons (gName 3) (gCons (gName 4) gNil))) (by rfl) scplain_places.nd (pi_list (pe_call O_places_in (hr.mono (by decide)) rfl m_places_in k_places_in b_places_in .nil pass0 (pa_cons (pv 0) pa_nil))) (blkOk_by (own := [("number", 3), ("place", 4)]) (N := ["texts", "word", "size", "number", "place"]) (sc := defScope splain_places) (by decide +kernel)) (fun _ _ _ _ _ => (pg_tup rfl (pgs_cons (pg_name (i := 3) scplain_places.nd rfl (by first | exact Or.inl rfl | exact Or.inr rfl)) (pgs_cons (pg_name (i := 4) scplain_places.nd rfl (by first | exact Or.inl rfl | exact Or.inr rfl)) pgs_nil)))) (fun _ _ _ _ _ => (pts_one (pt_cmpR op_eq (pe_slice sl_str (pe_ix (ix_listK (K := K) rfl) (pv 0) (pv 3) (by exact fun _ _ => rfl)) (po_some (pv 4)) (po_some (pe_op op_add (pv 4) (pv 2)))) (pv 1) (nomark _)))) (fun _ _ _ _ _ => (pe_tup (pa_cons (pv 3) (pa_cons (pv 4) pa_nil)))))))))), ?_⟩
  have hWl := hW.len
  rw [T_len] at hWl
  refine ⟨_, rfl, l, TS, rfl, .inl hl, ho, fun H1 hS1 => ?_⟩
  refine ⟨_, rfl, W, rfl, hW, h0, ?_⟩
  refine ⟨_, rfl, _, rfl, T_line (by omega), ?_⟩
  rw [T_len]
  refine ⟨_, rfl, l, TS, rfl, .inl (hS1 _ _ hl), ho, fun H2 pl npl hS2 hpl => ?_⟩
  obtain ⟨pas, p1, p2⟩ := id hpl
  have pln := paired_len p2
  have hlen : (plc TS).length ≤ 400 := plcN_le ho (Nat.le_refl _)
  refine ⟨pl, rfl, ⟨_, SqL.of p1⟩, fun D nD => ?_⟩
  refine lc_list (K := K) (a := pl) (xs := pas.map V.ref) (fun i H' => Same H2 H' ∧ TiesAt H' D (((plc TS).take i).filter (atW TS W))) ⟨same_new nD _, TiesAt.nil⟩ (fun i H' _ ⟨hS', _⟩ => SqL.of (hS' _ _ p1)) ?_ ?_
  · rintro i x H3 hx ⟨hS3, hD3⟩
    obtain ⟨px, e, rfl, _, he, hpx⟩ := paired_at p2 hx
    obtain ⟨m1, m2⟩ := plc_mem.mp (List.mem_of_getElem? he)
    have hl3 : TxAt H3 l TS := .inl ((hS1.trans (hS2.trans hS3)) _ _ hl)
    have ht : (tv TS)[e.1]? = some (T (TS.getD e.1 [])) := by
      rw [List.getElem?_map, List.getD_eq_getElem?_getD, List.getElem?_eq_getElem m1]
      rfl
    have htl := (ho.tx _ (show TS.getD e.1 [] ∈ TS by rw [List.getD_eq_getElem?_getD, List.getElem?_eq_getElem m1]; exact List.getElem_mem _)).len
    rw [T_len] at htl
    have hfl := List.length_filter_le (atW TS W) ((plc TS).take i)
    rw [List.length_take] at hfl
    refine ⟨px, _, rfl, SqT.of (hS3 _ _ hpx), rfl, _, _, rfl, _, _, rfl, rfl, rfl, ?_⟩
    refine ⟨_, rfl, _, rfl, _, _, _, T (TS.getD e.1 []), rfl, rfl, SqL.of ((hS1.trans (hS2.trans hS3)) _ _ hl), atI_nat ht, ?_⟩
    refine ⟨_, rfl, _, rfl, _, rfl, _, rfl, _, _, rfl, rfl, _, rfl, _, rfl, T_line (by omega), ?_⟩
    rw [cutS_mid]
    refine ⟨_, rfl, rfl, _, rfl, ?_⟩
    rw [filt_snoc he]
    by_cases c : (rst TS e).take W.length = W
    · refine iteYes (by rw [show ((TS.getD e.1 []).drop e.2).take W.length = W from c]) ?_
      refine ⟨_, rfl, _, rfl, (by show 2 ≤ sizeLine; decide), fun tp ntp => ?_⟩
      obtain ⟨xs, g1, g2, g3⟩ := hD3.pushV (u := e.1) (v := e.2) rfl rfl ntp
      refine ⟨xs, g1, by rw [g2]; exact sml1000 (by omega), same_upd (hS3.trans (same_new ntp _)) nD, ?_⟩
      rw [if_pos (decide_eq_true c)]
      exact g3
    · refine iteNo (fun z => c (T_eq.mp z)) ⟨hS3, ?_⟩
      rw [if_neg (by simpa using c), List.append_nil]
      exact hD3
  rintro H3 ⟨hS3, hD3⟩
  rw [List.length_map, pln, List.take_length] at hD3
  exact q H3 D ((hS1.trans hS2).free nD) (hS1.trans (hS2.trans hS3)) hD3
def sp_law_places (_ : PySem.W.Frag) (_ : Addr) : Sp := fun vs H Q _ => ∃ l TS W, vs = [.ref l, T W] ∧ H l = some (.lst (tv TS)) ∧ OkX TS ∧ W.length ≤ 400 ∧ ∀ H' p, H p = none → Same H H' → TiesAt H' p (wordP TS W) → Q (.ref p) H'
theorem ok_law_places (D : Def K mg "_law_places" s_law_places ["_law_texts", "_law_word"]) (B : Bs mg) (Glb : Glo mg) (WK : WebK K mg C) :
    Good P w K mg base "_law_places" s_law_places ["_law_texts", "_law_word"] 1 (sp_law_places K C) := by
  refine D.good fun f fd F => ?_
  refine F.ok sc_law_places (fun vs H Q E h => ?_) (fun cdv A outer s H vs Q E hr h => ?_)
  · obtain ⟨l, TS, W, rfl, hl, ho, hWl, q⟩ := h
    first | rfl | (rcases h with ⟨_, _, rfl, _⟩ | ⟨_, rfl, _⟩ <;> rfl)
  obtain ⟨l, TS, W, rfl, hl, ho, hWl, q⟩ := h
  refine ⟨_, (pss_cons (ps_set (i := 2) sc_law_places.nd rfl (by first | exact Or.inl rfl | exact Or.inr rfl) (pe_lst pa_nil))
  (pss_cons (ps_for PassesOwn.never rfl (pi_enum (by rfl) B.enumerate (pa_cons (pv 0) pa_nil)) (pg_tup rfl (pgs_cons (pg_name (i := 3) sc_law_places.nd rfl (by first | exact Or.inl rfl | exact Or.inr rfl)) (pgs_cons (pg_name (i := 4) sc_law_places.nd rfl (by first | exact Or.inl rfl | exact Or.inr rfl)) pgs_nil)))
    (pss_one (ps_expr (pe_bm PySem.F.plainAttrs_list PySem.F.slot_list_extend PySem.F.type_list_extend mt_extend (pv 2) (pa_cons (pe_lc (own := [("_law_place", 5)]) (g := gName 5) (by rfl) sc_law_places.nd (pi_range1 (by rfl) B.range (pa_cons (pe_callB call_len_str (by rfl) B.len (by decide +kernel) (pa_cons (pv 4) pa_nil)) pa_nil)) (blkOk_by (own := [("_law_place", 5)]) (N := ["_law_texts", "_law_word", "_law_found", "_law_number", "_law_text_here", "_law_place"]) (sc := defScope s_law_places) (by decide +kernel)) (fun _ _ _ _ _ => (pg_name (i := 5) sc_law_places.nd rfl (by first | exact Or.inl rfl | exact Or.inr rfl))) (fun _ _ _ _ _ => (pts_one (pt_cmpR op_eq (pe_slice sl_str (pv 4) (po_some (pv 5)) (po_some (pe_op op_add (pv 5) (pe_callB call_len_str (by rfl) B.len (by decide +kernel) (pa_cons (pv 1) pa_nil))))) (pv 1) (nomark _)))) (fun _ _ _ _ _ => (pe_tup (pa_cons (pv 3) (pa_cons (pv 5) pa_nil))))) pa_nil)))))
  (pss_one (ps_ret (pv 2))))), ?_⟩
  have n2 := ho.n2
  refine ⟨Nat.zero_le _, fun F nF => ?_⟩
  have hS1 := same_new nF (.lst [])
  have hF1 : TiesAt (upd H F (.lst [])) F [] := TiesAt.nil
  generalize upd H F (.lst []) = H1 at hS1 hF1
  refine ⟨_, rfl, l, _, rfl, SqL.of (hS1 _ _ hl), ?_⟩
  refine for_it (walk_enum (K := K) (a := l) (xs := tv TS)) (fun i σ H' => ∃ v3 v4 : Option V, σ = [some (.ref l), some (T W), some (.ref F), v3, v4, none] ∧ Same H H' ∧ TiesAt H' F ((plcN TS i).filter (atW TS W))) ⟨none, none, rfl, hS1, hF1⟩ (fun i σ H' _ ⟨_, _, _, hS', _⟩ => SqL.of (hS' _ _ hl)) ?_ ?_
  · rintro i x σ H2 H3 hi ⟨v3, v4, rfl, hS2, hF2⟩ ⟨TP, c1, c2, rfl, nTP, rfl, e1, e2⟩
    replace e1 : some (V.int (i : Int)) = some c1 := e1
    cases e1
    replace e2 : (tv TS)[i]? = some c2 := e2
    obtain ⟨t, ht, rfl⟩ := tv_at e2
    have hil := (List.getElem?_eq_some_iff.mp ht).1
    have htl := (ho.tx t (List.mem_of_getElem? ht)).len
    rw [T_len] at htl
    have et : TS.getD i [] = t := by rw [List.getD_eq_getElem?_getD, ht]; rfl
    have hT3 : upd H2 TP (.tup [V.int (i : Int), T t]) TP = some (.tup [V.int (i : Int), T t]) := upd_same
    have hS3 := hS2.trans (same_new nTP (.tup [V.int (i : Int), T t]))
    have hF3 := hF2.same (same_new nTP (.tup [V.int (i : Int), T t]))
    generalize upd H2 TP (.tup [V.int (i : Int), T t]) = H3 at hT3 hS3 hF3
    have hle := plcN_le ho (i := i) (by omega)
    have erow : rowP TS i = (List.range t.length).map fun p => (i, p) := by unfold rowP; rw [et]
    obtain ⟨fas, f1, f2⟩ := id hF3
    refine ⟨TP, _, rfl, SqT.of hT3, rfl, _, _, rfl, _, _, rfl, rfl, ?_⟩
    refine ⟨_, rfl, .inl ⟨rfl, _, SqL.of f1⟩, _, rfl, _, rfl, T_line (by omega), _, rfl, by rw [T_len]; omega, by rw [T_len]; omega, fun D nD => ?_⟩
    rw [T_len, show ((t.length : Nat) : Int).toNat = t.length by omega]
    refine lc_range (lo := 0) (n := t.length) (fun j H' => Same H3 H' ∧ TiesAt H' D (((List.range j).map fun p => (i, p)).filter (atW TS W))) ⟨same_new nD _, TiesAt.nil⟩ ?_ ?_
    · rintro j H4 hj ⟨hS4, hD4⟩
      have esn : ((List.range (j + 1)).map fun p => (i, p)).filter (atW TS W) = ((List.range j).map fun p => (i, p)).filter (atW TS W) ++ if atW TS W (i, j) = true then [(i, j)] else [] := by
        rw [List.range_succ, List.map_append, List.filter_append]
        show _ ++ [(i, j)].filter _ = _
        rw [List.filter_cons]
        rfl
      have hfl := List.length_filter_le (atW TS W) ((List.range j).map fun p => (i, p))
      rw [List.length_map, List.length_range] at hfl
      refine ⟨rfl, _, rfl, _, rfl, _, rfl, _, rfl, _, rfl, _, rfl, T_line (by omega), _, _, rfl, rfl, _, rfl, _, rfl, T_line (by omega), ?_⟩
      rw [show (0 : Int) + (j : Int) = (j : Int) by omega, T_len, cutS_mid]
      refine ⟨_, rfl, rfl, _, rfl, ?_⟩
      rw [esn]
      have er : rst TS (i, j) = t.drop j := by unfold rst; rw [et]
      by_cases c : (t.drop j).take W.length = W
      · refine iteYes (by rw [c]) ?_
        refine ⟨_, rfl, _, rfl, (by show 2 ≤ sizeLine; decide), fun tp ntp => ?_⟩
        obtain ⟨xs, g1, g2, g3⟩ := hD4.pushV (u := i) (v := j) rfl rfl ntp
        refine ⟨xs, g1, by rw [g2]; exact sml1000 (by omega), same_upd (hS4.trans (same_new ntp _)) nD, ?_⟩
        rw [if_pos (show decide ((rst TS (i, j)).take W.length = W) = true by rw [er]; exact decide_eq_true c)]
        exact g3
      · refine iteNo (fun z => c (T_eq.mp z)) ⟨hS4, ?_⟩
        rw [if_neg (by show ¬ decide ((rst TS (i, j)).take W.length = W) = true; rw [er]; simpa using c), List.append_nil]
        exact hD4
    rintro H4 ⟨hS4, hD4⟩
    obtain ⟨das, d1, d2⟩ := id hD4
    have dl := paired_len d2
    have fl := paired_len f2
    have b1 := List.length_filter_le (atW TS W) (plcN TS i)
    have b2 := List.length_filter_le (atW TS W) ((List.range t.length).map fun p => (i, p))
    rw [List.length_map, List.length_range] at b2
    refine ⟨F, D, _, _, rfl, rfl, hS4 _ _ f1, d1, ?_, ?_⟩
    · rw [List.length_map, List.length_map]
      exact Nat.le_of_lt (sml1000 (by omega))
    · refine ⟨_, _, rfl, same_upd (hS3.trans hS4) nF, ?_⟩
      rw [plcN_succ, List.filter_append, erow]
      exact (hF3.same hS4).appO hD4 (hS4 _ _ f1) d1
  rintro σ H2 ⟨v3, v4, rfl, hS2, hD2⟩
  rw [List.length_map] at hD2
  exact ⟨_, rfl, q H2 F nF hS2 hD2⟩
end
end My
/-! C(k = v, ..): a new instance by keywords -/
namespace My
open PySem PySem.W L2 PyProof.Rows
/-- an __init__ that keeps a promise, with the def itself -/
def GoodJ (P : Program) (w : World) (K : PySem.W.Frag) (mg : Str → Option Value) (base : Heap) (C : Addr) (x qual : Str) (st : Stmt) (ps : List Str) (k : Nat) (sp : Sp) : Prop := ∃ (f : Addr) (fd : FuncData), FnOk P w K mg base CX0 k f fd ps sp ∧ Mk K C f ∧ Binds K fd ps [] ∧ Fun K x qual st f fd
theorem DefI.goodJ {P : Program} {w : World} {K : PySem.W.Frag} {mg : Str → Option Value} {base : Heap} {C : Addr} {x qual : Str} {st : Stmt} {ps : List Str} {k : Nat} {sp : Sp} (D : DefI K C x qual st ps) (h : ∀ f fd, Fun K x qual st f fd → FnOk P w K mg base CX0 k f fd ps sp) : GoodJ P w K mg base C x qual st ps k sp := by
  obtain ⟨f, fd, F, m, b⟩ := D
  exact ⟨f, fd, h f fd F, m, b, F⟩
theorem fun_kbn {K : PySem.W.Frag} {x qual : Str} {st : Stmt} {f : Addr} {fd : FuncData} {ps ks : List Str} (F : Fun K x qual st f fd) (n : Nat) (g : List Value → List Value → List Value) (gV : List V → List V → List V)
    (hrel : ∀ {vs : List V} {us : List Value} {zs : List V} {ws : List Value}, Vals vs us → Vals zs ws → Vals (gV vs zs) (g us ws))
    (h : ∀ (kV doc pm : Value) (an : Option Addr) (cdv ct : Value) (us ws : List Value), us.length = n → ws.length = ks.length → bindArgs (PySem.W.fnOf x qual (defArgs st) (defBody st) (defScope st) .none kV doc pm an cdv ct) ⟨us, ks.zip ws⟩ = pure (ps.zip (g us ws))) : KBn K fd ps n ks g gV := by
  obtain ⟨oc, od, kV, doc, pm, an, cdv, ct, osl, rfl, lk, hcd⟩ := F.ex
  exact ⟨fun s us ws X l1 l2 => .of_eq (h kV doc pm an cdv ct us ws l1 l2), hrel⟩
/-- one keyword -/
theorem fun_kbn1 {K : PySem.W.Frag} {x qual : Str} {st : Stmt} {f : Addr} {fd : FuncData} {p q : Str} (F : Fun K x qual st f fd)
    (h : ∀ (kV doc pm : Value) (an : Option Addr) (cdv ct : Value) (u v : Value), bindArgs (PySem.W.fnOf x qual (defArgs st) (defBody st) (defScope st) .none kV doc pm an cdv ct) ⟨[u], [(q, v)]⟩ = pure ([p, q].zip [u, v])) : KBn K fd [p, q] 1 [q] gm1 gm1 :=
  fun_kbn F 1 gm1 gm1 relm1 fun kV doc pm an cdv ct us ws l1 l2 => by
    obtain ⟨u, rfl⟩ := List.length_eq_one_iff.mp l1
    obtain ⟨v, rfl⟩ := List.length_eq_one_iff.mp l2
    exact h kV doc pm an cdv ct u v
end My
namespace My
open PySem PySem.Spec PyProof.Rows L2
section
variable {X : Cx}
theorem kit_noL {K : PySem.W.Frag} {C : Addr} (h1 : PySem.W.isClsIn K C = true) (h2 : PySem.W.typeIn K (.ref C) = some (.type "type")) (h3 : PySem.W.subIn K (.type "list") (.ref C) = some false) : PySem.W.kitOne K (.type "list") (.ref C) = some false := by
  unfold PySem.W.kitOne
  rw [if_neg (by simp)]
  show (if ((PySem.W.clsIn K C).isSome && PySem.W.typeIn K (.ref C) == some (.type "type")) = true then PySem.W.subIn K (.type "list") (.ref C) else none) = some false
  have h1' : (PySem.W.clsIn K C).isSome = true := h1
  rw [h1', h2, if_pos (by simp)]
  exact h3
/-- == of an instance with an own __eq__ and a list -/
theorem op_eqLst {CX : CXT} {k : Nat} {C f : Addr} {fd : FuncData} {ps : List Str} {sp : Sp} {E : XK} (F : FnOk X.prog X.w X.K X.mg X.base CX k f fd ps sp) (hr : Room k X.A)
    (hs : PySem.W.findIn X.K (.ref C) "__eq__" = some (some (.ref f))) (hf : PySem.W.isFn X.K (.ref f) = true) (hnf : PySem.W.notFirst X.K C (.type "list") = true) (hb : Binds X.K fd ps []) (hx : Passes CX X E) :
    OpR X (compareOp .Eq) (fun x y H Q => ∃ a d dx fs xs, x = .ref a ∧ y = .ref d ∧ H a = some (.ins C dx fs) ∧ H d = some (.lst xs) ∧ sp [x, y] H (fun v H' => ∃ c, v = .bl c ∧ Q (.bl c) H') E) := by
  intro pins s σ H x y v u Q I rx ry h
  obtain ⟨a, b, dx, fs, xs, rfl, rfl, ha, hb', hsp⟩ := h
  cases rx
  cases ry
  show wpAny (model X.prog X.w) X.A (richCompare .Eq (.ref a) (.ref b)) (EP X pins σ Q) X.xe s
  obtain ⟨_, J, _⟩ := ins_get I.hok ha
  obtain ⟨_, J, _⟩ := J.look
  obtain ⟨_, its, _, _, e⟩ := (show ObjOk X.prog X.w H s.heap b (.lst xs) from I.hok b _ hb')
  have hty : PySem.W.Looks (model X.prog X.w) s.heap (typeOf (.ref b)) (.type "list") := (PySem.W.Looks.ld e).andThen .now
  obtain ⟨m, hF⟩ := I.fr
  refine PySem.W.cmp_K (op := .Eq) (tb := .type "list") hr.units0 hF I.ok.mod.kin J hty hnf hs hf ?_
  have vals : Vals [V.ref a, V.ref b] [Value.ref a, Value.ref b] := .cons rfl (.cons rfl .nil)
  have e0 : Env0 X.prog X.w X.K X.mg X.base X.A X.stack s H := I.env0
  have hl := F.len _ _ _ _ hsp
  refine wpAny_call (codeAny_mono (F.run X.A X.stack s H ⟨[.ref a, .ref b], []⟩ [.ref a, .ref b] [.ref a, .ref b] _ E hr e0 (by
    have bd := hb s [.ref a, .ref b] I.kIn (by simpa using hl)
    simpa using bd) vals hsp) fun r s' hq => ?_)
  cases r with
  | error e => exact hx pins σ H s e s' I hq
  | ok fl =>
    cases fl with
    | ret w =>
      obtain ⟨z, H', I', rz, c, ez, qz⟩ := I.after hq
      subst ez
      cases rz
      exact ⟨.bl c, H', I', rfl, qz⟩
    | next => exact False.elim hq
    | brk => exact False.elim hq
    | cont => exact False.elim hq
end
end My
set_option maxHeartbeats 4000000
namespace My
open PySem L2 PyProof.Rows
/-! ### data compared -/
theorem okT_str {x : Str} (h : OkT x) : PyData.strOk x = true := by
  unfold PyData.strOk
  rw [Array.all_eq_true']
  intro c hc
  have := h.let_ c (by simpa using hc)
  simp
  omega
abbrev dt (L : List (List Nat)) : PyData := .list (L.map fun t => PyData.str (tS t))
theorem dpAll_tv {K : PySem.W.Frag} {H : Hp} : ∀ L : List (List Nat), DpAll K H (tv L) (L.map fun t => PyData.str (tS t))
  | [] => .nil
  | t :: r => .cons (.str _) (dpAll_tv r)
theorem dp_tv {K : PySem.W.Frag} {H : Hp} {p : Addr} {L : List (List Nat)} (h : H p = some (.lst (tv L))) : Dp K H (.ref p) (dt L) := .lst (SqL.of h) (dpAll_tv L)
theorem layAll_tv : ∀ {L : List (List Nat)}, (∀ t ∈ L, OkT (tS t)) → PyData.canLayAll0 (L.map fun t => PyData.str (tS t)) = true
  | [], _ => rfl
  | e :: r, h => by
    show (PyData.canLay0 (.str (tS e)) && PyData.canLayAll0 (r.map fun t => PyData.str (tS t))) = true
    rw [layAll_tv fun f hf => h f (List.mem_cons_of_mem _ hf)]
    have hx := okT_str (h e List.mem_cons_self)
    simp only [PyData.canLay0, Bool.and_true]
    exact hx
theorem depthAll_tv : ∀ L : List (List Nat), PyData.depthAll (L.map fun t => PyData.str (tS t)) = 0
  | [] => rfl
  | e :: r => by
    show max (PyData.depth (.str (tS e))) (PyData.depthAll (r.map fun t => PyData.str (tS t))) = 0
    rw [depthAll_tv r]
    rfl
theorem shaped_tv {L : List (List Nat)} (h : ∀ t ∈ L, OkT (tS t)) : SeqAt.shaped (dt L) = true := by
  unfold SeqAt.shaped
  have h1 : PyData.canLay0 (dt L) = true := by
    unfold PyData.canLay0
    exact layAll_tv h
  have h2 : PyData.depth (dt L) = 1 := by
    unfold PyData.depth
    rw [depthAll_tv]
  rw [h1, h2]
  rfl
theorem eqvAll_tv : ∀ A B : List (List Nat), PyData.eqv (dt A) (dt B) = decide (A = B)
  | [], [] => rfl
  | [], b :: B => rfl
  | a :: A, [] => rfl
  | a :: A, b :: B => by
    show ((tS a == tS b) && PyData.eqv (dt A) (dt B)) = _
    rw [eqvAll_tv A B, Bool.eq_iff_iff]
    simp only [Bool.and_eq_true, beq_iff_eq, decide_eq_true_iff, List.cons.injEq]
    exact ⟨fun ⟨h, k⟩ => ⟨tS_inj h, k⟩, fun ⟨h, k⟩ => ⟨by rw [h], k⟩⟩
theorem dp_t2 {K : PySem.W.Frag} {H : Hp} {p : Addr} {e : Nat × Nat} (h : TupAt H p e) : Dp K H (.ref p) (enc2 e) := .tup (SqT.of h) (.cons (.int _) (.cons (.int _) .nil))
theorem dpAll_t2 {K : PySem.W.Frag} {H : Hp} : ∀ {as : List Addr} {Z : List (Nat × Nat)}, Paired (TupAt H) as Z → DpAll K H (as.map V.ref) (Z.map enc2)
  | _, _, .nil => .nil
  | _, _, .cons h r => .cons (dp_t2 h) (dpAll_t2 r)
theorem dp_t2s {K : PySem.W.Frag} {H : Hp} {l : Addr} {Z : List (Nat × Nat)} (h : TiesAt H l Z) : Dp K H (.ref l) (.list (Z.map enc2)) := by
  obtain ⟨as, h1, h2⟩ := h
  exact .lst (SqL.of h1) (dpAll_t2 h2)
theorem layAll_t2 : ∀ Z : List (Nat × Nat), PyData.canLayAll0 (Z.map enc2) = true
  | [] => rfl
  | e :: r => by
    show (PyData.canLay0 (enc2 e) && PyData.canLayAll0 (r.map enc2)) = true
    rw [layAll_t2 r]
    rfl
theorem depth_t2 : ∀ Z : List (Nat × Nat), PyData.depthAll (Z.map enc2) ≤ 1
  | [] => by show PyData.depthAll [] ≤ 1; decide
  | z :: Z => by
    show max (PyData.depth (enc2 z)) (PyData.depthAll (Z.map enc2)) ≤ 1
    have := depth_t2 Z
    have h : PyData.depth (enc2 z) = 1 := by
      show PyData.depth (.tuple [.int (z.1 : Int), .int (z.2 : Int)]) = 1
      simp [PyData.depth, PyData.depthAll]
    omega
theorem shaped_t2 (Z : List (Nat × Nat)) : SeqAt.shaped (.list (Z.map enc2)) = true := by
  unfold SeqAt.shaped
  have h1 : PyData.canLay0 (.list (Z.map enc2)) = true := by
    unfold PyData.canLay0
    exact layAll_t2 _
  have h2 : PyData.depth (.list (Z.map enc2)) ≤ 64 := by
    unfold PyData.depth
    have := depth_t2 Z
    omega
  rw [h1, decide_eq_true h2]
  rfl
theorem shaped_e2 (e : Nat × Nat) : SeqAt.shaped (enc2 e) = true := by
  unfold SeqAt.shaped enc2
  simp [PyData.canLay0, PyData.canLayAll0, PyData.depth, PyData.depthAll]
theorem eqv_enc2 (a b : Nat × Nat) : PyData.eqv (enc2 a) (enc2 b) = decide (a = b) := by
  cases e : PyData.eqv (enc2 a) (enc2 b) with
  | true => exact (decide_eq_true (enc2_ok.inj a b e)).symm
  | false =>
    refine (decide_eq_false fun z => ?_).symm
    subst z
    have := eqv_refl_of (enc2_ok.al a a) rfl
    rw [this] at e
    cases e
theorem eqv_t2s : ∀ A B : List (Nat × Nat), PyData.eqv (.list (A.map enc2)) (.list (B.map enc2)) = decide (A = B)
  | [], [] => rfl
  | [], b :: B => rfl
  | a :: A, [] => rfl
  | a :: A, b :: B => by
    show (PyData.eqv (enc2 a) (enc2 b) && PyData.eqv (.list (A.map enc2)) (.list (B.map enc2))) = _
    rw [eqv_t2s A B, eqv_enc2, Bool.eq_iff_iff]
    simp only [Bool.and_eq_true, decide_eq_true_iff, List.cons.injEq]
theorem any_enc2 (Z : List (Nat × Nat)) (u : Nat × Nat) : ((Z.map enc2).any fun z => PyData.eqv z (enc2 u)) = decide (u ∈ Z) := by
  rw [Bool.eq_iff_iff, List.any_eq_true, decide_eq_true_iff]
  constructor
  · rintro ⟨d, hd, e⟩
    obtain ⟨v, hv, rfl⟩ := List.mem_map.mp hd
    rw [eqv_enc2] at e
    exact of_decide_eq_true e ▸ hv
  · intro h
    exact ⟨enc2 u, List.mem_map.mpr ⟨u, h, rfl⟩, by rw [eqv_enc2]; exact decide_eq_true rfl⟩
theorem eqv_t2nil (Z : List (Nat × Nat)) : PyData.eqv (.list (Z.map enc2)) (dz []) = decide (Z = []) := by
  cases Z with
  | nil => rfl
  | cons n r => rfl
/-! ### what two texts have in common at their begin -/
def cmn : List Nat → List Nat → List Nat
  | x :: a, y :: b => if x = y then x :: cmn a b else []
  | _, _ => []
theorem cmn_take : ∀ (m : Nat) {a b : List Nat}, m ≤ a.length → m ≤ b.length → a.take m = b.take m → (m = a.length ∨ m = b.length ∨ a[m]? ≠ b[m]?) → cmn a b = a.take m
  | 0, [], b, _, _, _, _ => by cases b <;> rfl
  | 0, _ :: _, [], _, _, _, _ => rfl
  | 0, x :: a, y :: b, _, _, _, h => by
    unfold cmn
    rw [if_neg]
    · rfl
    · rintro rfl
      rcases h with h | h | h
      · cases h
      · cases h
      · exact h rfl
  | m + 1, [], _, h, _, _, _ => absurd h (by simp)
  | m + 1, _ :: _, [], _, h, _, _ => absurd h (by simp)
  | m + 1, x :: a, y :: b, h1, h2, e, h => by
    rw [List.take_succ_cons, List.take_succ_cons] at e
    obtain ⟨e1, e2⟩ := List.cons.inj e
    subst e1
    unfold cmn
    rw [if_pos rfl, cmn_take m (by simpa using h1) (by simpa using h2) e2 (by simpa using h)]
    rfl
theorem cmn_nil (a : List Nat) : cmn a [] = [] := by cases a <;> rfl
/-- a text that begins both begins what is common -/
theorem cmn_pre : ∀ {y a b : List Nat}, y <+: a → y <+: b → y <+: cmn a b
  | [], _, _, _, _ => List.nil_prefix
  | z :: y, a, b, h1, h2 => by
    obtain ⟨a', rfl⟩ : ∃ a', a = z :: a' := by
      obtain ⟨s, rfl⟩ := h1
      exact ⟨_, rfl⟩
    obtain ⟨b', rfl⟩ : ∃ b', b = z :: b' := by
      obtain ⟨s, rfl⟩ := h2
      exact ⟨_, rfl⟩
    unfold cmn
    rw [if_pos rfl]
    exact (List.prefix_cons_inj z).mpr (cmn_pre ((List.prefix_cons_inj z).mp h1) ((List.prefix_cons_inj z).mp h2))
theorem cmn_left : ∀ a b : List Nat, cmn a b <+: a
  | [], b => by cases b <;> exact List.nil_prefix
  | x :: a, [] => List.nil_prefix
  | x :: a, y :: b => by
    unfold cmn
    split
    · exact (List.prefix_cons_inj x).mpr (cmn_left a b)
    · exact List.nil_prefix
theorem cmn_right : ∀ a b : List Nat, cmn a b <+: b
  | [], b => by cases b <;> exact List.nil_prefix
  | x :: a, [] => List.nil_prefix
  | x :: a, y :: b => by
    unfold cmn
    split
    · rename_i h
      rw [h]
      exact (List.prefix_cons_inj y).mpr (cmn_right a b)
    · exact List.nil_prefix
/-! ### a finder -/
def ff (lt lr : Addr) : List (Str × V) := putF "_rows" (.ref lr) (putF "_texts" (.ref lt) [])
theorem ff_T (lt lr : Addr) : (ff lt lr).lookup ("_texts" : Str) = some (.ref lt) := by
  unfold ff
  rw [lookup_putF, if_neg (by decide), lookup_putF, if_pos rfl]
theorem ff_R (lt lr : Addr) : (ff lt lr).lookup ("_rows" : Str) = some (.ref lr) := by
  unfold ff
  rw [lookup_putF, if_pos rfl]
theorem putF_len (f : Str) (v : V) : ∀ l : List (Str × V), (putF f v l).length ≤ l.length + 1
  | [] => by simp [putF]
  | (g, x) :: r => by
    have := putF_len f v r
    unfold putF
    split
    · simp
    · simp; omega
def FinAt (C f lt lr : Addr) (TS : List (List Nat)) (H : Hp) : Prop := (∃ dx, H f = some (.ins C dx (ff lt lr))) ∧ H lt = some (.lst (tv TS)) ∧ TiesAt H lr (rowsT TS)
theorem FinAt.same {C f lt lr : Addr} {TS : List (List Nat)} {H H' : Hp} (h : FinAt C f lt lr TS H) (s : Same H H') : FinAt C f lt lr TS H' := by
  obtain ⟨⟨dx, h1⟩, h2, h3⟩ := h
  exact ⟨⟨dx, s _ _ h1⟩, s _ _ h2, h3.same s⟩
theorem FinAt.kept {C f lt lr a : Addr} {TS : List (List Nat)} {H H' : Hp} (h : FinAt C f lt lr TS H) (k : Kept a H H') (hp : PotAt H a) (n1 : lt ≠ a) (n2 : lr ≠ a) : FinAt C f lt lr TS H' := by
  obtain ⟨⟨dx, h1⟩, h2, h3⟩ := h
  obtain ⟨x, y, hpa, _⟩ := id hp
  exact ⟨⟨dx, k _ _ h1 (ne_of h1 hpa (by intro z; cases z))⟩, k _ _ h2 n1, h3.kept k hp n2⟩
section
variable {P : Program} {w : World} {K : PySem.W.Frag} {mg : Str → Option Value} {base : Heap} {C : Addr}
def sp_in_common (_ : PySem.W.Frag) (_ : Addr) : Sp := fun vs H Q _ => ∃ a b, vs = [T a, T b] ∧ a.length ≤ 400 ∧ b.length ≤ 400 ∧ Q (T (cmn a b)) H
theorem ok_in_common (D : Def K mg "_in_common" s_in_common ["one", "other"]) (B : Bs mg) (Glb : Glo mg) (WK : WebK K mg C) :
    Good P w K mg base "_in_common" s_in_common ["one", "other"] 1 (sp_in_common K C) := by
  refine D.good fun f fd F => ?_
  refine F.ok sc_in_common (fun vs H Q E h => ?_) (fun cdv A outer s H vs Q E hr h => ?_)
  · obtain ⟨a, b, rfl, ha, hb, q⟩ := h
    first | rfl | (rcases h with ⟨_, _, rfl, _⟩ | ⟨_, rfl, _⟩ <;> rfl)
  obtain ⟨a, b, rfl, ha, hb, q⟩ := h
  refine ⟨_, (pss_cons (ps_set (i := 2) sc_in_common.nd rfl (by first | exact Or.inl rfl | exact Or.inr rfl) pe_int)
  (pss_cons (ps_while PassesOwn.never (PW.pt (pw_and (pt_cmpR op_lt (pv 2) (pe_callB (call_min2 rfl) (by rfl) B.min (by decide +kernel) (pa_cons (pe_callB call_len_str (by rfl) B.len (by decide +kernel) (pa_cons (pv 0) pa_nil)) (pa_cons (pe_callB call_len_str (by rfl) B.len (by decide +kernel) (pa_cons (pv 1) pa_nil)) pa_nil))) (nomark _)) (pw_and1 (pt_cmpR op_eq (pe_ix ix_str (pv 0) (pv 2) (fun _ _ => rfl)) (pe_ix ix_str (pv 1) (pv 2) (fun _ _ => rfl)) (nomark _)))))
    (pss_one (ps_aug (i := 2) sc_in_common.nd rfl (by first | exact Or.inl rfl | exact Or.inr rfl) pe_int ip_add)))
  (pss_one (ps_ret (pe_slice sl_str (pv 0) po_none (po_some (pv 2))))))), ?_⟩
  refine ⟨fun m σ H' => ∃ k : Nat, m + k = min a.length b.length ∧ σ = [some (T a), some (T b), some (.int (k : Int))] ∧ a.take k = b.take k ∧ H' = H, ⟨min a.length b.length, 0, rfl, rfl, rfl, rfl⟩, ?_⟩
  rintro m σ H' ⟨k, hm, rfl, hk, rfl⟩
  refine ⟨_, rfl, _, rfl, _, rfl, T_line (by omega), _, rfl, _, rfl, T_line (by omega), _, _, rfl, _, _, rfl, rfl, _, rfl, ?_⟩
  rw [T_len, T_len]
  have done : ¬ (k < a.length ∧ k < b.length ∧ a[k]? = b[k]?) → Q (T (cmn a b)) H' → Q (T (a.take k)) H' := fun h q => by
    rw [cmn_take k (by omega) (by omega) hk] at q
    · exact q
    · by_cases c1 : k = a.length
      · exact .inl c1
      · by_cases c2 : k = b.length
        · exact .inr (.inl c2)
        · exact .inr (.inr fun z => h ⟨by omega, by omega, z⟩)
  refine ite2 (fun c1 => ?_) (fun c1 => ?_)
  · have hlt : (k : Int) < (if (b.length : Int) < (a.length : Int) then (b.length : Int) else (a.length : Int)) := of_decide_eq_true c1
    have hl : k < a.length ∧ k < b.length := by split at hlt <;> omega
    have e1 : a[k]? = some (a[k]'hl.1) := List.getElem?_eq_getElem _
    have e2 : b[k]? = some (b[k]'hl.2) := List.getElem?_eq_getElem _
    refine ⟨_, rfl, _, rfl, _, _, _, rfl, rfl, T_line (by omega), at_nat e1, _, rfl, _, rfl, _, _, _, rfl, rfl, T_line (by omega), at_nat e2, rfl, _, rfl, ?_⟩
    refine ite2 (fun c2 => ?_) (fun c2 => ?_)
    · have e3 : a[k]'hl.1 = b[k]'hl.2 := by
        have : T [a[k]'hl.1] = T [b[k]'hl.2] := of_decide_eq_true c2
        exact List.cons.inj (T_inj.mp this) |>.1
      refine ⟨fun σ' H'' => ∃ k' : Nat, k' = k + 1 ∧ σ' = [some (T a), some (T b), some (.int (k' : Int))] ∧ H'' = H', fun σ' H'' ⟨k', h, e, e'⟩ => ⟨m - 1, by omega, k', by omega, e, ?_, e'⟩, ?_⟩
      · rw [h, List.take_succ, List.take_succ, hk, e1, e2, e3]
      · exact ⟨_, rfl, _, _, rfl, rfl, k + 1, rfl, rfl, rfl⟩
    · refine ⟨_, rfl, _, rfl, _, rfl, _, rfl, T_line (by omega), ?_⟩
      rw [cut_to]
      refine done (fun ⟨_, _, z⟩ => c2 ?_) q
      rw [e1, e2] at z
      exact decide_eq_true (by rw [Option.some.inj z])
  · refine ⟨_, rfl, _, rfl, _, rfl, _, rfl, T_line (by omega), ?_⟩
    rw [cut_to]
    refine done (fun ⟨h1, h2, _⟩ => c1 ?_) q
    refine decide_eq_true ?_
    split <;> omega
def spFinder___init__ (_ : PySem.W.Frag) (C : Addr) : Sp := fun vs H Q _ => ∃ f dx l TS, vs = [.ref f, .ref l] ∧ TxAt H l TS ∧ OkX TS ∧ H f = some (.ins C dx []) ∧ ∀ H' lt lr, H lt = none → H lr = none → Kept f H H' → FinAt C f lt lr TS H' → Q .non H'
theorem okFinder___init__ (D : DefI K C "__init__" "Finder.__init__" sFinder___init__ ["self", "texts"]) (B : Bs mg) (Glb : Glo mg) (WK : WebK K mg C)
    (h_need_texts : Good P w K mg base "_need_texts" s_need_texts ["texts"] 3 (sp_need_texts K C))
    (h_sorted_places : Good P w K mg base "_sorted_places" s_sorted_places ["texts"] 2 (sp_sorted_places K C)) :
    GoodJ P w K mg base C "__init__" "Finder.__init__" sFinder___init__ ["self", "texts"] 4 (spFinder___init__ K C) := by
  refine D.goodJ fun f fd F => ?_
  obtain ⟨f_need_texts, d_need_texts, O_need_texts, m_need_texts, k_need_texts, b_need_texts, F_need_texts⟩ := h_need_texts
  obtain ⟨f_sorted_places, d_sorted_places, O_sorted_places, m_sorted_places, k_sorted_places, b_sorted_places, F_sorted_places⟩ := h_sorted_places
  refine F.ok scFinder___init__ (fun vs H Q E h => ?_) (fun cdv A outer s H vs Q E hr h => ?_)
  · obtain ⟨f, dx, l, TS, rfl, hl, ho, hf, q⟩ := h
    first | rfl | (rcases h with ⟨_, _, rfl, _⟩ | ⟨_, rfl, _⟩ <;> rfl)
  obtain ⟨f, dx, l, TS, rfl, hl, ho, hf, q⟩ := h
  refine ⟨_, (pss_cons (ps_expr (pe_call O_need_texts hr rfl m_need_texts k_need_texts b_need_texts .nil pass0 (pa_cons (pv 1) pa_nil)))
  (pss_cons (ps_fld (pv 0) (pe_callTy call_list_of (by rfl) B.list (by decide +kernel) (pa_cons (pv 1) pa_nil)) rfl)
  (pss_one (ps_fld (pv 0) (pe_call O_sorted_places (hr.mono (by decide)) rfl m_sorted_places k_sorted_places b_sorted_places .nil pass0 (pa_cons (pv 1) pa_nil)) rfl)))), ?_⟩
  refine ⟨_, rfl, l, TS, rfl, hl, ho, fun H1 hS1 => ?_⟩
  have hf1 := hS1 _ _ hf
  have hl1 := hl.same hS1
  refine ⟨_, rfl, l, _, rfl, hl1.seq, fun lt nlt => ?_⟩
  have nfl : f ≠ lt := ne_of_none hf1 nlt
  refine ⟨_, rfl, f, C, dx, [], rfl, by rw [upd_ne nfl]; exact hf1, WK.cl, WK.nT, (by decide), ?_⟩
  generalize e2 : upd (upd H1 lt (.lst (tv TS))) f (.ins C dx (putF "_texts" (.ref lt) [])) = H2
  have k2 : Kept f H1 H2 := fun b o e n => by rw [← e2, upd_ne n, upd_ne (ne_of_none e nlt)]; exact e
  have hf2 : H2 f = some (.ins C dx (putF "_texts" (.ref lt) [])) := by rw [← e2]; exact upd_same
  have ht2 : H2 lt = some (.lst (tv TS)) := by rw [← e2, upd_ne nfl.symm]; exact upd_same
  have hl2 : TxAt H2 l TS := hl1.imp (fun h => k2 _ _ h (ne_of h hf1 (by intro z; cases z))) fun h => k2 _ _ h (ne_of h hf1 (by intro z; cases z))
  refine ⟨_, rfl, l, TS, rfl, hl2, ho, fun H3 lr nlr hS3 hlr => ?_⟩
  have hf3 := hS3 _ _ hf2
  have nfr : lr ≠ f := fun z => by rw [z, hf2] at nlr; cases nlr
  refine ⟨_, rfl, f, C, dx, _, rfl, hf3, WK.cl, WK.nR, Nat.lt_of_le_of_lt (putF_len _ _ _) (by decide), ?_⟩
  have nlr1 : H1 lr = none := by
    cases z : H1 lr with
    | none => rfl
    | some o =>
      have := k2 _ _ z nfr
      rw [nlr] at this
      cases this
  refine q _ lt lr (hS1.free nlt) (hS1.free nlr1) (fun b o e n => by rw [upd_ne n]; exact hS3 _ _ (k2 _ _ (hS1 _ _ e) n)) ⟨⟨dx, upd_same⟩, by rw [upd_ne nfl.symm]; exact hS3 _ _ ht2, ?_⟩
  obtain ⟨tas, t1, t2⟩ := hlr
  refine ⟨tas, by rw [upd_ne nfr]; exact t1, paired_mono (fun p e hp => ?_) t2⟩
  show upd _ _ _ p = _
  rw [upd_ne (ne_of hp hf3 (by intro z; cases z))]
  exact hp
def spFinder___eq__ (_ : PySem.W.Frag) (C : Addr) : Sp := fun vs H Q _ => ∃ a lt lr TS b, vs = [.ref a, .ref b] ∧ FinAt C a lt lr TS H ∧ ((∃ lt' lr' TS', FinAt C b lt' lr' TS' H ∧ OkX TS ∧ OkX TS' ∧ Q (.bl (decide (TS = TS'))) H) ∨ (∃ xs, H b = some (.lst xs) ∧ Q (.bl false) H))
theorem okFinder___eq__ (D : DefM K C "__eq__" "Finder.__eq__" sFinder___eq__ ["self", "other"]) (B : Bs mg) (Glb : Glo mg) (WK : WebK K mg C) :
    GoodM P w K mg base C "__eq__" "Finder.__eq__" sFinder___eq__ ["self", "other"] 1 (spFinder___eq__ K C) := by
  refine D.good fun f fd F => ?_
  refine F.ok scFinder___eq__ (fun vs H Q E h => ?_) (fun cdv A outer s H vs Q E hr h => ?_)
  · obtain ⟨a, lt, lr, TS, b, rfl, ⟨⟨dx, h1⟩, h2, h3⟩, q⟩ := h
    first | rfl | (rcases h with ⟨_, _, rfl, _⟩ | ⟨_, rfl, _⟩ <;> rfl)
  obtain ⟨a, lt, lr, TS, b, rfl, ⟨⟨dx, h1⟩, h2, h3⟩, q⟩ := h
  refine ⟨_, (pss_one (ps_ret (pe_and (pe_callB call_isi (by rfl) B.isinstance (by decide +kernel) (pa_cons (pv 1) (pa_cons (pe_glob (v := .ref C) (by rfl) WK.mgC rfl) pa_nil))) (pe_one (pe_cmpR (op_eqD hr.units) (pe_fld (pv 0) rfl) (pe_fld (pv 1) rfl) (nomark _)))))), ?_⟩
  rcases q with ⟨lt', lr', TS', ⟨⟨dx', h4⟩, h5, h6⟩, ho, ho', q⟩ | ⟨xs, h4, q⟩
  · refine ⟨_, rfl, _, _, _, _, true, rfl, .own C, .base (.ins h4 WK.cl WK.i1 WK.i2 WK.i3 WK.i4), WK.i5, _, rfl, iteT ?_⟩
    refine ⟨_, rfl, a, C, dx, _, _, rfl, h1, WK.cl, WK.nT, ff_T _ _, _, rfl, b, C, dx', _, _, rfl, h4, WK.cl, WK.nT, ff_T _ _, ?_⟩
    refine ⟨_, _, dp_tv h2, dp_tv h5, shaped_tv ho.tx, shaped_tv ho'.tx, ?_⟩
    rw [eqvAll_tv]
    exact q
  · exact ⟨_, rfl, _, _, _, _, false, rfl, .own C, .base (.lst h4), WK.kl, _, rfl, iteF q⟩
def spFinder_texts (_ : PySem.W.Frag) (C : Addr) : Sp := fun vs H Q _ => ∃ f lt lr TS, vs = [.ref f] ∧ FinAt C f lt lr TS H ∧ ∀ H' p, H p = none → Same H H' → H' p = some (.lst (tv TS)) → Q (.ref p) H'
theorem okFinder_texts (D : DefM K C "texts" "Finder.texts" sFinder_texts ["self"]) (B : Bs mg) (Glb : Glo mg) (WK : WebK K mg C) :
    GoodM P w K mg base C "texts" "Finder.texts" sFinder_texts ["self"] 1 (spFinder_texts K C) := by
  refine D.good fun f fd F => ?_
  refine F.ok scFinder_texts (fun vs H Q E h => ?_) (fun cdv A outer s H vs Q E hr h => ?_)
  · obtain ⟨f, lt, lr, TS, rfl, ⟨⟨dx, h1⟩, h2, h3⟩, q⟩ := h
    first | rfl | (rcases h with ⟨_, _, rfl, _⟩ | ⟨_, rfl, _⟩ <;> rfl)
  obtain ⟨f, lt, lr, TS, rfl, ⟨⟨dx, h1⟩, h2, h3⟩, q⟩ := h
  refine ⟨_, (pss_one (ps_ret (pe_callTy call_list_of (by rfl) B.list (by decide +kernel) (pa_cons (pe_fld (pv 0) rfl) pa_nil)))), ?_⟩
  exact ⟨_, rfl, f, C, dx, _, _, rfl, h1, WK.cl, WK.nT, ff_T _ _, _, _, rfl, .inl (SqL.of h2), fun l nl => q _ l nl (same_new nl _) upd_same⟩
def spFinder_rows (_ : PySem.W.Frag) (C : Addr) : Sp := fun vs H Q _ => ∃ f lt lr TS, vs = [.ref f] ∧ FinAt C f lt lr TS H ∧ ∀ H' p, H p = none → Same H H' → TiesAt H' p (rowsT TS) → Q (.ref p) H'
theorem okFinder_rows (D : DefM K C "rows" "Finder.rows" sFinder_rows ["self"]) (B : Bs mg) (Glb : Glo mg) (WK : WebK K mg C) :
    GoodM P w K mg base C "rows" "Finder.rows" sFinder_rows ["self"] 1 (spFinder_rows K C) := by
  refine D.good fun f fd F => ?_
  refine F.ok scFinder_rows (fun vs H Q E h => ?_) (fun cdv A outer s H vs Q E hr h => ?_)
  · obtain ⟨f, lt, lr, TS, rfl, ⟨⟨dx, h1⟩, h2, ⟨tas, h3, h4⟩⟩, q⟩ := h
    first | rfl | (rcases h with ⟨_, _, rfl, _⟩ | ⟨_, rfl, _⟩ <;> rfl)
  obtain ⟨f, lt, lr, TS, rfl, ⟨⟨dx, h1⟩, h2, ⟨tas, h3, h4⟩⟩, q⟩ := h
  refine ⟨_, (pss_one (ps_ret (pe_callTy call_list_of (by rfl) B.list (by decide +kernel) (pa_cons (pe_fld (pv 0) rfl) pa_nil)))), ?_⟩
  exact ⟨_, rfl, f, C, dx, _, _, rfl, h1, WK.cl, WK.nR, ff_R _ _, _, _, rfl, .inl (SqL.of h3), fun l nl => q _ l nl (same_new nl _) ⟨tas, upd_same, paired_mono (fun p e hp => same_new nl _ _ _ hp) h4⟩⟩
end
end My
set_option maxHeartbeats 4000000
namespace My
open PySem L2 PyProof.Rows PySem.W
/-! ### rows in sequence -/
theorem lt_R {a b : Rd3} (h : a.1 < b.1) : dataLt (encR a) (encR b) = true := by
  show lexLt itemOrd (.inl 1 :: .inr a.1 :: .inl 1 :: .inl (a.2.1 : Int) :: .inl 1 :: .inl (a.2.2 : Int) :: .inl 0 :: []) (.inl 1 :: .inr b.1 :: .inl 1 :: .inl (b.2.1 : Int) :: .inl 1 :: .inl (b.2.2 : Int) :: .inl 0 :: []) = true
  rw [lex_self]
  exact lex_true.mpr (.inl (decide_eq_true h))
def lt2 (a b : Nat × Nat) : Prop := a.1 < b.1 ∨ a.1 = b.1 ∧ a.2 < b.2
theorem le_lt2 {a b : Nat × Nat} (h : lt2 a b) : dataLe false enc2 a b = true := by
  rw [le_def]
  have : dataLt (enc2 b) (enc2 a) = false := by
    show lexLt itemOrd (.inl 1 :: .inl (b.1 : Int) :: .inl 1 :: .inl (b.2 : Int) :: .inl 0 :: []) (.inl 1 :: .inl (a.1 : Int) :: .inl 1 :: .inl (a.2 : Int) :: .inl 0 :: []) = false
    rw [lex_self]
    rcases h with h | ⟨h1, h2⟩
    · exact lex_false.mpr ⟨decide_eq_false (by omega), .inl (decide_eq_true (by omega))⟩
    · rw [h1, lex_self, lex_self]
      exact lex_false.mpr ⟨decide_eq_false (by omega), .inl (decide_eq_true (by omega))⟩
  rw [this]
  rfl
theorem plc_up (TS : List (List Nat)) : (plc TS).Pairwise lt2 := by
  unfold plc plcN
  rw [List.pairwise_flatMap]
  constructor
  · intro n hn
    unfold rowP
    rw [List.pairwise_map]
    exact List.pairwise_lt_range.imp fun h => .inr ⟨rfl, h⟩
  · refine List.pairwise_lt_range.imp fun {a b} h x hx y hy => ?_
    unfold rowP at hx hy
    obtain ⟨_, _, rfl⟩ := List.mem_map.mp hx
    obtain ⟨_, _, rfl⟩ := List.mem_map.mp hy
    exact .inl h
theorem rowsT_perm (TS : List (List Nat)) : (rowsT TS).Perm (plc TS) := by
  unfold rowsT
  refine ((sortE_perm _).map _).trans ?_
  unfold readsP
  rw [List.map_map]
  show ((plc TS).map fun e => e).Perm _
  rw [List.map_id']
theorem rowsT_up (TS : List (List Nat)) : (rowsT TS).Pairwise fun e e' => rst TS e ≤ rst TS e' := by
  have h : (sortE encR (readsP TS (plc TS))).Pairwise fun a b => dataLe false encR a b = true := List.pairwise_mergeSort le_trans' le_total' _
  unfold rowsT
  rw [List.pairwise_map]
  refine h.imp_of_mem fun {a b} ha hb k => ?_
  unfold readsP at ha hb
  obtain ⟨e, _, rfl⟩ := List.mem_map.mp (sortE_mem.mp ha)
  obtain ⟨e', _, rfl⟩ := List.mem_map.mp (sortE_mem.mp hb)
  rw [← List.not_lt]
  intro z
  rw [le_def, lt_R z] at k
  cases k
theorem rowsT_len {TS : List (List Nat)} (ho : OkX TS) : (rowsT TS).length ≤ 400 := by
  rw [(rowsT_perm TS).length_eq]
  exact plcN_le ho (Nat.le_refl _)
theorem rowsT_mem {TS : List (List Nat)} {i : Nat} {e : Nat × Nat} (h : (rowsT TS)[i]? = some e) : e.1 < TS.length ∧ e.2 < (TS.getD e.1 []).length := plc_mem.mp ((rowsT_perm TS).mem_iff.mp (List.mem_of_getElem? h))
theorem rows_le {TS : List (List Nat)} {i j : Nat} {e e' : Nat × Nat} (h : i ≤ j) (h1 : (rowsT TS)[i]? = some e) (h2 : (rowsT TS)[j]? = some e') : rst TS e ≤ rst TS e' := by
  obtain ⟨l1, rfl⟩ := List.getElem?_eq_some_iff.mp h1
  obtain ⟨l2, rfl⟩ := List.getElem?_eq_some_iff.mp h2
  rcases Nat.lt_or_ge i j with c | c
  · exact List.pairwise_iff_getElem.mp (rowsT_up TS) i j l1 l2 c
  · have : i = j := by omega
    subst this
    exact List.not_lt.mp (List.lt_irrefl _)
/-! ### a stretch of rows -/
def prd (b : Bool) (W r : List Nat) : Bool := decide (r < W) || (b && decide (r.take W.length = W))
theorem pre_between : ∀ {W r s : List Nat}, W ≤ r → r ≤ W ++ s → r.take W.length = W
  | [], _, _, _, _ => rfl
  | w :: W, [], s, h, _ => absurd h (by rw [← List.not_lt]; intro z; exact z (List.nil_lt_cons w W))
  | w :: W, x :: r, s, h, k => by
    rw [List.cons_append] at k
    rw [List.cons_le_cons_iff] at h k
    have e : w = x := by omega
    subst e
    rcases h with h | ⟨_, h⟩
    · omega
    rcases k with k | ⟨_, k⟩
    · omega
    show w :: r.take W.length = _
    rw [pre_between h k]
theorem take_pre {W r : List Nat} : r.take W.length = W ↔ W <+: r := ⟨fun h => List.prefix_iff_eq_take.mpr h.symm, fun h => (List.prefix_iff_eq_take.mp h).symm⟩
theorem not_lt_pre {W r : List Nat} (h : r < W) : r.take W.length ≠ W := fun z => absurd (List.IsPrefix.le (take_pre.mp z)) (by rw [← List.not_lt]; exact fun k => k h)
theorem prd_down {b : Bool} {W r r' : List Nat} (h : r ≤ r') (k : prd b W r' = true) : prd b W r = true := by
  unfold prd at k ⊢
  simp only [Bool.or_eq_true, Bool.and_eq_true, decide_eq_true_iff] at k ⊢
  rcases k with k | ⟨hb, k⟩
  · exact .inl (List.lt_of_le_of_lt h k)
  · by_cases c : r < W
    · exact .inl c
    · obtain ⟨s, hs⟩ := take_pre.mp k
      exact .inr ⟨hb, pre_between (s := s) (List.not_lt.mp c) (by rw [hs]; exact h)⟩
structure CutAt (TS : List (List Nat)) (b : Bool) (W : List Nat) (k : Nat) : Prop where
  le : k ≤ (rowsT TS).length
  at_ : ∀ i e, (rowsT TS)[i]? = some e → (prd b W (rst TS e) = true ↔ i < k)
theorem cuts_le {TS : List (List Nat)} {W : List Nat} {f k : Nat} (h : CutAt TS false W f) (g : CutAt TS true W k) : f ≤ k := by
  rcases Nat.lt_or_ge k f with c | c
  · have hk : k < (rowsT TS).length := Nat.lt_of_lt_of_le c h.le
    have e := List.getElem?_eq_getElem hk
    have h1 := (h.at_ k _ e).mpr c
    refine absurd ((g.at_ k _ e).mp ?_) (Nat.lt_irrefl _)
    unfold prd at h1 ⊢
    simp only [Bool.false_and, Bool.or_false] at h1
    rw [h1]
    rfl
  · exact c
theorem cuts_at {TS : List (List Nat)} {W : List Nat} {f k : Nat} (h : CutAt TS false W f) (g : CutAt TS true W k) {i : Nat} {e : Nat × Nat} (he : (rowsT TS)[i]? = some e) : atW TS W e = true ↔ f ≤ i ∧ i < k := by
  rw [← g.at_ i e he, ← Nat.not_lt, ← h.at_ i e he]
  unfold prd atW
  simp only [Bool.false_and, Bool.or_false, Bool.true_and, Bool.or_eq_true, decide_eq_true_iff]
  constructor
  · intro z
    exact ⟨fun q => not_lt_pre q z, .inr z⟩
  · rintro ⟨h1, h2⟩
    exact h2.resolve_left h1
theorem filt_cut {α : Type} {L : List α} {p : α → Bool} {f k : Nat} (hk : f ≤ k) (h : ∀ i e, L[i]? = some e → (p e = true ↔ f ≤ i ∧ i < k)) : L.filter p = (L.drop f).take (k - f) := by
  have e : L = L.take f ++ ((L.drop f).take (k - f) ++ L.drop k) := by
    have : L.drop k = (L.drop f).drop (k - f) := by rw [List.drop_drop]; congr 1; omega
    rw [this, List.take_append_drop, List.take_append_drop]
  conv => lhs; rw [e]
  rw [List.filter_append, List.filter_append]
  have h1 : (L.take f).filter p = [] := by
    rw [List.filter_eq_nil_iff]
    intro a ha z
    obtain ⟨i, hi⟩ := List.getElem?_of_mem ha
    rw [List.getElem?_take] at hi
    split at hi
    · have := (h i a hi).mp z
      omega
    · cases hi
  have h2 : ((L.drop f).take (k - f)).filter p = (L.drop f).take (k - f) := by
    rw [List.filter_eq_self]
    intro a ha
    obtain ⟨i, hi⟩ := List.getElem?_of_mem ha
    rw [List.getElem?_take] at hi
    split at hi
    · rw [List.getElem?_drop] at hi
      exact (h _ a hi).mpr ⟨by omega, by omega⟩
    · cases hi
  have h3 : (L.drop k).filter p = [] := by
    rw [List.filter_eq_nil_iff]
    intro a ha z
    obtain ⟨i, hi⟩ := List.getElem?_of_mem ha
    rw [List.getElem?_drop] at hi
    have := (h _ a hi).mp z
    omega
  rw [h1, h2, h3, List.nil_append, List.append_nil]
theorem filt_rows (TS : List (List Nat)) (W : List Nat) : ((rowsT TS).filter (atW TS W)).Perm (wordP TS W) := (rowsT_perm TS).filter _
theorem sort_cut {TS : List (List Nat)} {W : List Nat} {f k : Nat} (h : CutAt TS false W f) (g : CutAt TS true W k) : sortE enc2 (((rowsT TS).drop f).take (k - f)) = wordP TS W := by
  rw [← filt_cut (cuts_le h g) fun i e he => cuts_at h g he, sortE_eq enc2_ok (filt_rows TS W)]
  exact List.mergeSort_of_pairwise (((plc_up TS).filter _).imp fun h => le_lt2 h)
theorem len_cut {TS : List (List Nat)} {W : List Nat} {f k : Nat} (h : CutAt TS false W f) (g : CutAt TS true W k) : (wordP TS W).length = k - f := by
  rw [← (filt_rows TS W).length_eq, filt_cut (cuts_le h g) fun i e he => cuts_at h g he, List.length_take, List.length_drop]
  have := g.le
  omega
/-! ### the longest word that comes again -/
def rrow (TS : List (List Nat)) (i : Nat) : List Nat := rst TS ((rowsT TS).getD i (0, 0))
def cmnAt (TS : List (List Nat)) (i : Nat) : List Nat := cmn (rrow TS i) (rrow TS (i + 1))
def lng (TS : List (List Nat)) : Nat → List Nat
  | 0 => []
  | i + 1 => if (lng TS i).length < (cmnAt TS i).length then cmnAt TS i else lng TS i
theorem lng_ge (TS : List (List Nat)) : ∀ i j, j < i → (cmnAt TS j).length ≤ (lng TS i).length
  | i + 1, j, h => by
    unfold lng
    by_cases c : j = i
    · subst c
      split <;> omega
    · have := lng_ge TS i j (by omega)
      split <;> omega
theorem lng_from (TS : List (List Nat)) : ∀ i, lng TS i = [] ∨ ∃ j, j < i ∧ lng TS i = cmnAt TS j ∧ ∀ j', j' < j → (cmnAt TS j').length < (lng TS i).length
  | 0 => .inl rfl
  | i + 1 => by
    unfold lng
    split
    · rename_i c
      exact .inr ⟨i, by omega, rfl, fun j' h => Nat.lt_of_le_of_lt (lng_ge TS i j' h) c⟩
    · exact (lng_from TS i).imp id fun ⟨j, h1, h2, h3⟩ => ⟨j, by omega, h2, h3⟩
structure Again (TS : List (List Nat)) (x : List Nat) : Prop where
  two : x = [] ∨ 2 ≤ (wordP TS x).length
  most : ∀ y, y ≠ [] → 2 ≤ (wordP TS y).length → y.length ≤ x.length ∧ (y.length = x.length → x ≤ y)
theorem Again.one {TS : List (List Nat)} {x y : List Nat} (h : Again TS x) (k : Again TS y) : x = y := by
  by_cases cx : x = []
  · by_cases cy : y = []
    · rw [cx, cy]
    · have := (h.most y cy (k.two.resolve_left cy)).1
      rw [cx] at this
      exact absurd (List.length_eq_zero_iff.mp (by simpa using this)) cy
  · by_cases cy : y = []
    · have := (k.most x cx (h.two.resolve_left cx)).1
      rw [cy] at this
      exact absurd (List.length_eq_zero_iff.mp (by simpa using this)) cx
    · have h1 := h.most y cy (k.two.resolve_left cy)
      have h2 := k.most x cx (h.two.resolve_left cx)
      exact List.le_antisymm (h1.2 (by omega)) (h2.2 (by omega))
theorem two_of {α : Type} {p : α → Bool} {L : List α} {i j : Nat} {a b : α} (h : i < j) (h1 : L[i]? = some a) (h2 : L[j]? = some b) (p1 : p a = true) (p2 : p b = true) : 2 ≤ (L.filter p).length := by
  rw [← List.take_append_drop j L, List.filter_append, List.length_append]
  have m1 : a ∈ (L.take j).filter p := List.mem_filter.mpr ⟨List.mem_of_getElem? (i := i) (by rw [List.getElem?_take, if_pos h]; exact h1), p1⟩
  have m2 : b ∈ (L.drop j).filter p := List.mem_filter.mpr ⟨List.mem_of_getElem? (i := 0) (by rw [List.getElem?_drop]; exact h2), p2⟩
  have := List.length_pos_of_mem m1
  have := List.length_pos_of_mem m2
  omega
theorem ex_two {α : Type} {p : α → Bool} : ∀ {L : List α}, 2 ≤ (L.filter p).length → ∃ (i j : Nat) (a b : α), i < j ∧ L[i]? = some a ∧ L[j]? = some b ∧ p a = true ∧ p b = true
  | [], h => absurd h (by simp)
  | x :: r, h => by
    rw [List.filter_cons] at h
    by_cases c : p x = true
    · rw [if_pos c, List.length_cons] at h
      have : 0 < (r.filter p).length := by omega
      obtain ⟨b, hb⟩ := List.exists_mem_of_length_pos this
      obtain ⟨h1, h2⟩ := List.mem_filter.mp hb
      obtain ⟨j, hj⟩ := List.getElem?_of_mem h1
      exact ⟨0, j + 1, x, b, by omega, rfl, hj, c, h2⟩
    · rw [if_neg c] at h
      obtain ⟨i, j, a, b, h1, h2, h3, h4⟩ := ex_two h
      exact ⟨i + 1, j + 1, a, b, by omega, h2, h3, h4⟩
theorem pre_le : ∀ {x y r r' : List Nat}, x <+: r → y <+: r' → r ≤ r' → x.length = y.length → x ≤ y
  | [], _, _, _, _, _, _, _ => List.not_lt.mp (List.not_lt_nil _)
  | x :: xs, [], _, _, _, _, _, h => absurd h (by simp)
  | x :: xs, y :: ys, r, r', h1, h2, h3, h4 => by
    obtain ⟨s, rfl⟩ := h1
    obtain ⟨s', rfl⟩ := h2
    rw [List.cons_append, List.cons_append, List.cons_le_cons_iff] at h3
    rw [List.cons_le_cons_iff]
    exact h3.imp id fun ⟨e, h⟩ => ⟨e, pre_le (List.prefix_append xs s) (List.prefix_append ys s') h (by simpa using h4)⟩
theorem rrow_at {TS : List (List Nat)} {i : Nat} {e : Nat × Nat} (h : (rowsT TS)[i]? = some e) : rrow TS i = rst TS e := by
  unfold rrow
  rw [List.getD_eq_getElem?_getD, h]
  rfl
theorem lng_again {TS : List (List Nat)} : Again TS (lng TS ((rowsT TS).length - 1)) := by
  have hw : ∀ y, (wordP TS y).length = ((rowsT TS).filter (atW TS y)).length := fun y => (filt_rows TS y).length_eq.symm
  constructor
  · rcases lng_from TS ((rowsT TS).length - 1) with h | ⟨j, h1, h2, _⟩
    · exact .inl h
    · right
      rw [hw, h2]
      have e1 := List.getElem?_eq_getElem (l := rowsT TS) (i := j) (by omega)
      have e2 := List.getElem?_eq_getElem (l := rowsT TS) (i := j + 1) (by omega)
      refine two_of (Nat.lt_succ_self j) e1 e2 (decide_eq_true ?_) (decide_eq_true ?_)
      · rw [← rrow_at e1]
        exact take_pre.mpr (cmn_left _ _)
      · rw [← rrow_at e2]
        exact take_pre.mpr (cmn_right _ _)
  · intro y hy h2
    rw [hw] at h2
    obtain ⟨i, j, a, b, hij, ha, hb, pa, pb⟩ := ex_two h2
    have hj := (List.getElem?_eq_some_iff.mp hb).1
    have e2 := List.getElem?_eq_getElem (l := rowsT TS) (i := i + 1) (by omega)
    have q1 : y <+: rrow TS i := by rw [rrow_at ha]; exact take_pre.mp (of_decide_eq_true pa)
    have q3 : y <+: rrow TS j := by rw [rrow_at hb]; exact take_pre.mp (of_decide_eq_true pb)
    have q2 : y <+: rrow TS (i + 1) := by
      obtain ⟨s, hs⟩ := q3
      refine take_pre.mp (pre_between (s := s) (List.le_trans (List.IsPrefix.le q1) ?_) ?_)
      · rw [rrow_at ha, rrow_at e2]
        exact rows_le (Nat.le_succ i) ha e2
      · rw [hs, rrow_at e2, rrow_at hb]
        exact rows_le (by omega) e2 hb
    have q4 : y <+: cmnAt TS i := cmn_pre q1 q2
    have q5 := lng_ge TS ((rowsT TS).length - 1) i (by omega)
    refine ⟨Nat.le_trans q4.length_le q5, fun hl => ?_⟩
    rcases lng_from TS ((rowsT TS).length - 1) with h | ⟨m, h1, h3, h4⟩
    · rw [h] at hl
      exact absurd (List.length_eq_zero_iff.mp hl) hy
    · have em := List.getElem?_eq_getElem (l := rowsT TS) (i := m) (by omega)
      have hmi : m ≤ i := by
        rcases Nat.lt_or_ge i m with c | c
        · have := h4 i c
          have := q4.length_le
          omega
        · exact c
      refine pre_le (r := rrow TS m) (r' := rrow TS i) ?_ q1 ?_ hl.symm
      · rw [h3]
        exact cmn_left _ _
      · rw [rrow_at em, rrow_at ha]
        exact rows_le hmi em ha
end My
set_option maxHeartbeats 4000000
namespace My
open PySem L2 PyProof.Rows
theorem starts_T (a b : List Nat) : Txt.startswith (tS a) (tS b) = decide (a.take b.length = b) := by
  show (decide (0 + (tS b).length ≤ (tS a).length) && ((tS a).cps.extract 0 (0 + (tS b).length) == (tS b).cps)) = _
  rw [T_len, T_len, Nat.zero_add]
  rw [Bool.eq_iff_iff]
  simp only [Bool.and_eq_true, decide_eq_true_iff, beq_iff_eq]
  have e : (tS a).cps.extract 0 b.length = (a.take b.length).toArray := by
    apply Array.toList_inj.mp
    simp
  rw [e]
  constructor
  · rintro ⟨_, h⟩
    simpa using congrArg Array.toList h
  · intro h
    refine ⟨?_, by rw [h]⟩
    have := congrArg List.length h
    rw [List.length_take] at this
    omega
theorem cmnAt_eq {TS : List (List Nat)} {i : Nat} {a b : Nat × Nat} (h1 : (rowsT TS)[i]? = some a) (h2 : (rowsT TS)[i + 1]? = some b) : cmnAt TS i = cmn (rst TS a) (rst TS b) := by
  unfold cmnAt
  rw [rrow_at h1, rrow_at h2]
theorem cmn_len_le (a b : List Nat) : (cmn a b).length ≤ a.length := (cmn_left a b).length_le
theorem cutV_mid {xs : List V} {p q : Nat} (hp : p ≤ xs.length) (hq : q ≤ xs.length) : cutV xs (some (p : Int)) (some (q : Int)) = (xs.drop p).take (q - p) := by
  unfold cutV
  rw [HT.sIx_nat, HT.sIx_nat, Nat.min_eq_left hp, Nat.min_eq_left hq]
theorem paired_take {α β : Type} {F : α → β → Prop} : ∀ {l1 : List α} {l2 : List β} (k : Nat), Paired F l1 l2 → Paired F (l1.take k) (l2.take k)
  | _, _, 0, _ => .nil
  | _, _, _ + 1, .nil => .nil
  | _, _, k + 1, .cons r t => .cons r (paired_take k t)
theorem paired_drop {α β : Type} {F : α → β → Prop} : ∀ {l1 : List α} {l2 : List β} (k : Nat), Paired F l1 l2 → Paired F (l1.drop k) (l2.drop k)
  | _, _, 0, h => h
  | _, _, _ + 1, .nil => .nil
  | _, _, k + 1, .cons _ t => paired_drop k t
theorem FinAt.row {C f lt lr : Addr} {TS : List (List Nat)} {H : Hp} (h : FinAt C f lt lr TS H) {i : Nat} {e : Nat × Nat} (he : (rowsT TS)[i]? = some e) : ∃ xs p, H lr = some (.lst xs) ∧ atI xs (i : Int) = some (.ref p) ∧ H p = some (.tup [.int (e.1 : Int), .int (e.2 : Int)]) := h.2.2.at_ he
theorem ff_no (lt lr : Addr) {m : Str} (h1 : ¬ m = "_rows") (h2 : ¬ m = "_texts") : (ff lt lr).lookup m = none := by
  unfold ff
  rw [lookup_putF, if_neg h1, lookup_putF, if_neg h2]
  rfl
theorem txt_at {TS : List (List Nat)} {n : Nat} (h : n < TS.length) : (tv TS)[n]? = some (T (TS.getD n [])) := by
  rw [List.getElem?_map, List.getD_eq_getElem?_getD, List.getElem?_eq_getElem h]
  rfl
theorem txt_len {TS : List (List Nat)} (ho : OkX TS) {n : Nat} (h : n < TS.length) : (TS.getD n []).length ≤ 400 := by
  have := (ho.tx _ (show TS.getD n [] ∈ TS by rw [List.getD_eq_getElem?_getD, List.getElem?_eq_getElem h]; exact List.getElem_mem _)).len
  rwa [T_len] at this
section
variable {P : Program} {w : World} {K : PySem.W.Frag} {mg : Str → Option Value} {base : Heap} {C : Addr}
def spFinder__read_from (_ : PySem.W.Frag) (C : Addr) : Sp := fun vs H Q _ => ∃ f lt lr TS i e, vs = [.ref f, .int ((i : Nat) : Int)] ∧ FinAt C f lt lr TS H ∧ OkX TS ∧ (rowsT TS)[i]? = some e ∧ Q (T (rst TS e)) H
theorem okFinder__read_from (D : DefM K C "_read_from" "Finder._read_from" sFinder__read_from ["self", "at"]) (B : Bs mg) (Glb : Glo mg) (WK : WebK K mg C) :
    GoodM P w K mg base C "_read_from" "Finder._read_from" sFinder__read_from ["self", "at"] 1 (spFinder__read_from K C) := by
  refine D.good fun f fd F => ?_
  refine F.ok scFinder__read_from (fun vs H Q E h => ?_) (fun cdv A outer s H vs Q E hr h => ?_)
  · obtain ⟨f, lt, lr, TS, i, e, rfl, hF, ho, he, q⟩ := h
    first | rfl | (rcases h with ⟨_, _, rfl, _⟩ | ⟨_, rfl, _⟩ <;> rfl)
  obtain ⟨f, lt, lr, TS, i, e, rfl, hF, ho, he, q⟩ := h
  refine ⟨_, (pss_cons (ps_asg (pe_ix ix_list (pe_fld (pv 0) rfl) (pv 1) (fun _ _ => rfl)) (pg_tup rfl (pgs_cons (pg_name (i := 2) scFinder__read_from.nd rfl (by first | exact Or.inl rfl | exact Or.inr rfl)) (pgs_cons (pg_name (i := 3) scFinder__read_from.nd rfl (by first | exact Or.inl rfl | exact Or.inr rfl)) pgs_nil))))
  (pss_one (ps_ret (pe_slice sl_str (pe_ix ix_list (pe_fld (pv 0) rfl) (pv 2) (fun _ _ => rfl)) (po_some (pv 3)) po_none)))), ?_⟩
  obtain ⟨xs, p, r1, r2, r3⟩ := hF.row he
  obtain ⟨⟨dx, h1⟩, h2, h3⟩ := hF
  obtain ⟨m1, m2⟩ := rowsT_mem he
  have htl := txt_len ho m1
  refine ⟨_, rfl, f, C, dx, _, _, rfl, h1, WK.cl, WK.nR, ff_R _ _, _, rfl, _, _, _, _, rfl, rfl, SqL.of r1, r2, ?_⟩
  refine ⟨p, _, rfl, SqT.of r3, rfl, _, _, rfl, _, _, rfl, rfl, ?_⟩
  refine ⟨_, rfl, f, C, dx, _, _, rfl, h1, WK.cl, WK.nT, ff_T _ _, _, rfl, _, _, _, _, rfl, rfl, SqL.of h2, atI_nat (txt_at m1), _, rfl, _, rfl, _, rfl, T_line (by omega), ?_⟩
  rw [cut_from]
  exact q
def spFinder__rows_ahead (_ : PySem.W.Frag) (C : Addr) : Sp := fun vs H Q _ => ∃ f lt lr TS W b, vs = [.ref f, T W, .bl b] ∧ FinAt C f lt lr TS H ∧ OkX TS ∧ W.length ≤ 400 ∧ ∀ k, CutAt TS b W k → Q (.int ((k : Nat) : Int)) H
theorem okFinder__rows_ahead (D : DefM K C "_rows_ahead" "Finder._rows_ahead" sFinder__rows_ahead ["self", "word", "with_word"]) (B : Bs mg) (Glb : Glo mg) (WK : WebK K mg C)
    (hFinder__read_from : GoodM P w K mg base C "_read_from" "Finder._read_from" sFinder__read_from ["self", "at"] 1 (spFinder__read_from K C)) :
    GoodM P w K mg base C "_rows_ahead" "Finder._rows_ahead" sFinder__rows_ahead ["self", "word", "with_word"] 3 (spFinder__rows_ahead K C) := by
  refine D.good fun f fd F => ?_
  obtain ⟨fFinder__read_from, dFinder__read_from, OFinder__read_from, tFinder__read_from, bFinder__read_from, FFinder__read_from⟩ := hFinder__read_from
  refine F.ok scFinder__rows_ahead (fun vs H Q E h => ?_) (fun cdv A outer s H vs Q E hr h => ?_)
  · obtain ⟨f, lt, lr, TS, W, b, rfl, hF, ho, hW, q⟩ := h
    first | rfl | (rcases h with ⟨_, _, rfl, _⟩ | ⟨_, rfl, _⟩ <;> rfl)
  obtain ⟨f, lt, lr, TS, W, b, rfl, hF, ho, hW, q⟩ := h
  refine ⟨_, (pss_cons (ps_set (i := 3) scFinder__rows_ahead.nd rfl (by first | exact Or.inl rfl | exact Or.inr rfl) pe_int)
  (pss_cons (ps_set (i := 4) scFinder__rows_ahead.nd rfl (by first | exact Or.inl rfl | exact Or.inr rfl) (pe_callB call_len_seq (by rfl) B.len (by decide +kernel) (pa_cons (pe_fld (pv 0) rfl) pa_nil)))
  (pss_cons (ps_while PassesOwn.never (pt_cmpR op_lt (pv 3) (pv 4) (nomark _))
    (pss_cons (ps_set (i := 5) scFinder__rows_ahead.nd rfl (by first | exact Or.inl rfl | exact Or.inr rfl) (pe_op op_fdiv (pe_op op_add (pv 3) (pv 4)) pe_int))
  (pss_cons (ps_set (i := 6) scFinder__rows_ahead.nd rfl (by first | exact Or.inl rfl | exact Or.inr rfl) (pe_meth (pv 0) WK.cl tFinder__read_from OFinder__read_from (hr.mono (by decide)) bFinder__read_from .nil pass0 (pa_cons (pv 5) pa_nil)))
  (pss_one (ps_if (PW.pt (pw_or (pt_cmpR op_lt_str (pv 6) (pv 1) (nomark _)) (pw_or1 (PW.pt (pw_and (pt_val (pv 2)) (pw_and1 (pt_val (pe_bm PySem.F.plainAttrs_str PySem.F.slot_str_startswith PySem.F.type_str_startswith mt_startswith (pv 6) (pa_cons (pv 1) pa_nil)))))))))
    (pss_one (ps_set (i := 3) scFinder__rows_ahead.nd rfl (by first | exact Or.inl rfl | exact Or.inr rfl) (pe_op op_add (pv 5) pe_int))) (pss_one (ps_set (i := 4) scFinder__rows_ahead.nd rfl (by first | exact Or.inl rfl | exact Or.inr rfl) (pv 5))))))))
  (pss_one (ps_ret (pv 3)))))), ?_⟩
  obtain ⟨⟨dx, h1⟩, h2, h3⟩ := id hF
  obtain ⟨rxs, r1, r2⟩ := h3.get
  have hrl := rowsT_len ho
  refine ⟨_, rfl, f, C, dx, _, _, rfl, h1, WK.cl, WK.nR, ff_R _ _, lr, _, rfl, .inl (SqL.of r1), ?_⟩
  rw [r2]
  refine ⟨fun m σ H' => ∃ (lo hi : Nat) (v1 v2 : Option V), lo ≤ hi ∧ hi ≤ (rowsT TS).length ∧ m = hi - lo ∧ σ = [some (.ref f), some (T W), some (.bl b), some (.int (lo : Int)), some (.int (hi : Int)), v1, v2] ∧ (∀ i e, (rowsT TS)[i]? = some e → i < lo → prd b W (rst TS e) = true) ∧ (∀ i e, (rowsT TS)[i]? = some e → hi ≤ i → ¬ prd b W (rst TS e) = true) ∧ H' = H, ⟨_, 0, (rowsT TS).length, none, none, Nat.zero_le _, Nat.le_refl _, rfl, rfl, fun i e _ h => absurd h (Nat.not_lt_zero _), fun i e he h => absurd (List.getElem?_eq_some_iff.mp he).1 (Nat.not_lt.mpr h), rfl⟩, ?_⟩
  rintro m σ H' ⟨lo, hi, v1, v2, g1, g2, rfl, rfl, g3, g4, rfl⟩
  refine ⟨_, rfl, _, rfl, _, _, rfl, rfl, _, rfl, ?_⟩
  refine ite2 (fun c1 => ?_) (fun c1 => ?_)
  · have hlt : lo < hi := by
      have : (lo : Int) < (hi : Int) := of_decide_eq_true c1
      omega
    refine ⟨fun σ' H'' => ∃ (lo' hi' : Nat) (v1 v2 : Option V), lo' ≤ hi' ∧ hi' ≤ (rowsT TS).length ∧ hi' - lo' < hi - lo ∧ σ' = [some (.ref f), some (T W), some (.bl b), some (.int (lo' : Int)), some (.int (hi' : Int)), v1, v2] ∧ (∀ i e, (rowsT TS)[i]? = some e → i < lo' → prd b W (rst TS e) = true) ∧ (∀ i e, (rowsT TS)[i]? = some e → hi' ≤ i → ¬ prd b W (rst TS e) = true) ∧ H'' = H', fun σ' H'' ⟨lo', hi', v1, v2, k1, k2, k3, k4, k5, k6, k7⟩ => ⟨_, k3, lo', hi', v1, v2, k1, k2, rfl, k4, k5, k6, k7⟩, ?_⟩
    have hmid : ((lo : Int) + (hi : Int)) / 2 = (((lo + hi) / 2 : Nat) : Int) := by omega
    have he : (rowsT TS)[(lo + hi) / 2]? = some ((rowsT TS)[(lo + hi) / 2]'(by omega)) := List.getElem?_eq_getElem _
    obtain ⟨m1, m2⟩ := rowsT_mem he
    refine ⟨_, rfl, _, rfl, _, _, rfl, rfl, _, _, rfl, rfl, ⟨by omega, by omega⟩, ?_⟩
    rw [show (fun i j : Int => V.int (i / j)) ((lo : Int) + (hi : Int)) 2 = V.int (((lo + hi) / 2 : Nat) : Int) from congrArg V.int hmid]
    refine ⟨_, rfl, f, dx, _, rfl, h1, ff_no _ _ (by decide) (by decide), _, rfl, f, lt, lr, TS, (lo + hi) / 2, _, rfl, hF, ho, he, ?_⟩
    generalize er : rst TS ((rowsT TS)[(lo + hi) / 2]'(by omega)) = r at *
    have up : prd b W r = true → ∀ i e, (rowsT TS)[i]? = some e → i < (lo + hi) / 2 + 1 → prd b W (rst TS e) = true := fun z i e h1 h2 => prd_down (r' := r) (by rw [← er]; exact rows_le (by omega) h1 he) z
    have dn : ¬ prd b W r = true → ∀ i e, (rowsT TS)[i]? = some e → (lo + hi) / 2 ≤ i → ¬ prd b W (rst TS e) = true := fun z i e h1 h2 k => z (prd_down (r' := rst TS e) (by rw [← er]; exact rows_le h2 he h1) k)
    refine ⟨_, rfl, _, rfl, _, _, rfl, rfl, _, rfl, ?_⟩
    by_cases c2 : r < W
    · refine iteYes c2 ?_
      exact ⟨_, rfl, _, _, rfl, rfl, (lo + hi) / 2 + 1, hi, _, _, by omega, g2, by omega, rfl, up (by unfold prd; rw [decide_eq_true c2]; rfl), g4, rfl⟩
    · refine iteNo c2 ?_
      refine ⟨_, rfl, _, rfl, ?_⟩
      cases b with
      | false =>
        refine iteF ?_
        exact ⟨_, rfl, lo, (lo + hi) / 2, _, _, by omega, by omega, by omega, rfl, g3, dn (by unfold prd; rw [decide_eq_false c2]; exact Bool.false_ne_true), rfl⟩
      | true =>
        refine iteT ?_
        refine ⟨_, rfl, rfl, _, rfl, _, _, rfl, rfl, _, rfl, ?_⟩
        rw [starts_T]
        by_cases c3 : r.take W.length = W
        · refine iteYes c3 ?_
          exact ⟨_, rfl, _, _, rfl, rfl, (lo + hi) / 2 + 1, hi, _, _, by omega, g2, by omega, rfl, up (by unfold prd; rw [decide_eq_true c3, Bool.true_and, Bool.or_true]), g4, rfl⟩
        · refine iteNo c3 ?_
          exact ⟨_, rfl, lo, (lo + hi) / 2, _, _, by omega, by omega, by omega, rfl, g3, dn (by unfold prd; rw [decide_eq_false c2, decide_eq_false c3]; exact Bool.false_ne_true), rfl⟩
  · have : lo = hi := by
      have : ¬ (lo : Int) < (hi : Int) := fun z => c1 (decide_eq_true z)
      omega
    subst this
    refine ⟨_, rfl, q lo ⟨g2, fun i e he => ⟨fun z => ?_, g3 i e he⟩⟩⟩
    rcases Nat.lt_or_ge i lo with c | c
    · exact c
    · exact absurd z (g4 i e he c)
def spFinder__bounds (_ : PySem.W.Frag) (C : Addr) : Sp := fun vs H Q _ => ∃ f lt lr TS W, vs = [.ref f, T W] ∧ FinAt C f lt lr TS H ∧ OkX TS ∧ OkT (tS W) ∧ W ≠ [] ∧ ∀ k m H' p, CutAt TS false W k → CutAt TS true W m → H p = none → Same H H' → TupAt H' p (k, m) → Q (.ref p) H'
theorem okFinder__bounds (D : DefM K C "_bounds" "Finder._bounds" sFinder__bounds ["self", "word"]) (B : Bs mg) (Glb : Glo mg) (WK : WebK K mg C)
    (hneed_word : Good P w K mg base "need_word" sneed_word ["word"] 4 (spneed_word K C))
    (hFinder__rows_ahead : GoodM P w K mg base C "_rows_ahead" "Finder._rows_ahead" sFinder__rows_ahead ["self", "word", "with_word"] 3 (spFinder__rows_ahead K C)) :
    GoodM P w K mg base C "_bounds" "Finder._bounds" sFinder__bounds ["self", "word"] 5 (spFinder__bounds K C) := by
  refine D.good fun f fd F => ?_
  obtain ⟨fneed_word, dneed_word, Oneed_word, mneed_word, kneed_word, bneed_word, Fneed_word⟩ := hneed_word
  obtain ⟨fFinder__rows_ahead, dFinder__rows_ahead, OFinder__rows_ahead, tFinder__rows_ahead, bFinder__rows_ahead, FFinder__rows_ahead⟩ := hFinder__rows_ahead
  refine F.ok scFinder__bounds (fun vs H Q E h => ?_) (fun cdv A outer s H vs Q E hr h => ?_)
  · obtain ⟨f, lt, lr, TS, W, rfl, hF, ho, hW, h0, q⟩ := h
    first | rfl | (rcases h with ⟨_, _, rfl, _⟩ | ⟨_, rfl, _⟩ <;> rfl)
  obtain ⟨f, lt, lr, TS, W, rfl, hF, ho, hW, h0, q⟩ := h
  refine ⟨_, (pss_cons (ps_expr (pe_call Oneed_word hr rfl mneed_word kneed_word bneed_word .nil pass0 (pa_cons (pv 1) pa_nil)))
  (pss_one (ps_ret (pe_tup (pa_cons (pe_meth (pv 0) WK.cl tFinder__rows_ahead OFinder__rows_ahead (hr.mono (by decide)) bFinder__rows_ahead .nil pass0 (pa_cons (pv 1) (pa_cons pe_bl pa_nil))) (pa_cons (pe_meth (pv 0) WK.cl tFinder__rows_ahead OFinder__rows_ahead (hr.mono (by decide)) bFinder__rows_ahead .nil pass0 (pa_cons (pv 1) (pa_cons pe_bl pa_nil))) pa_nil)))))), ?_⟩
  have hWl := hW.len
  rw [T_len] at hWl
  obtain ⟨⟨dx, h1⟩, h2, h3⟩ := id hF
  refine ⟨_, rfl, W, rfl, hW, h0, ?_⟩
  refine ⟨_, rfl, f, dx, _, rfl, h1, ff_no _ _ (by decide) (by decide), _, rfl, f, lt, lr, TS, W, false, rfl, hF, ho, hWl, fun k hk => ?_⟩
  refine ⟨_, rfl, f, dx, _, rfl, h1, ff_no _ _ (by decide) (by decide), _, rfl, f, lt, lr, TS, W, true, rfl, hF, ho, hWl, fun m hm => ?_⟩
  exact ⟨(by show 2 ≤ sizeLine; decide), fun p np => q k m _ p hk hm np (same_new np _) upd_same⟩
def spFinder_stretch_of (_ : PySem.W.Frag) (C : Addr) : Sp := fun vs H Q _ => ∃ f lt lr TS W, vs = [.ref f, T W] ∧ FinAt C f lt lr TS H ∧ OkX TS ∧ OkT (tS W) ∧ W ≠ [] ∧ ∀ k m H', CutAt TS false W k → CutAt TS true W m → Same H H' → (k < m → ∀ p, TupAt H' p (k, m) → Q (.ref p) H') ∧ (¬ k < m → Q .non H')
theorem okFinder_stretch_of (D : DefM K C "stretch_of" "Finder.stretch_of" sFinder_stretch_of ["self", "word"]) (B : Bs mg) (Glb : Glo mg) (WK : WebK K mg C)
    (hFinder__bounds : GoodM P w K mg base C "_bounds" "Finder._bounds" sFinder__bounds ["self", "word"] 5 (spFinder__bounds K C)) :
    GoodM P w K mg base C "stretch_of" "Finder.stretch_of" sFinder_stretch_of ["self", "word"] 7 (spFinder_stretch_of K C) := by
  refine D.good fun f fd F => ?_
  obtain ⟨fFinder__bounds, dFinder__bounds, OFinder__bounds, tFinder__bounds, bFinder__bounds, FFinder__bounds⟩ := hFinder__bounds
  refine F.ok scFinder_stretch_of (fun vs H Q E h => ?_) (fun cdv A outer s H vs Q E hr h => ?_)
  · obtain ⟨f, lt, lr, TS, W, rfl, hF, ho, hW, h0, q⟩ := h
    first | rfl | (rcases h with ⟨_, _, rfl, _⟩ | ⟨_, rfl, _⟩ <;> rfl)
  obtain ⟨f, lt, lr, TS, W, rfl, hF, ho, hW, h0, q⟩ := h
  refine ⟨_, (pss_cons (ps_asg (pe_meth (pv 0) WK.cl tFinder__bounds OFinder__bounds (hr.mono (by decide)) bFinder__bounds .nil pass0 (pa_cons (pv 1) pa_nil)) (pg_tup rfl (pgs_cons (pg_name (i := 2) scFinder_stretch_of.nd rfl (by first | exact Or.inl rfl | exact Or.inr rfl)) (pgs_cons (pg_name (i := 3) scFinder_stretch_of.nd rfl (by first | exact Or.inl rfl | exact Or.inr rfl)) pgs_nil))))
  (pss_one (ps_ret (pe_ifExp (pt_cmpR op_lt (pv 2) (pv 3) (nomark _)) (pe_tup (pa_cons (pv 2) (pa_cons (pv 3) pa_nil))) pe_non)))), ?_⟩
  obtain ⟨⟨dx, h1⟩, h2, h3⟩ := id hF
  refine ⟨_, rfl, f, dx, _, rfl, h1, ff_no _ _ (by decide) (by decide), _, rfl, f, lt, lr, TS, W, rfl, hF, ho, hW, h0, fun k m H1 p hk hm np hS1 hp => ?_⟩
  refine ⟨p, _, rfl, SqT.of hp, rfl, _, _, rfl, _, _, rfl, rfl, ?_⟩
  refine ⟨_, rfl, _, rfl, _, _, rfl, rfl, _, rfl, ?_⟩
  by_cases c : k < m
  · refine iteYes (by show (k : Int) < (m : Int); omega) ?_
    refine ⟨_, rfl, _, rfl, (by show 2 ≤ sizeLine; decide), fun tp ntp => (q k m _ hk hm (hS1.trans (same_new ntp _))).1 c tp upd_same⟩
  · refine iteNo (by show ¬ (k : Int) < (m : Int); omega) ?_
    exact (q k m H1 hk hm hS1).2 c
def spFinder_how_often (_ : PySem.W.Frag) (C : Addr) : Sp := fun vs H Q _ => ∃ f lt lr TS W, vs = [.ref f, T W] ∧ FinAt C f lt lr TS H ∧ OkX TS ∧ OkT (tS W) ∧ W ≠ [] ∧ ∀ H', Same H H' → Q (.int (((wordP TS W).length : Nat) : Int)) H'
theorem okFinder_how_often (D : DefM K C "how_often" "Finder.how_often" sFinder_how_often ["self", "word"]) (B : Bs mg) (Glb : Glo mg) (WK : WebK K mg C)
    (hFinder__bounds : GoodM P w K mg base C "_bounds" "Finder._bounds" sFinder__bounds ["self", "word"] 5 (spFinder__bounds K C)) :
    GoodM P w K mg base C "how_often" "Finder.how_often" sFinder_how_often ["self", "word"] 7 (spFinder_how_often K C) := by
  refine D.good fun f fd F => ?_
  obtain ⟨fFinder__bounds, dFinder__bounds, OFinder__bounds, tFinder__bounds, bFinder__bounds, FFinder__bounds⟩ := hFinder__bounds
  refine F.ok scFinder_how_often (fun vs H Q E h => ?_) (fun cdv A outer s H vs Q E hr h => ?_)
  · obtain ⟨f, lt, lr, TS, W, rfl, hF, ho, hW, h0, q⟩ := h
    first | rfl | (rcases h with ⟨_, _, rfl, _⟩ | ⟨_, rfl, _⟩ <;> rfl)
  obtain ⟨f, lt, lr, TS, W, rfl, hF, ho, hW, h0, q⟩ := h
  refine ⟨_, (pss_cons (ps_asg (pe_meth (pv 0) WK.cl tFinder__bounds OFinder__bounds (hr.mono (by decide)) bFinder__bounds .nil pass0 (pa_cons (pv 1) pa_nil)) (pg_tup rfl (pgs_cons (pg_name (i := 2) scFinder_how_often.nd rfl (by first | exact Or.inl rfl | exact Or.inr rfl)) (pgs_cons (pg_name (i := 3) scFinder_how_often.nd rfl (by first | exact Or.inl rfl | exact Or.inr rfl)) pgs_nil))))
  (pss_one (ps_ret (pe_op op_sub (pv 3) (pv 2))))), ?_⟩
  obtain ⟨⟨dx, h1⟩, h2, h3⟩ := id hF
  refine ⟨_, rfl, f, dx, _, rfl, h1, ff_no _ _ (by decide) (by decide), _, rfl, f, lt, lr, TS, W, rfl, hF, ho, hW, h0, fun k m H1 p hk hm np hS1 hp => ?_⟩
  refine ⟨p, _, rfl, SqT.of hp, rfl, _, _, rfl, _, _, rfl, rfl, ?_⟩
  have := q H1 hS1
  rw [len_cut hk hm] at this
  have hle := cuts_le hk hm
  refine ⟨_, rfl, _, rfl, _, _, rfl, rfl, ?_⟩
  have e : (m : Int) - (k : Int) = ((m - k : Nat) : Int) := by omega
  have h2 : Q (V.int ((m : Int) - (k : Int))) H1 := by rw [e]; exact this
  exact h2
def spFinder_places_of (_ : PySem.W.Frag) (C : Addr) : Sp := fun vs H Q _ => ∃ f lt lr TS W, vs = [.ref f, T W] ∧ FinAt C f lt lr TS H ∧ OkX TS ∧ OkT (tS W) ∧ W ≠ [] ∧ ∀ H' p, Same H H' → TiesAt H' p (wordP TS W) → Q (.ref p) H'
theorem okFinder_places_of (D : DefM K C "places_of" "Finder.places_of" sFinder_places_of ["self", "word"]) (B : Bs mg) (Glb : Glo mg) (WK : WebK K mg C)
    (hFinder__bounds : GoodM P w K mg base C "_bounds" "Finder._bounds" sFinder__bounds ["self", "word"] 5 (spFinder__bounds K C)) :
    GoodM P w K mg base C "places_of" "Finder.places_of" sFinder_places_of ["self", "word"] 7 (spFinder_places_of K C) := by
  refine D.good fun f fd F => ?_
  obtain ⟨fFinder__bounds, dFinder__bounds, OFinder__bounds, tFinder__bounds, bFinder__bounds, FFinder__bounds⟩ := hFinder__bounds
  refine F.ok scFinder_places_of (fun vs H Q E h => ?_) (fun cdv A outer s H vs Q E hr h => ?_)
  · obtain ⟨f, lt, lr, TS, W, rfl, hF, ho, hW, h0, q⟩ := h
    first | rfl | (rcases h with ⟨_, _, rfl, _⟩ | ⟨_, rfl, _⟩ <;> rfl)
  obtain ⟨f, lt, lr, TS, W, rfl, hF, ho, hW, h0, q⟩ := h
  refine ⟨_, (pss_cons (ps_asg (pe_meth (pv 0) WK.cl tFinder__bounds OFinder__bounds (hr.mono (by decide)) bFinder__bounds .nil pass0 (pa_cons (pv 1) pa_nil)) (pg_tup rfl (pgs_cons (pg_name (i := 2) scFinder_places_of.nd rfl (by first | exact Or.inl rfl | exact Or.inr rfl)) (pgs_cons (pg_name (i := 3) scFinder_places_of.nd rfl (by first | exact Or.inl rfl | exact Or.inr rfl)) pgs_nil))))
  (pss_one (ps_ret (pe_callB (cr_sortD hr.units) (by rfl) B.sorted (by decide +kernel) (pa_cons (pe_slice sl_list (pe_fld (pv 0) rfl) (po_some (pv 2)) (po_some (pv 3))) pa_nil))))), ?_⟩
  obtain ⟨⟨dx, h1⟩, h2, h3⟩ := id hF
  refine ⟨_, rfl, f, dx, _, rfl, h1, ff_no _ _ (by decide) (by decide), _, rfl, f, lt, lr, TS, W, rfl, hF, ho, hW, h0, fun k m H1 p hk hm np hS1 hp => ?_⟩
  refine ⟨p, _, rfl, SqT.of hp, rfl, _, _, rfl, _, _, rfl, rfl, ?_⟩
  obtain ⟨tas, t1, t2⟩ := h3
  have km := cuts_le hk hm
  have tl := paired_len t2
  have ml := hm.le
  have hrl := rowsT_len ho
  refine ⟨_, rfl, f, C, dx, _, _, rfl, hS1 _ _ h1, WK.cl, WK.nR, ff_R _ _, _, rfl, _, rfl, _, rfl, _, rfl, lr, _, rfl, SqL.of (hS1 _ _ t1), fun sl nsl => ?_⟩
  rw [cutV_mid (by rw [List.length_map]; omega) (by rw [List.length_map]; omega), ← List.map_drop, ← List.map_take]
  have hS2 := hS1.trans (same_new nsl (.lst (((tas.drop k).take (m - k)).map V.ref)))
  have hsl : upd H1 sl (.lst (((tas.drop k).take (m - k)).map V.ref)) sl = some (.lst (((tas.drop k).take (m - k)).map V.ref)) := upd_same
  generalize upd H1 sl (.lst (((tas.drop k).take (m - k)).map V.ref)) = H2 at hS2 hsl
  have t3 : Paired (TupAt H2) ((tas.drop k).take (m - k)) (((rowsT TS).drop k).take (m - k)) := paired_take _ (paired_drop _ (paired_mono (fun p e h => hS2 _ _ h) t2))
  dsimp only [tNil]
  refine sort_read enc2_ok (SqL.of hsl) t3 (fun p e h => dp_t2 h) (by rw [List.length_take, List.length_drop]; omega) fun us p2 hus hsub np2 => ?_
  rw [sort_cut hk hm] at hus
  exact q _ p2 (hS2.trans (same_new np2 _)) ⟨us, upd_same, paired_mono (fun p e h => same_new np2 _ _ _ h) hus⟩
def spFinder_longest_again (_ : PySem.W.Frag) (C : Addr) : Sp := fun vs H Q _ => ∃ f lt lr TS, vs = [.ref f] ∧ FinAt C f lt lr TS H ∧ OkX TS ∧ ∀ x, Again TS x → Q (T x) H
theorem okFinder_longest_again (D : DefM K C "longest_again" "Finder.longest_again" sFinder_longest_again ["self"]) (B : Bs mg) (Glb : Glo mg) (WK : WebK K mg C)
    (h_in_common : Good P w K mg base "_in_common" s_in_common ["one", "other"] 1 (sp_in_common K C))
    (hFinder__read_from : GoodM P w K mg base C "_read_from" "Finder._read_from" sFinder__read_from ["self", "at"] 1 (spFinder__read_from K C)) :
    GoodM P w K mg base C "longest_again" "Finder.longest_again" sFinder_longest_again ["self"] 3 (spFinder_longest_again K C) := by
  refine D.good fun f fd F => ?_
  obtain ⟨f_in_common, d_in_common, O_in_common, m_in_common, k_in_common, b_in_common, F_in_common⟩ := h_in_common
  obtain ⟨fFinder__read_from, dFinder__read_from, OFinder__read_from, tFinder__read_from, bFinder__read_from, FFinder__read_from⟩ := hFinder__read_from
  refine F.ok scFinder_longest_again (fun vs H Q E h => ?_) (fun cdv A outer s H vs Q E hr h => ?_)
  · obtain ⟨f, lt, lr, TS, rfl, hF, ho, q⟩ := h
    first | rfl | (rcases h with ⟨_, _, rfl, _⟩ | ⟨_, rfl, _⟩ <;> rfl)
  obtain ⟨f, lt, lr, TS, rfl, hF, ho, q⟩ := h
  refine ⟨_, (pss_cons (ps_set (i := 1) scFinder_longest_again.nd rfl (by first | exact Or.inl rfl | exact Or.inr rfl) pe_str)
  (pss_cons (ps_for PassesOwn.never rfl (pi_range2 (by rfl) B.range (pa_cons pe_int (pa_cons (pe_callB call_len_seq (by rfl) B.len (by decide +kernel) (pa_cons (pe_fld (pv 0) rfl) pa_nil)) pa_nil))) (pg_name (i := 2) scFinder_longest_again.nd rfl (by first | exact Or.inl rfl | exact Or.inr rfl))
    (pss_cons (ps_set (i := 3) scFinder_longest_again.nd rfl (by first | exact Or.inl rfl | exact Or.inr rfl) (pe_call O_in_common (hr.mono (by decide)) rfl m_in_common k_in_common b_in_common .nil pass0 (pa_cons (pe_meth (pv 0) WK.cl tFinder__read_from OFinder__read_from (hr.mono (by decide)) bFinder__read_from .nil pass0 (pa_cons (pe_op op_sub (pv 2) pe_int) pa_nil)) (pa_cons (pe_meth (pv 0) WK.cl tFinder__read_from OFinder__read_from (hr.mono (by decide)) bFinder__read_from .nil pass0 (pa_cons (pv 2) pa_nil)) pa_nil))))
  (pss_one (ps_if (pt_cmpR op_gt (pe_callB call_len_str (by rfl) B.len (by decide +kernel) (pa_cons (pv 3) pa_nil)) (pe_callB call_len_str (by rfl) B.len (by decide +kernel) (pa_cons (pv 1) pa_nil)) (nomark _))
    (pss_one (ps_set (i := 1) scFinder_longest_again.nd rfl (by first | exact Or.inl rfl | exact Or.inr rfl) (pv 3))) pss_nil))))
  (pss_one (ps_ret (pv 1))))), ?_⟩
  obtain ⟨⟨dx, h1⟩, h2, h3⟩ := id hF
  obtain ⟨rxs, r1, r2⟩ := h3.get
  have hrl := rowsT_len ho
  refine ⟨_, rfl, f, C, dx, _, _, rfl, h1, WK.cl, WK.nR, ff_R _ _, lr, _, rfl, .inl (SqL.of r1), ?_⟩
  rw [r2]
  refine ⟨_, _, rfl, ⟨by decide, by decide, by omega, by omega⟩, ?_⟩
  rw [show (((rowsT TS).length : Int) - 1).toNat = (rowsT TS).length - 1 by omega]
  refine for_range (lo := 1) (n := (rowsT TS).length - 1) (fun i σ H' => ∃ v2 v3 : Option V, σ = [some (.ref f), some (T (lng TS i)), v2, v3] ∧ (lng TS i).length ≤ 400 ∧ H' = H) ⟨none, none, by show _ = [some (V.ref f), some (V.str ⟨([] : List Nat).toArray⟩), none, none]; rw [← T_nil]; rfl, Nat.zero_le _, rfl⟩ ?_ ?_
  · rintro i σ H' hi ⟨v2, v3, rfl, hll, rfl⟩
    have e1 := List.getElem?_eq_getElem (l := rowsT TS) (i := i) (by omega)
    have e2 := List.getElem?_eq_getElem (l := rowsT TS) (i := i + 1) (by omega)
    obtain ⟨m1, _⟩ := rowsT_mem e1
    obtain ⟨m2, _⟩ := rowsT_mem e2
    have l1 := txt_len ho m1
    have l2 := txt_len ho m2
    have l3 : (rst TS ((rowsT TS)[i]'(by omega))).length ≤ 400 := by unfold rst; rw [List.length_drop]; omega
    have l4 : (rst TS ((rowsT TS)[i + 1]'(by omega))).length ≤ 400 := by unfold rst; rw [List.length_drop]; omega
    have l5 := cmn_len_le (rst TS ((rowsT TS)[i]'(by omega))) (rst TS ((rowsT TS)[i + 1]'(by omega)))
    have ec := cmnAt_eq e1 e2
    refine ⟨_, rfl, f, dx, _, rfl, h1, ff_no _ _ (by decide) (by decide), _, rfl, _, _, rfl, rfl, f, lt, lr, TS, i, _, congrArg (fun z : Int => [V.ref f, V.int z]) (by omega), hF, ho, e1, ?_⟩
    refine ⟨_, rfl, f, dx, _, rfl, h1, ff_no _ _ (by decide) (by decide), _, rfl, f, lt, lr, TS, i + 1, _, congrArg (fun z : Int => [V.ref f, V.int z]) (by omega), hF, ho, e2, ?_⟩
    refine ⟨_, _, rfl, l3, l4, ?_⟩
    rw [← ec] at l5 ⊢
    refine ⟨_, rfl, _, rfl, T_line (by omega), _, rfl, _, rfl, T_line (by omega), _, _, rfl, rfl, _, rfl, ?_⟩
    rw [T_len, T_len]
    by_cases c : (lng TS i).length < (cmnAt TS i).length
    · refine iteYes (by omega) ?_
      have e : lng TS (i + 1) = cmnAt TS i := by unfold lng; rw [if_pos c]
      refine ⟨_, rfl, ?_⟩
      show ∃ v2 v3 : Option V, _ = [some (V.ref f), some (T (lng TS (i + 1))), v2, v3] ∧ (lng TS (i + 1)).length ≤ 400 ∧ H' = H'
      rw [e]
      exact ⟨_, _, rfl, by omega, rfl⟩
    · refine iteNo (by omega) ?_
      have e : lng TS (i + 1) = lng TS i := by conv => lhs; unfold lng; rw [if_neg c]
      show ∃ v2 v3 : Option V, _ = [some (V.ref f), some (T (lng TS (i + 1))), v2, v3] ∧ (lng TS (i + 1)).length ≤ 400 ∧ H' = H'
      rw [e]
      exact ⟨_, _, rfl, hll, rfl⟩
  · rintro σ H' ⟨v2, v3, rfl, _, rfl⟩
    exact ⟨_, rfl, q _ lng_again⟩
end
end My
set_option maxHeartbeats 4000000
namespace My
open PySem PySem.Spec PyProof.Rows L2
/-! ### sorted(a list or a tuple of texts) -/
theorem textIn_of : ∀ {xs : List Str} {us : List Value}, Vals (xs.map V.str) us → (∀ v ∈ us, ∃ k tk, v = Value.str k tk) ∧ us.map textIn = xs
  | [], _, .nil => ⟨fun v hv => by simp at hv, rfl⟩
  | x :: xs, _, .cons r t => by
    obtain ⟨h1, h2⟩ := textIn_of (xs := xs) t
    obtain ⟨tk, rfl⟩ := r
    refine ⟨fun v hv => ?_, by rw [List.map_cons, h2]; rfl⟩
    rcases List.mem_cons.mp hv with z | z
    · exact ⟨x, tk, z⟩
    · exact h1 v z
section
variable {P : Program} {w : World} {A : Around} {E : Value → Shared → Prop} {s : Shared} {a : Addr}
theorem gather {Q : List Value → Shared → Prop} (q : Addr) {T : String} {o : Obj} {ys : Array Value} {n : Nat} (hT : T = "list" ∨ T = "tuple")
    (ho : s.heap.get? q = some o) (hc : o.cls = .type T) (hd : o.data = .seq ys n) (line : ys.size ≤ sizeLine)
    (hQ : ∀ h', (∀ b o', s.heap.get? b = some o' → h'.get? b = some o') → s.heap.objs.size ≤ h'.objs.size → Q ys.toList { s with heap := h' }) :
    wpAny (model P w) A (collect (.ref q)) Q E s := by
  unfold collect
  refine wpAny_bind (wpAny_runValue (codeAny_builtin PySem.F.entry_proto_collect ?_))
  rw [Around.under_plainId PySem.F.plain_proto_collect _]
  show wpAny _ A.in1 (newList [] >>= fun l => again (.builtin "list.__iadd__" ⟨[l, .ref q], []⟩)) _ _ s
  refine wpAny_bind (wpAny_newObj_type ?_)
  refine wpAny_pure ⟨plainId_quiet PySem.F.plain_list_iadd _, codeAny_builtin PySem.F.entry_list_iadd ?_⟩
  rw [Around.under_plainId PySem.F.plain_list_iadd _]
  show wpAny _ A.in1 (Builtin.List.listExtendWith (.ref s.heap.objs.size) (.ref q) (.ref s.heap.objs.size)) _ _ _
  have new1 : (s.heap.push { cls := .type "list", data := .seq ([] : List Value).toArray }).get? s.heap.objs.size = some { cls := .type "list", data := .seq #[] 0 } := Heap.get?_push_size _ rfl
  have new2 := Heap.get?_update_self (Obj.mapSeq (· ++ ys)) new1 rfl
  have told_ : wpAny (model P w) A (match Value.ref s.heap.objs.size with
      | Value.ref a => do
        match (← load a).data with
          | Data.seq xs _ => pure xs.toList
          | _ => unsupported "internal:collect"
      | _ => unsupported "internal:collect") Q E { s with heap := (s.heap.push { cls := .type "list", data := .seq ([] : List Value).toArray }).update s.heap.objs.size (Obj.mapSeq (· ++ ys)) } := by
    show wpAny _ A (load s.heap.objs.size >>= _) _ _ _
    refine wpAny_bind (wpAny_load new2 (wpAny_pure ?_))
    show Q ((#[] : Array Value) ++ ys).toList _
    rw [show ((#[] : Array Value) ++ ys).toList = ys.toList by simp]
    refine hQ _ (fun b o' hb => (Heap.get?_update_other _ _ (Nat.ne_of_gt (Heap.lt_size hb))).trans (Heap.get?_push_of_some _ hb)) ?_
    exact Nat.le_of_lt (Heap.lt_size new2)
  refine wpAny_mono (wpAny_extend_seq (hsz := line) (A := A) (R := fun r s' => r = .ok (.ret (.ref s.heap.objs.size)) ∧ s' = { s with heap := (s.heap.push { cls := .type "list", data := .seq ([] : List Value).toArray }).update s.heap.objs.size (Obj.mapSeq (· ++ ys)) })
    (s := { s with heap := s.heap.push { cls := .type "list", data := .seq ([] : List Value).toArray } }) _ q _ 0 hT new1 (Heap.get?_push_of_some _ ho) hc hd ⟨rfl, rfl⟩) (fun fin s' h => ?_) (fun e s' h => ?_)
  · cases fin with
    | done f =>
      obtain ⟨e, rfl⟩ := h
      cases e
      exact told_
    | again c' => exact ⟨h.1, codeAny_mono h.2 fun r s'' hr => by obtain ⟨rfl, rfl⟩ := hr; exact told_⟩
  · exact absurd h.1 (by simp)
theorem sorted_seq {Q : Value → Shared → Prop} {T : String} {o : Obj} {ys : Array Value} {n : Nat} {xs : List Str} (hT : T = "list" ∨ T = "tuple") (ho : s.heap.get? a = some o) (hc : o.cls = .type T) (hd : o.data = .seq ys n)
    (rv : Vals (xs.map V.str) ys.toList) (small : xs.length ≤ 100000) (hu : A.units + 64 < cLine)
    (hQ : ∀ s' p (out : Array Value) (c : Nat), (∀ b o, s.heap.get? b = some o → s'.heap.get? b = some o) → s'.gens = s.gens → s'.os = s.os → s.heap.objs.size ≤ p →
      s'.heap.get? p = some (seqObj "list" out c) → Vals ((xs.mergeSort leS).map V.str) out.toList → Q (.ref p) s') :
    wpAny (model P w) A (call (.builtin "sorted") [.ref a]) Q E s := by
  obtain ⟨each0, eM⟩ := textIn_of rv
  have many : ys.toList.length = xs.length := by rw [← vals_len rv, List.length_map]
  have line : ys.size ≤ sizeLine := by rw [← Array.length_toList, many]; exact Nat.le_trans small (by decide)
  refine Calls.call_function_entry kind_sorted plain_sorted entry_sorted (args_sorted1 _) ?_
  unfold Builtin.«sorted»
  refine wpAny_bind (m := checkCount "sorted" 1 1 _) (wpAny_pure ?_)
  refine wpAny_bind (gather (A := A.in1) a hT ho hc hd line fun h1 k1 hz => ?_)
  have each := each_text ys.toList each0
  refine wpAny_bind (wpAny_newList ?_ (by rw [many]; exact Nat.le_trans small (by decide)))
  have laid : (h1.push (seqObj "list" ys.toList.toArray 0)).get? h1.objs.size = some (seqObj "list" ys.toList.toArray 0) := Heap.get?_push_size _ rfl
  refine wpAny_bind (wpAny_holding (PySem.W.list_sort_data (s := { s with heap := h1.push (seqObj "list" ys.toList.toArray 0) }) (enc := PyData.str) (bs := ys.toList.map textIn) laid each (each.mono fun v b ⟨t, e⟩ => ⟨[], by rw [e]; exact .str _ _, by simp⟩) ?_ ?_ ?_ ?_ fun out len outs => ?_))
  · intro d hd d' hd'
    obtain ⟨x, _, rfl⟩ := List.mem_map.mp hd
    obtain ⟨y, _, rfl⟩ := List.mem_map.mp hd'
    rfl
  · exact .others (enc := PyData.str) fun b => ⟨fun z => (by cases z), fun xs z => (by cases z)⟩
  · rw [List.length_map, many]; exact Nat.le_trans small (by decide)
  · intro b _
    show A.units + 1 + 1 + 0 < cLine
    omega
  · obtain ⟨c, hc⟩ := sortedHeap_at (vs := ys.toList) (out := out.toArray) laid
    rw [show PySem.W.dataLe false PyData.str = leS from dataLe_s, eM] at outs
    refine wpAny_pure ⟨_, rfl, hQ _ h1.objs.size out.toArray c (fun b u e => ?_) rfl rfl hz hc (by simpa using vals_text outs)⟩
    have q := k1 b u e
    have hlt := Heap.lt_size q
    show (sortedHeap (h1.push (seqObj "list" ys.toList.toArray 0)) h1.objs.size ys.toList out.toArray).get? b = some u
    rw [sortedHeap_old (Nat.ne_of_lt hlt) (by rw [size_push']; exact Nat.lt_succ_of_lt hlt)]
    exact Heap.get?_push_of_some _ q
end
section
variable {X : Cx}
def rSortSq (K : PySem.W.Frag) : List V → Hp → VK → Prop := fun vs H Q => ∃ (a : Addr) (xs : List Str), vs = [V.ref a] ∧ (SqL K H a (xs.map V.str) ∨ SqT K H a (xs.map V.str)) ∧ xs.length ≤ 100000 ∧
  ∀ (p : Addr), H p = none → Q (.ref p) (upd H p (.lst ((xs.mergeSort leS).map V.str)))
theorem cr_sortSq (hu : X.A.units + 64 < cLine) : CallR X (.builtin "sorted") (rSortSq X.K) := by
  intro pins s σ H vs us Q I r h
  obtain ⟨a, xs, rfl, hq, small, q⟩ := h
  rw [Vals.ref1 r]
  have line : ((xs.mergeSort leS).map V.str).length ≤ sizeLine := by rw [List.length_map, List.length_mergeSort]; exact Nat.le_trans small (by decide)
  have fin : ∀ s' p (out : Array Value) (c : Nat), (∀ b o, s.heap.get? b = some o → s'.heap.get? b = some o) → s'.gens = s.gens → s'.os = s.os → s.heap.objs.size ≤ p →
      s'.heap.get? p = some (seqObj "list" out c) → Vals ((xs.mergeSort leS).map V.str) out.toList → EP X pins σ Q (.ref p) s' := fun s' p out c k g o hp hg hv => by
    have free : H p = none := I.hok.fresh hp
    have J : Inv X pins σ (upd H p (.lst ((xs.mergeSort leS).map V.str))) { s with heap := s'.heap, gens := s'.gens, drawn := s'.drawn, toks := s'.toks } :=
      I.call (ch := []) (Un.laid k hp free) (I.hok.laid k hp ⟨line, out.toList, c, hv, hg⟩) (by rw [g]; exact I.bare) (fun _ z => nomatch z)
    have same : s' = { s with heap := s'.heap, gens := s'.gens, drawn := s'.drawn, toks := s'.toks } := by
      cases s'
      cases s
      cases o
      rfl
    rw [same]
    exact ⟨.ref p, _, J, rfl, q p free⟩
  rcases hq with hq | hq
  · obtain ⟨its, rv, pl, hz⟩ := I.list hq
    obtain ⟨o, ho, hc, n, hd⟩ := pl.isList
    exact sorted_seq (.inl rfl) ho hc hd (by simpa using rv) small hu fin
  · obtain ⟨its, rv, pl, hz⟩ := I.tuple hq
    obtain ⟨o, ho, hc, n, hd⟩ := pl
    exact sorted_seq (.inr rfl) ho hc hd (by simpa using rv) small hu fin
end
end My
set_option maxHeartbeats 4000000
namespace My
open PySem L2 PyProof.Rows
/-! ### lots as lists of texts with numbers -/
def getT (D : List (Str × Int)) (x : Str) : Int := ((D.find? fun e => decide (e.1 = x)).map (·.2)).getD 0
def addT : List (Str × Int) → Str → Int → List (Str × Int)
  | [], x, n => [(x, n)]
  | e :: r, x, n => if e.1 = x then (e.1, e.2 + n) :: r else e :: addT r x n
theorem addT_keys (x : Str) (n : Int) : ∀ D : List (Str × Int), (addT D x n).map Prod.fst = if x ∈ D.map Prod.fst then D.map Prod.fst else D.map Prod.fst ++ [x]
  | [] => rfl
  | e :: r => by
    have ih := addT_keys x n r
    unfold addT
    by_cases h : e.1 = x
    · rw [if_pos h, List.map_cons, List.map_cons, if_pos (by rw [h]; exact List.mem_cons_self)]
    · have hx : ¬ x = e.1 := fun z => h z.symm
      rw [if_neg h, List.map_cons, List.map_cons, ih]
      by_cases k : x ∈ r.map Prod.fst
      · rw [if_pos k, if_pos (List.mem_cons_of_mem _ k)]
      · rw [if_neg k, if_neg (by simp only [List.mem_cons]; rintro (z | z); exact hx z; exact k z)]
        rfl
theorem addT_nodup {x : Str} {n : Int} {D : List (Str × Int)} (h : (D.map Prod.fst).Nodup) : ((addT D x n).map Prod.fst).Nodup := by
  rw [addT_keys]
  split
  · exact h
  · rename_i c
    rw [List.nodup_append]
    exact ⟨h, by simp, fun a ha b hb => by rw [List.mem_singleton.mp hb]; rintro rfl; exact c ha⟩
theorem addT_mem {x y : Str} {n : Int} {D : List (Str × Int)} : y ∈ (addT D x n).map Prod.fst ↔ y ∈ D.map Prod.fst ∨ y = x := by
  rw [addT_keys]
  split
  · rename_i c
    exact ⟨.inl, fun h => h.elim id fun z => by rw [z]; exact c⟩
  · rw [List.mem_append, List.mem_singleton]
theorem addT_get (x y : Str) (n : Int) : ∀ D : List (Str × Int), getT (addT D x n) y = if y = x then getT D x + n else getT D y
  | [] => by
    unfold addT getT
    by_cases h : x = y
    · simp [h]
    · have h2 : ¬ y = x := fun z => h z.symm
      simp [h, h2]
  | e :: r => by
    have ih := addT_get x y n r
    unfold addT
    by_cases h : e.1 = x
    · rw [if_pos h]
      by_cases k : y = x
      · subst k
        simp [getT, h]
      · have k2 : ¬ e.1 = y := fun z => k (by rw [← z, h])
        rw [if_neg k]
        simp [getT, List.find?_cons, k2]
    · rw [if_neg h]
      by_cases k : e.1 = y
      · have k2 : ¬ y = x := fun z => h (by rw [k, z])
        rw [if_neg k2]
        simp [getT, List.find?_cons, k]
      · have s1 : getT (e :: addT r x n) y = getT (addT r x n) y := by simp [getT, List.find?_cons, k]
        have s2 : getT (e :: r) y = getT r y := by simp [getT, List.find?_cons, k]
        have s3 : getT (e :: r) x = getT r x := by simp [getT, List.find?_cons, h]
        rw [s1, s2, s3]
        exact ih
theorem addT_len (x : Str) (n : Int) (D : List (Str × Int)) : (addT D x n).length ≤ D.length + 1 := by
  have := congrArg List.length (addT_keys x n D)
  rw [List.length_map] at this
  rw [this]
  split
  · rw [List.length_map]; omega
  · rw [List.length_append, List.length_map]; simp
/-- the dict by texts -/
abbrev dT (D : List (Str × Int)) : List (Key × V) := D.map entSI
theorem dT_val (x : Str) : ∀ D : List (Str × Int), valV (dT D) (Sum.inr x : Key) = (D.find? fun e => decide (e.1 = x)).map fun e => V.int e.2
  | [] => rfl
  | e :: r => by
    have ih := dT_val x r
    by_cases h : e.1 = x
    · rw [show dT (e :: r) = entSI e :: dT r from rfl, valV_pos (by show (Sum.inr e.1 : Key) = _; rw [h]), List.find?_cons_of_pos (by simpa using h)]
      rfl
    · rw [show dT (e :: r) = entSI e :: dT r from rfl, valV_neg (fun z => h (Sum.inr.inj z)), List.find?_cons_of_neg (by simpa using h)]
      exact ih
theorem dT_getD (x : Str) (D : List (Str × Int)) : (valV (dT D) (Sum.inr x : Key)).getD (.int 0) = .int (getT D x) := by
  rw [dT_val]
  unfold getT
  cases D.find? fun e => decide (e.1 = x) with
  | none => rfl
  | some e => rfl
theorem dT_put {x : Str} {n : Int} : ∀ {D : List (Str × Int)}, (D.map Prod.fst).Nodup → putK (dT D) (Sum.inr x : Key) (.int (getT D x + n)) = dT (addT D x n)
  | [], _ => by
    show putK [] _ _ = _
    rw [putK_new _ rfl]
    simp [getT, addT]
  | e :: r, hn => by
    have hn' := List.nodup_cons.mp (by simpa using hn : (e.1 :: r.map Prod.fst).Nodup)
    by_cases h : e.1 = x
    · subst h
      have hg : getT (e :: r) e.1 = e.2 := by simp [getT]
      have hz : valV (dT (e :: r)) (Sum.inr e.1 : Key) = some (.int e.2) := by rw [dT_val]; simp
      unfold putK
      rw [valV_any, hz, Option.isSome_some, if_pos rfl, hg]
      show (_ :: _) = _
      unfold addT
      rw [if_pos rfl]
      show _ = entSI (e.1, e.2 + n) :: dT r
      refine congr (congrArg List.cons (by simp [entSI])) ?_
      rw [dT, List.map_map]
      refine List.map_congr_left fun f hf => ?_
      have : ¬ (Sum.inr f.1 : Key) = Sum.inr e.1 := fun z => hn'.1 (by rw [← Sum.inr.inj z]; exact List.mem_map.mpr ⟨f, hf, rfl⟩)
      show (if (Sum.inr f.1 : Key) = Sum.inr e.1 then _ else _) = _
      rw [if_neg this]
    · have ih := dT_put (x := x) (n := n) (D := r) hn'.2
      have hg : getT (e :: r) x = getT r x := by simp [getT, List.find?_cons, h]
      have hk : ¬ (entSI e).1 = (Sum.inr x : Key) := fun z => h (Sum.inr.inj z)
      have hv : valV (dT (e :: r)) (Sum.inr x : Key) = valV (dT r) (Sum.inr x : Key) := valV_neg hk
      have ha : addT (e :: r) x n = e :: addT r x n := by
        show (if e.1 = x then _ else _) = _
        rw [if_neg h]
      rw [hg, ha]
      show putK (dT (e :: r)) _ _ = entSI e :: dT (addT r x n)
      rw [← ih]
      unfold putK
      rw [valV_any, valV_any, hv]
      split
      · show ((if (entSI e).1 = Sum.inr x then _ else _) :: _) = _
        rw [if_neg hk]
      · rfl
def sumT : List (Str × Int) → List (Str × Int) → List (Str × Int)
  | D, [] => D
  | D, e :: r => sumT (addT D e.1 e.2) r
theorem sumT_app (L M : List (Str × Int)) : ∀ D, sumT D (L ++ M) = sumT (sumT D L) M := by
  induction L with
  | nil => intro D; rfl
  | cons e r ih => intro D; exact ih _
theorem sumT_nodup (L : List (Str × Int)) : ∀ {D : List (Str × Int)}, (D.map Prod.fst).Nodup → ((sumT D L).map Prod.fst).Nodup := by
  induction L with
  | nil => intro D h; exact h
  | cons e r ih => intro D h; exact ih (addT_nodup h)
theorem sumT_len (L : List (Str × Int)) : ∀ D, (sumT D L).length ≤ D.length + L.length := by
  induction L with
  | nil => intro D; exact Nat.le_refl _
  | cons e r ih =>
    intro D
    have h1 := ih (addT D e.1 e.2)
    have h2 := addT_len e.1 e.2 D
    show (sumT (addT D e.1 e.2) r).length ≤ D.length + (r.length + 1)
    omega
theorem sumT_snoc (D L : List (Str × Int)) (e : Str × Int) : sumT D (L ++ [e]) = addT (sumT D L) e.1 e.2 := by
  rw [sumT_app]
  rfl
theorem sumT_keys : ∀ (L D : List (Str × Int)) (x : Str), x ∈ (sumT D L).map Prod.fst ↔ x ∈ D.map Prod.fst ∨ x ∈ L.map Prod.fst
  | [], D, x => by simp [sumT]
  | e :: r, D, x => by
    show x ∈ (sumT (addT D e.1 e.2) r).map Prod.fst ↔ _
    rw [sumT_keys r, addT_mem, List.map_cons, List.mem_cons, or_assoc]
/-! ### words counted -/
abbrev ones (L : List (List Nat)) : List (Str × Int) := L.map fun w => (tS w, 1)
theorem sumT_get (y : List Nat) : ∀ (M : List (List Nat)) (D : List (Str × Int)), getT (sumT D (ones M)) (tS y) = getT D (tS y) + (M.count y : Nat)
  | [], D => by simp [ones, sumT]
  | w :: M, D => by
    show getT (sumT (addT D (tS w) 1) (ones M)) (tS y) = _
    rw [sumT_get y M, addT_get, List.count_cons]
    by_cases c : y = w
    · subst c
      rw [if_pos rfl, if_pos (by simp)]
      omega
    · rw [if_neg (fun z => c (tS_inj z)), if_neg (by simpa using fun z => c z.symm)]
      omega
theorem ones_keys (L : List (List Nat)) (x : Str) : x ∈ (sumT [] (ones L)).map Prod.fst ↔ ∃ w, w ∈ L ∧ tS w = x := by
  rw [sumT_keys]
  simp only [List.map_nil, List.not_mem_nil, false_or, ones, List.map_map, List.mem_map]
  rfl
/-! ### all words that stand in texts -/
def sbE (t : List Nat) (p j : Nat) : List (List Nat) := (List.range j).map fun i => (t.drop p).take (i + 1)
def sbP (t : List Nat) (k : Nat) : List (List Nat) := (List.range k).flatMap fun p => sbE t p (t.length - p)
def sbN (TS : List (List Nat)) (i : Nat) : List (List Nat) := (List.range i).flatMap fun n => sbP (TS.getD n []) (TS.getD n []).length
theorem sbE_succ (t : List Nat) (p j : Nat) : sbE t p (j + 1) = sbE t p j ++ [(t.drop p).take (j + 1)] := by
  unfold sbE
  rw [List.range_succ, List.map_append]
  rfl
theorem sbP_succ (t : List Nat) (k : Nat) : sbP t (k + 1) = sbP t k ++ sbE t k (t.length - k) := by
  unfold sbP
  rw [List.range_succ, List.flatMap_append]
  show _ ++ (sbE t k (t.length - k) ++ []) = _
  rw [List.append_nil]
theorem sbN_succ (TS : List (List Nat)) (i : Nat) : sbN TS (i + 1) = sbN TS i ++ sbP (TS.getD i []) (TS.getD i []).length := by
  unfold sbN
  rw [List.range_succ, List.flatMap_append]
  show _ ++ (sbP _ _ ++ []) = _
  rw [List.append_nil]
theorem sbE_len (t : List Nat) (p j : Nat) : (sbE t p j).length = j := by
  unfold sbE
  rw [List.length_map, List.length_range]
theorem sbP_len {t : List Nat} (h : t.length ≤ 8) : ∀ k, (sbP t k).length ≤ 8 * k
  | 0 => Nat.zero_le _
  | k + 1 => by
    rw [sbP_succ, List.length_append, sbE_len]
    have := sbP_len h k
    omega
theorem sbN_len {TS : List (List Nat)} (h : ∀ i, (TS.getD i []).length ≤ 8) : ∀ i, (sbN TS i).length ≤ 64 * i
  | 0 => Nat.zero_le _
  | i + 1 => by
    rw [sbN_succ, List.length_append]
    have h1 := sbN_len h i
    have h2 := sbP_len (h i) (TS.getD i []).length
    have h3 := h i
    omega
theorem sbE_count {y : List Nat} (h0 : y ≠ []) (t : List Nat) (p : Nat) : ∀ j, j ≤ t.length - p → (sbE t p j).count y = if y.length ≤ j ∧ (t.drop p).take y.length = y then 1 else 0
  | 0, _ => by
    rw [if_neg]
    · rfl
    · rintro ⟨z, _⟩
      exact h0 (List.length_eq_zero_iff.mp (by omega))
  | j + 1, h => by
    rw [sbE_succ, List.count_append, sbE_count h0 t p j (by omega), List.count_singleton]
    have hl : ((t.drop p).take (j + 1)).length = j + 1 := by rw [List.length_take, List.length_drop]; omega
    by_cases c : (t.drop p).take (j + 1) = y
    · have hy : y.length = j + 1 := by rw [← c]; exact hl
      rw [if_neg (fun z => by omega), if_pos (by simpa using c), if_pos ⟨by omega, by rw [hy]; exact c⟩]
    · rw [if_neg (show ¬ ((t.drop p).take (j + 1) == y) = true by simpa using c), Nat.add_zero]
      by_cases k : y.length ≤ j ∧ (t.drop p).take y.length = y
      · rw [if_pos k, if_pos ⟨by omega, k.2⟩]
      · rw [if_neg k, if_neg]
        rintro ⟨z1, z2⟩
        by_cases e : y.length = j + 1
        · rw [e] at z2
          exact c z2
        · exact k ⟨by omega, z2⟩
theorem sbP_count {y : List Nat} (h0 : y ≠ []) {TS : List (List Nat)} {n : Nat} {t : List Nat} (ht : TS.getD n [] = t) : ∀ k, k ≤ t.length → (sbP t k).count y = (((List.range k).map fun p => (n, p)).filter (atW TS y)).length
  | 0, _ => rfl
  | k + 1, h => by
    rw [sbP_succ, List.count_append, sbP_count h0 ht k (by omega), sbE_count h0 t k _ (Nat.le_refl _), List.range_succ, List.map_append, List.filter_append, List.length_append]
    congr 1
    show _ = ([(n, k)].filter (atW TS y)).length
    rw [List.filter_cons]
    have e : atW TS y (n, k) = decide ((t.drop k).take y.length = y) := by
      show decide ((rst TS (n, k)).take y.length = y) = _
      unfold rst
      rw [ht]
    rw [e]
    by_cases c : (t.drop k).take y.length = y
    · rw [if_pos (decide_eq_true c), if_pos]
      · rfl
      · refine ⟨?_, c⟩
        have := congrArg List.length c
        rw [List.length_take, List.length_drop] at this
        omega
    · rw [if_neg (show ¬ (y.length ≤ t.length - k ∧ (t.drop k).take y.length = y) from fun z => c z.2), if_neg (show ¬ decide ((t.drop k).take y.length = y) = true by simpa using c)]
      rfl
theorem sbN_count {y : List Nat} (h0 : y ≠ []) (TS : List (List Nat)) : ∀ i, (sbN TS i).count y = ((plcN TS i).filter (atW TS y)).length
  | 0 => rfl
  | i + 1 => by
    rw [sbN_succ, plcN_succ, List.count_append, List.filter_append, List.length_append, sbN_count h0 TS i, sbP_count h0 (n := i) rfl _ (Nat.le_refl _)]
    rfl
theorem sb_ne {TS : List (List Nat)} {i : Nat} {w : List Nat} (h : w ∈ sbN TS i) : w ≠ [] := by
  unfold sbN sbP sbE at h
  obtain ⟨n, _, h⟩ := List.mem_flatMap.mp h
  obtain ⟨p, hp, h⟩ := List.mem_flatMap.mp h
  obtain ⟨k, hk, rfl⟩ := List.mem_map.mp h
  intro z
  have := congrArg List.length z
  rw [List.length_take, List.length_drop] at this
  have hk := List.mem_range.mp hk
  have hp := List.mem_range.mp hp
  rw [List.length_nil] at this
  omega
abbrev oftT (TS : List (List Nat)) : List (Str × Int) := sumT [] (ones (sbN TS TS.length))
theorem oft_get {TS : List (List Nat)} {y : List Nat} (h0 : y ≠ []) : getT (oftT TS) (tS y) = ((wordP TS y).length : Nat) := by
  rw [sumT_get, sbN_count h0]
  show (0 : Int) + _ = _
  rw [Int.zero_add]
  rfl
/-- the words told: those that come again, in sequence -/
theorem again_of {TS : List (List Nat)} {S : List (List Nat)} (hs : S.Pairwise (· ≤ ·)) (hm : ∀ w, w ∈ S ↔ w ∈ sbN TS TS.length) {m : Nat} (h1 : ∀ w ∈ S.filter (fun w : List Nat => decide (1 < getT (oftT TS) (tS w))), w.length ≤ m) (h2 : m = 0 ∨ ∃ w ∈ S.filter (fun w : List Nat => decide (1 < getT (oftT TS) (tS w))), w.length = m) {x : List Nat} (hx : ((S.filter (fun w : List Nat => decide (1 < getT (oftT TS) (tS w)))).filter (fun w : List Nat => decide (w.length = m)) ++ [[]]).head? = some x) : Again TS x := by
  have hin : ∀ y, y ≠ [] → 2 ≤ (wordP TS y).length → y ∈ S.filter (fun w : List Nat => decide (1 < getT (oftT TS) (tS w))) := fun y hy h => by
    refine List.mem_filter.mpr ⟨(hm y).mpr ?_, decide_eq_true (by rw [oft_get hy]; omega)⟩
    have := sbN_count hy TS TS.length
    have h3 : 0 < (sbN TS TS.length).count y := by
      rw [this]
      have : 0 < (wordP TS y).length := by omega
      exact this
    exact List.count_pos_iff.mp h3
  have two : ∀ w ∈ S.filter (fun w : List Nat => decide (1 < getT (oftT TS) (tS w))), w ≠ [] ∧ 2 ≤ (wordP TS w).length := fun w hw => by
    obtain ⟨a, b⟩ := List.mem_filter.mp hw
    have hne := sb_ne ((hm w).mp a)
    have b := of_decide_eq_true b
    rw [oft_get hne] at b
    exact ⟨hne, by omega⟩
  have hs2 : ((S.filter (fun w : List Nat => decide (1 < getT (oftT TS) (tS w)))).filter (fun w : List Nat => decide (w.length = m))).Pairwise (· ≤ ·) := (hs.filter _).filter _
  cases e : (S.filter (fun w : List Nat => decide (1 < getT (oftT TS) (tS w)))).filter (fun w : List Nat => decide (w.length = m)) with
  | nil =>
    rw [e] at hx
    cases hx
    refine ⟨.inl rfl, fun y hy h => ?_⟩
    rcases h2 with h2 | ⟨w, hw, hl⟩
    · have := h1 y (hin y hy h)
      rw [h2] at this
      exact absurd (List.length_eq_zero_iff.mp (by omega)) hy
    · have : w ∈ (S.filter (fun w : List Nat => decide (1 < getT (oftT TS) (tS w)))).filter (fun w : List Nat => decide (w.length = m)) := List.mem_filter.mpr ⟨hw, decide_eq_true hl⟩
      rw [e] at this
      cases this
  | cons a r =>
    rw [e] at hx hs2
    cases hx
    have ha : x ∈ (S.filter (fun w : List Nat => decide (1 < getT (oftT TS) (tS w)))).filter (fun w : List Nat => decide (w.length = m)) := by rw [e]; exact List.mem_cons_self
    obtain ⟨ha1, ha2⟩ := List.mem_filter.mp ha
    have ha2 := of_decide_eq_true ha2
    refine ⟨.inr (two x ha1).2, fun y hy h => ?_⟩
    have hy1 := hin y hy h
    refine ⟨by rw [ha2]; exact h1 y hy1, fun hl => ?_⟩
    have : y ∈ (S.filter (fun w : List Nat => decide (1 < getT (oftT TS) (tS w)))).filter (fun w : List Nat => decide (w.length = m)) := List.mem_filter.mpr ⟨hy1, decide_eq_true (by omega)⟩
    rw [e] at this
    rcases List.mem_cons.mp this with z | z
    · rw [z]
      exact List.not_lt.mp (List.lt_irrefl _)
    · exact (List.pairwise_cons.mp hs2).1 y z
end My
set_option maxHeartbeats 4000000
namespace My
open PySem L2 PyProof.Rows
/-- texts as the law draws them -/
structure OkS (TS : List (List Nat)) : Prop where
  n1 : 1 ≤ TS.length
  n2 : TS.length ≤ 6
  tx : ∀ t ∈ TS, OkT (tS t) ∧ t.length ≤ 8
theorem OkS.len {TS : List (List Nat)} (h : OkS TS) (i : Nat) : (TS.getD i []).length ≤ 8 := by
  rw [List.getD_eq_getElem?_getD]
  cases e : TS[i]? with
  | none => exact Nat.zero_le _
  | some t => exact (h.tx t (List.mem_of_getElem? e)).2
theorem sum_le8 : ∀ {L : List (List Nat)}, (∀ t ∈ L, t.length ≤ 8) → (L.map List.length).sum ≤ 8 * L.length
  | [], _ => Nat.zero_le _
  | t :: r, h => by
    rw [List.map_cons, List.sum_cons, List.length_cons]
    have h1 := h t List.mem_cons_self
    have h2 := sum_le8 fun u hu => h u (List.mem_cons_of_mem _ hu)
    omega
theorem OkS.ok {TS : List (List Nat)} (h : OkS TS) : OkX TS := by
  refine ⟨h.n1, by have := h.n2; omega, fun t ht => (h.tx t ht).1, ?_⟩
  have h1 := sum_le8 fun t ht => (h.tx t ht).2
  have h2 := h.n2
  omega
theorem ones_snoc (L : List (List Nat)) (w : List Nat) : ones (L ++ [w]) = ones L ++ [(tS w, 1)] := List.map_append
theorem tv_snoc (L : List (List Nat)) (w : List Nat) : tv (L ++ [w]) = tv L ++ [T w] := List.map_append
theorem sb_len {TS : List (List Nat)} (h : ∀ i, (TS.getD i []).length ≤ 8) {i : Nat} {w : List Nat} (hw : w ∈ sbN TS i) : w.length ≤ 8 := by
  unfold sbN sbP sbE at hw
  obtain ⟨n, _, hw⟩ := List.mem_flatMap.mp hw
  obtain ⟨p, hp, hw⟩ := List.mem_flatMap.mp hw
  obtain ⟨k, hk, rfl⟩ := List.mem_map.mp hw
  rw [List.length_take, List.length_drop]
  have := h n
  omega
theorem dT_some {D : List (Str × Int)} {x : Str} (h : x ∈ D.map Prod.fst) : valV (dT D) (Sum.inr x : Key) = some (.int (getT D x)) := by
  rw [dT_val]
  unfold getT
  cases e : D.find? fun e => decide (e.1 = x) with
  | none =>
    obtain ⟨f, hf, k⟩ := List.mem_map.mp h
    have := List.find?_eq_none.mp e f hf
    exact absurd k (by simpa using this)
  | some e => rfl
section
variable {P : Program} {w : World} {K : PySem.W.Frag} {mg : Str → Option Value} {base : Heap} {C : Addr}
def sp_law_again (_ : PySem.W.Frag) (_ : Addr) : Sp := fun vs H Q _ => ∃ l TS, vs = [.ref l] ∧ H l = some (.lst (tv TS)) ∧ OkS TS ∧ ∀ H' x, Same H H' → Again TS x → Q (T x) H'
theorem ok_law_again (D : Def K mg "_law_again" s_law_again ["_law_texts"]) (B : Bs mg) (Glb : Glo mg) (WK : WebK K mg C) :
    Good P w K mg base "_law_again" s_law_again ["_law_texts"] 1 (sp_law_again K C) := by
  refine D.good fun f fd F => ?_
  refine F.ok sc_law_again (fun vs H Q E h => ?_) (fun cdv A outer s H vs Q E hr h => ?_)
  · obtain ⟨l, TS, rfl, hl, ho, q⟩ := h
    first | rfl | (rcases h with ⟨_, _, rfl, _⟩ | ⟨_, rfl, _⟩ <;> rfl)
  obtain ⟨l, TS, rfl, hl, ho, q⟩ := h
  refine ⟨_, (pss_cons (ps_set (i := 1) sc_law_again.nd rfl (by first | exact Or.inl rfl | exact Or.inr rfl) pe_dnewK)
  (pss_cons (ps_for PassesOwn.never rfl (pi_list (pv 0)) (pg_name (i := 2) sc_law_again.nd rfl (by first | exact Or.inl rfl | exact Or.inr rfl))
    (pss_one (ps_for PassesOwn.never rfl (pi_range1 (by rfl) B.range (pa_cons (pe_callB call_len_str (by rfl) B.len (by decide +kernel) (pa_cons (pv 2) pa_nil)) pa_nil)) (pg_name (i := 3) sc_law_again.nd rfl (by first | exact Or.inl rfl | exact Or.inr rfl))
    (pss_one (ps_for PassesOwn.never rfl (pi_range2 (by rfl) B.range (pa_cons (pe_op op_add (pv 3) pe_int) (pa_cons (pe_op op_add (pe_callB call_len_str (by rfl) B.len (by decide +kernel) (pa_cons (pv 2) pa_nil)) pe_int) pa_nil))) (pg_name (i := 4) sc_law_again.nd rfl (by first | exact Or.inl rfl | exact Or.inr rfl))
    (pss_one (ps_dput (hu_of hr) (pv 1) (pe_slice sl_str (pv 2) (po_some (pv 3)) (po_some (pv 4))) (pe_op op_add (pe_dget2 (hu_of hr) (pv 1) (pe_slice sl_str (pv 2) (po_some (pv 3)) (po_some (pv 4))) pe_int ⟨rfl, rfl, rfl, rfl⟩) pe_int) rfl)))))))
  (pss_cons (ps_setLc (i := 5) (own := [("_law_word", 7)]) (g := gName 7) (by rfl) sc_law_again.nd rfl rfl (sw_true rfl rfl rfl (by decide +kernel)) (pi_list (pe_callB (cr_sortSq hr.units) (by rfl) B.sorted (by decide +kernel) (pa_cons (pe_callTy (call_listD rfl) (by rfl) B.list (by decide +kernel) (pa_cons (pv 1) pa_nil)) pa_nil))) (blkOk_by (own := [("_law_word", 7)]) (N := ["_law_texts", "_law_often", "_law_text_here", "_law_place", "_law_end", "_law_some", "_law_most", "_law_word"]) (sc := defScope s_law_again) (by decide +kernel)) (fun _ _ _ _ _ => (pg_name (i := 7) sc_law_again.nd rfl (by first | exact Or.inl rfl | exact Or.inr rfl))) (fun _ _ _ _ _ => (pts_one (pt_cmpR op_gt (pe_dget (hu_of hr) (pv 1) (pv 7) (by exact fun _ _ => rfl)) pe_int (nomark _)))) (fun _ _ _ _ _ => (pv 7)))
  (pss_cons (ps_set (i := 6) sc_law_again.nd rfl (by first | exact Or.inl rfl | exact Or.inr rfl) (pe_callB (cr_max rfl) (by rfl) B.max (by decide +kernel) (pa_cons (pe_op op_cat (pe_lc (own := [("_law_word", 7)]) (g := gName 7) (by rfl) sc_law_again.nd (pi_list (pv 5)) (blkOk_by (own := [("_law_word", 7)]) (N := ["_law_texts", "_law_often", "_law_text_here", "_law_place", "_law_end", "_law_some", "_law_most", "_law_word"]) (sc := defScope s_law_again) (by decide +kernel)) (fun _ _ _ _ _ => (pg_name (i := 7) sc_law_again.nd rfl (by first | exact Or.inl rfl | exact Or.inr rfl))) (fun _ _ _ _ _ => pts_nil) (fun _ _ _ _ _ => (pe_callB call_len_str (by rfl) B.len (by decide +kernel) (pa_cons (pv 7) pa_nil)))) (pe_lst (pa_cons pe_int pa_nil))) pa_nil)))
  (pss_one (ps_ret (pe_ix ix_list (pe_op op_cat (pe_lc (own := [("_law_word", 7)]) (g := gName 7) (by rfl) sc_law_again.nd (pi_list (pv 5)) (blkOk_by (own := [("_law_word", 7)]) (N := ["_law_texts", "_law_often", "_law_text_here", "_law_place", "_law_end", "_law_some", "_law_most", "_law_word"]) (sc := defScope s_law_again) (by decide +kernel)) (fun _ _ _ _ _ => (pg_name (i := 7) sc_law_again.nd rfl (by first | exact Or.inl rfl | exact Or.inr rfl))) (fun _ _ _ _ _ => (pts_one (pt_cmpR op_eq (pe_callB call_len_str (by rfl) B.len (by decide +kernel) (pa_cons (pv 7) pa_nil)) (pv 6) (nomark _)))) (fun _ _ _ _ _ => (pv 7))) (pe_lst (pa_cons pe_str pa_nil))) pe_int (fun _ _ => rfl)))))))), ?_⟩
  have n2 := ho.n2
  intro d nd
  have hld : upd H d (.dK []) l = some (.lst (tv TS)) := same_new nd _ _ _ hl
  refine ⟨_, rfl, l, rfl, ⟨_, SqL.of hld⟩, ?_⟩
  have bnd : ∀ {i k j : Nat} {t : List Nat}, i < TS.length → k < 8 → j ≤ 8 → t.length ≤ 8 → (dT (sumT [] (ones (sbN TS i ++ sbP t k ++ sbE t k j)))).length < sizeLine := fun {i k j t} h1 h2 h3 h4 => by
    have g1 := sumT_len (ones (sbN TS i ++ sbP t k ++ sbE t k j)) []
    have g2 := sbN_len ho.len i
    have g3 := sbP_len h4 k
    rw [List.length_map, List.length_append, List.length_append, sbE_len] at g1
    rw [List.length_map]
    refine sml1000 (Nat.le_trans g1 ?_)
    show 0 + _ ≤ _
    omega
  refine for_list (K := K) (a := l) (xs := tv TS) (fun i σ H' => ∃ v2 v3 v4 : Option V, σ = [some (.ref l), some (.ref d), v2, v3, v4, none, none, none] ∧ Same H H' ∧ H' d = some (.dK (dT (sumT [] (ones (sbN TS i)))))) ⟨none, none, none, rfl, same_new nd _, upd_same⟩ (fun i σ H' _ ⟨_, _, _, _, hS', _⟩ => SqL.of (hS' _ _ hl)) ?_ ?_
  · rintro i x σ H1 hx ⟨v2, v3, v4, rfl, hS1, hd1⟩
    obtain ⟨t, ht, rfl⟩ := tv_at hx
    have hil := (List.getElem?_eq_some_iff.mp ht).1
    have htl := (ho.tx t (List.mem_of_getElem? ht)).2
    have et : TS.getD i [] = t := by rw [List.getD_eq_getElem?_getD, ht]; rfl
    refine ⟨_, rfl, _, rfl, T_line (by omega), _, rfl, by rw [T_len]; omega, by rw [T_len]; omega, ?_⟩
    rw [T_len, show ((t.length : Nat) : Int).toNat = t.length by omega]
    refine for_range (lo := 0) (n := t.length) (fun k σ H' => ∃ v3 v4 : Option V, σ = [some (.ref l), some (.ref d), some (T t), v3, v4, none, none, none] ∧ Same H H' ∧ H' d = some (.dK (dT (sumT [] (ones (sbN TS i ++ sbP t k)))))) ⟨v3, v4, rfl, hS1, by show _ = some (HO.dK (dT (sumT [] (ones (sbN TS i ++ []))))); rw [List.append_nil]; exact hd1⟩ ?_ ?_
    · rintro k σ H2 hk ⟨v3, v4, rfl, hS2, hd2⟩
      refine ⟨_, rfl, _, _, rfl, rfl, _, rfl, _, rfl, T_line (by omega), _, _, rfl, rfl, _, _, rfl, ⟨by omega, by omega, by rw [T_len]; omega, by rw [T_len]; omega⟩, ?_⟩
      rw [T_len, show (((t.length : Nat) : Int) + 1 - (0 + (k : Int) + 1)).toNat = t.length - k by omega]
      refine for_range (lo := 0 + (k : Int) + 1) (n := t.length - k) (fun j σ H' => ∃ v4 : Option V, σ = [some (.ref l), some (.ref d), some (T t), some (.int (0 + (k : Int))), v4, none, none, none] ∧ Same H H' ∧ H' d = some (.dK (dT (sumT [] (ones (sbN TS i ++ sbP t k ++ sbE t k j)))))) ⟨v4, rfl, hS2, by show _ = some (HO.dK (dT (sumT [] (ones (sbN TS i ++ sbP t k ++ []))))); rw [List.append_nil]; exact hd2⟩ ?_ ?_
      · rintro j σ H3 hj ⟨v4, rfl, hS3, hd3⟩
        have ee : cutS (tS t) (some (0 + (k : Int))) (some (0 + (k : Int) + 1 + (j : Int))) = tS ((t.drop k).take (j + 1)) := by
          rw [show (0 : Int) + (k : Int) = (k : Int) by omega, show (k : Int) + 1 + (j : Int) = (k : Int) + ((j + 1 : Nat) : Int) by omega, cutS_mid]
        refine ⟨_, rfl, d, rfl, .inl ⟨_, .inl hd3⟩, _, rfl, _, rfl, _, rfl, _, rfl, _, rfl, _, rfl, T_line (by omega), ?_⟩
        rw [ee]
        refine ⟨_, DGet.k (k := Sum.inr (tS ((t.drop k).take (j + 1)))) hd3, ?_⟩
        rw [dT_getD]
        refine ⟨_, _, rfl, rfl, _, rfl, _, rfl, _, rfl, _, rfl, _, rfl, _, rfl, _, rfl, T_line (by omega), ?_⟩
        rw [ee]
        refine ⟨d, _, rfl, DPut.k (k := Sum.inr (tS ((t.drop k).take (j + 1)))) hd3 (bnd hil (by omega) (by omega) htl), ?_⟩
        rw [dT_put (sumT_nodup _ (by simp))]
        refine ⟨_, rfl, same_upd hS3 nd, ?_⟩
        rw [upd_same, sbE_succ, ← List.append_assoc, ones_snoc, sumT_snoc]
      · rintro σ H3 ⟨v4, rfl, hS3, hd3⟩
        refine ⟨_, _, rfl, hS3, ?_⟩
        rw [sbP_succ, ← List.append_assoc]
        exact hd3
    · rintro σ H2 ⟨v3, v4, rfl, hS2, hd2⟩
      refine ⟨_, _, _, rfl, hS2, ?_⟩
      rw [sbN_succ, et]
      exact hd2
  rintro σ H1 ⟨v2, v3, v4, rfl, hS1, hd1⟩
  rw [List.length_map] at hd1
  have hS : ((oftT TS).map Prod.fst).mergeSort leS = ((((oftT TS).map Prod.fst).mergeSort leS).map fun x => x.cps.toList).map tS := by
    rw [List.map_map]
    conv => lhs; rw [← List.map_id (((oftT TS).map Prod.fst).mergeSort leS)]
    exact List.map_congr_left fun x _ => rfl
  have hn : ((oftT TS).map Prod.fst).Nodup := sumT_nodup _ (by simp)
  generalize eS : (((oftT TS).map Prod.fst).mergeSort leS).map (fun x => x.cps.toList) = S at hS
  have hup : S.Pairwise (· ≤ ·) := by
    rw [← eS, List.pairwise_map]
    exact (texts_of hn).imp fun h => List.le_of_lt h
  have hmem : ∀ w, w ∈ S ↔ w ∈ sbN TS TS.length := fun w => by
    have h1 : tS w ∈ (oftT TS).map Prod.fst ↔ w ∈ sbN TS TS.length := by
      rw [ones_keys]
      exact ⟨fun ⟨v, h, e⟩ => tS_inj e ▸ h, fun h => ⟨w, h, rfl⟩⟩
    rw [← h1, ← (List.mergeSort_perm ((oftT TS).map Prod.fst) leS).mem_iff, hS]
    exact ⟨fun h => List.mem_map.mpr ⟨w, h, rfl⟩, fun h => by
      obtain ⟨v, h, e⟩ := List.mem_map.mp h
      exact tS_inj e ▸ h⟩
  have hlen : S.length ≤ 400 := by
    have g1 := sumT_len (ones (sbN TS TS.length)) []
    have g2 := sbN_len ho.len TS.length
    have g3 : S.length = (oftT TS).length := by rw [← eS, List.length_map, List.length_mergeSort, List.length_map]
    rw [List.length_map] at g1
    rw [g3]
    refine Nat.le_trans g1 ?_
    show 0 + _ ≤ _
    omega
  refine ⟨_, rfl, d, _, rfl, .inl hd1, fun k1 nk1 => ?_⟩
  have hk1 : upd H1 k1 (.lst ((dT (oftT TS)).map fun kv => kV kv.1)) k1 = some (.lst (((oftT TS).map Prod.fst).map V.str)) := by
    rw [upd_same, List.map_map, List.map_map]
    rfl
  have hSk := hS1.trans (same_new nk1 (.lst ((dT (oftT TS)).map fun kv => kV kv.1)))
  have hdk : upd H1 k1 (.lst ((dT (oftT TS)).map fun kv => kV kv.1)) d = some (.dK (dT (oftT TS))) := same_new nk1 _ _ _ hd1
  generalize upd H1 k1 (.lst ((dT (oftT TS)).map fun kv => kV kv.1)) = H2 at hk1 hSk hdk
  refine ⟨k1, _, rfl, .inl (SqL.of hk1), ?_, fun sl nsl => ?_⟩
  · have : S.length = ((oftT TS).map Prod.fst).length := by rw [← eS, List.length_map, List.length_mergeSort]
    omega
  have esl : (((oftT TS).map Prod.fst).mergeSort leS).map V.str = tv S := by
    rw [hS, List.map_map]
    rfl
  rw [esl]
  have hsl : upd H2 sl (.lst (tv S)) sl = some (.lst (tv S)) := upd_same
  have hS3 := hSk.trans (same_new nsl (.lst (tv S)))
  have hd3 : upd H2 sl (.lst (tv S)) d = some (.dK (dT (oftT TS))) := same_new nsl _ _ _ hdk
  generalize upd H2 sl (.lst (tv S)) = H3 at hsl hS3 hd3
  refine ⟨sl, rfl, ⟨_, SqL.of hsl⟩, fun D nD => ?_⟩
  refine lc_list (K := K) (a := sl) (xs := tv S) (fun i H' => Same H3 H' ∧ H' D = some (.lst (tv ((S.take i).filter fun w : List Nat => decide (1 < getT (oftT TS) (tS w)))))) ⟨same_new nD _, upd_same⟩ (fun i H' _ ⟨hS', _⟩ => SqL.of (hS' _ _ hsl)) ?_ ?_
  · rintro i x H4 hx ⟨hS4, hD4⟩
    obtain ⟨w, hw, rfl⟩ := tv_at hx
    have hwS : tS w ∈ (oftT TS).map Prod.fst := (ones_keys _ _).mpr ⟨w, (hmem w).mp (List.mem_of_getElem? hw), rfl⟩
    have hd4 := hS4 _ _ hd3
    have hg : DGet H4 d (T w) (some (.int (getT (oftT TS) (tS w)))) := by
      rw [← dT_some hwS]
      exact DGet.k (k := Sum.inr (tS w)) hd4
    have hfl := List.length_filter_le (fun w : List Nat => decide (1 < getT (oftT TS) (tS w))) (S.take i)
    rw [List.length_take] at hfl
    refine ⟨rfl, _, rfl, _, rfl, d, _, rfl, hg, _, _, rfl, rfl, _, rfl, ?_⟩
    rw [filt_snoc hw]
    by_cases c : 1 < getT (oftT TS) (tS w)
    · refine iteYes c ⟨_, rfl, _, hD4, ?_, same_upd hS4 nD, ?_⟩
      · rw [List.length_map]
        exact sml1000 (by omega)
      · rw [upd_same, if_pos (decide_eq_true c), tv_snoc]
    · refine iteNo c ⟨hS4, ?_⟩
      rw [if_neg (by simpa using c), List.append_nil]
      exact hD4
  rintro H4 ⟨hS4, hD4⟩
  rw [List.length_map, List.take_length] at hD4
  have hmost := fun {m : Nat} => again_of (TS := TS) (S := S) hup hmem (m := m)
  have hw8 : ∀ w ∈ S.filter (fun w : List Nat => decide (1 < getT (oftT TS) (tS w))), w.length ≤ 8 := fun w hw => sb_len ho.len ((hmem w).mp (List.mem_filter.mp hw).1)
  have hfl := List.length_filter_le (fun w : List Nat => decide (1 < getT (oftT TS) (tS w))) S
  generalize S.filter (fun w : List Nat => decide (1 < getT (oftT TS) (tS w))) = S2 at hD4 hmost hfl hw8
  have hS5 := hS3.trans hS4
  refine ⟨_, rfl, D, rfl, ⟨_, SqL.of hD4⟩, fun E1 nE1 => ?_⟩
  refine lc_list (K := K) (a := D) (xs := tv S2) (fun i H' => Same H4 H' ∧ H' E1 = some (.lst (iv ((S2.take i).map List.length)))) ⟨same_new nE1 _, upd_same⟩ (fun i H' _ ⟨hS', _⟩ => SqL.of (hS' _ _ hD4)) ?_ ?_
  · rintro i x H5 hx ⟨hS6, hE5⟩
    obtain ⟨w, hw, rfl⟩ := tv_at hx
    have hw8 := hw8 w (List.mem_of_getElem? hw)
    refine ⟨rfl, _, rfl, _, rfl, T_line (by omega), _, hE5, ?_, same_upd hS6 nE1, ?_⟩
    · rw [List.length_map, List.length_map, List.length_take]
      exact sml1000 (by omega)
    · rw [upd_same, T_len, List.take_succ, hw, Option.toList_some, List.map_append]
      show _ = some (HO.lst (iv (_ ++ [w.length])))
      rw [iv_app]
  rintro H5 ⟨hS6, hE5⟩
  rw [List.length_map, List.take_length] at hE5
  refine ⟨(by show 1 ≤ sizeLine; decide), fun p0 np0 => ?_⟩
  refine ⟨E1, p0, _, _, rfl, rfl, same_new np0 _ _ _ hE5, upd_same, ?_, fun p1 np1 => ?_⟩
  · rw [List.length_map, List.length_map]
    exact Nat.le_of_lt (sml1000 (show S2.length + 1 ≤ 1000 by omega))
  have hS7 := (hS5.trans hS6).trans ((same_new np0 (.lst [V.int 0])).trans (same_new np1 (.lst (iv (S2.map List.length) ++ [V.int 0]))))
  have hD7 := (hS6.trans ((same_new np0 (.lst [V.int 0])).trans (same_new np1 (.lst (iv (S2.map List.length) ++ [V.int 0]))))) _ _ hD4
  have hp1 : upd (upd H5 p0 (.lst [V.int 0])) p1 (.lst (iv (S2.map List.length) ++ [V.int 0])) p1 = some (.lst ((((S2.map List.length).map fun n : Nat => (n : Int)) ++ [0]).map V.int)) := by
    rw [upd_same, List.map_append, iv_iz]
    rfl
  generalize upd (upd H5 p0 (.lst [V.int 0])) p1 (.lst (iv (S2.map List.length) ++ [V.int 0])) = H6 at hS7 hD7 hp1
  refine ⟨p1, _, rfl, SqL.of hp1, by simp, fun m hm hle => ?_⟩
  obtain ⟨m0, rfl, g2⟩ : ∃ m0 : Nat, m = (m0 : Int) ∧ (m0 = 0 ∨ ∃ w ∈ S2, w.length = m0) := by
    rcases List.mem_append.mp hm with z | z
    · obtain ⟨n, hn, rfl⟩ := List.mem_map.mp z
      obtain ⟨w, hw, rfl⟩ := List.mem_map.mp hn
      exact ⟨_, rfl, .inr ⟨w, hw, rfl⟩⟩
    · exact ⟨0, List.mem_singleton.mp z, .inl rfl⟩
  have g1 : ∀ w ∈ S2, w.length ≤ m0 := fun w hw => by
    have := hle (w.length : Int) (List.mem_append.mpr (.inl (List.mem_map.mpr ⟨_, List.mem_map.mpr ⟨w, hw, rfl⟩, rfl⟩)))
    omega
  have hfin := fun {x : List Nat} => hmost g1 g2 (x := x)
  refine ⟨_, rfl, D, rfl, ⟨_, SqL.of hD7⟩, fun E2 nE2 => ?_⟩
  refine lc_list (K := K) (a := D) (xs := tv S2) (fun i H' => Same H6 H' ∧ H' E2 = some (.lst (tv ((S2.take i).filter fun w : List Nat => decide (w.length = m0))))) ⟨same_new nE2 _, upd_same⟩ (fun i H' _ ⟨hS', _⟩ => SqL.of (hS' _ _ hD7)) ?_ ?_
  · rintro i x H7 hx ⟨hS8, hE7⟩
    obtain ⟨w, hw, rfl⟩ := tv_at hx
    have hw8 := hw8 w (List.mem_of_getElem? hw)
    have hf2 := List.length_filter_le (fun w : List Nat => decide (w.length = m0)) (S2.take i)
    rw [List.length_take] at hf2
    refine ⟨rfl, _, rfl, _, rfl, T_line (by omega), _, rfl, rfl, _, rfl, ?_⟩
    rw [filt_snoc hw, T_len]
    by_cases c : w.length = m0
    · refine iteYes (by rw [c]) ⟨_, rfl, _, hE7, ?_, same_upd hS8 nE2, ?_⟩
      · rw [List.length_map]
        exact sml1000 (by omega)
      · rw [upd_same, if_pos (decide_eq_true c), tv_snoc]
    · refine iteNo (fun z => c (by have := int_eq.mp z; omega)) ⟨hS8, ?_⟩
      rw [if_neg (by simpa using c), List.append_nil]
      exact hE7
  rintro H7 ⟨hS8, hE7⟩
  rw [List.length_map, List.take_length] at hE7
  have hf3 := List.length_filter_le (fun w : List Nat => decide (w.length = m0)) S2
  refine ⟨(by show 1 ≤ sizeLine; decide), fun p2 np2 => ?_⟩
  refine ⟨E2, p2, _, _, rfl, rfl, same_new np2 _ _ _ hE7, upd_same, ?_, fun p3 np3 => ?_⟩
  · rw [List.length_map]
    exact Nat.le_of_lt (sml1000 (Nat.le_trans (Nat.succ_le_succ hf3) (by omega)))
  have el : tv (S2.filter fun w : List Nat => decide (w.length = m0)) ++ [V.str (Str.ofString "")] = tv ((S2.filter fun w : List Nat => decide (w.length = m0)) ++ [[]]) := by
    rw [tv_snoc, T_nil]
  rw [el]
  obtain ⟨x, hx⟩ : ∃ x, ((S2.filter fun w : List Nat => decide (w.length = m0)) ++ [[]]).head? = some x := by
    cases S2.filter fun w : List Nat => decide (w.length = m0) with
    | nil => exact ⟨_, rfl⟩
    | cons a r => exact ⟨_, rfl⟩
  refine ⟨_, _, _, T x, rfl, rfl, SqL.of upd_same, atI_nat (j := 0) ?_, ?_⟩
  · rw [List.getElem?_map, ← List.head?_eq_getElem?, hx]
    rfl
  · exact q _ x (hS7.trans (hS8.trans ((same_new np2 _).trans (same_new np3 _)))) (hfin hx)
end
end My
set_option maxHeartbeats 4000000
namespace My
open PySem L2 PyProof.Rows
/-- the letter ahead of a place -/
def llt (TS : List (List Nat)) (e : Nat × Nat) : List Nat := ((TS.getD e.1 []).take e.2).drop (((TS.getD e.1 []).take e.2).length - 1)
theorem cut_end (l : List Nat) : cutS (tS l) (some (-1)) none = tS (l.drop (l.length - 1)) := by
  unfold cutS
  rw [T_len, HT.sIx_none]
  refine congrArg Str.mk ?_
  have e : HT.sIx l.length 0 (some (-1)) = l.length - 1 := by
    show (if (-1 : Int) < 0 then ((-1 : Int) + (l.length : Int)).toNat else min (-1 : Int).toNat l.length) = _
    rw [if_pos (by decide)]
    omega
  rw [e]
  show ((l.toArray.toList.drop (l.length - 1)).take (l.length - (l.length - 1))).toArray = _
  rw [List.toList_toArray, List.take_of_length_le (by rw [List.length_drop]; omega)]
theorem cut_any (l : List Nat) (lo hi : Option Int) : ∃ a b, cutS (tS l) lo hi = tS ((l.drop a).take b) := ⟨_, _, rfl⟩
theorem okT_cut {l : List Nat} (h : OkT (tS l)) (a b : Nat) : OkT (tS ((l.drop a).take b)) := by
  refine ⟨?_, fun c hc => h.let_ c ?_⟩
  · have := h.len
    rw [T_len] at this ⊢
    rw [List.length_take, List.length_drop]
    omega
  · have hc : c ∈ (l.drop a).take b := by simpa using hc
    have := List.mem_of_mem_drop (List.mem_of_mem_take hc)
    simpa using this
theorem okT_snoc {l m : List Nat} (h : OkT (tS l)) (hl : l.length + m.length ≤ 400) (hm : ∀ c ∈ m, 97 ≤ c ∧ c ≤ 122) : OkT (tS (l ++ m)) := by
  refine ⟨by rw [T_len, List.length_append]; exact hl, fun c hc => ?_⟩
  have hc : c ∈ l ++ m := by simpa using hc
  rcases List.mem_append.mp hc with z | z
  · exact h.let_ c (by simpa using z)
  · exact hm c z
section
variable {P : Program} {w : World} {K : PySem.W.Frag} {mg : Str → Option Value} {base : Heap} {C : Addr}
def spFinder_last_letters (_ : PySem.W.Frag) (C : Addr) : Sp := fun vs H Q _ => ∃ f lt lr TS, vs = [.ref f] ∧ FinAt C f lt lr TS H ∧ OkX TS ∧ ∀ H' p, H p = none → Same H H' → H' p = some (.lst (tv ((rowsT TS).map (llt TS)))) → Q (.ref p) H'
theorem okFinder_last_letters (D : DefM K C "last_letters" "Finder.last_letters" sFinder_last_letters ["self"]) (B : Bs mg) (Glb : Glo mg) (WK : WebK K mg C) :
    GoodM P w K mg base C "last_letters" "Finder.last_letters" sFinder_last_letters ["self"] 1 (spFinder_last_letters K C) := by
  refine D.good fun f fd F => ?_
  refine F.ok scFinder_last_letters (fun vs H Q E h => ?_) (fun cdv A outer s H vs Q E hr h => ?_)
  · obtain ⟨f, lt, lr, TS, rfl, hF, ho, q⟩ := h
    first | rfl | (rcases h with ⟨_, _, rfl, _⟩ | ⟨_, rfl, _⟩ <;> rfl)
  obtain ⟨f, lt, lr, TS, rfl, hF, ho, q⟩ := h
  refine ⟨_, (pss_one (ps_ret (pe_lc (own := [("number", 1), ("place", 2)]) (g := gTup K 2 (gCons (gName 1) (gCons (gName 2) gNil))) (by rfl) scFinder_last_letters.nd (pi_list (pe_fld (pv 0) rfl)) (blkOk_by (own := [("number", 1), ("place", 2)]) (N := ["self", "number", "place"]) (sc := defScope sFinder_last_letters) (by decide +kernel)) (fun _ _ _ _ _ => (pg_tup rfl (pgs_cons (pg_name (i := 1) scFinder_last_letters.nd rfl (by first | exact Or.inl rfl | exact Or.inr rfl)) (pgs_cons (pg_name (i := 2) scFinder_last_letters.nd rfl (by first | exact Or.inl rfl | exact Or.inr rfl)) pgs_nil)))) (fun _ _ _ _ _ => pts_nil) (fun _ _ _ _ _ => (pe_slice sl_str (pe_slice sl_str (pe_ix (ix_listK (K := K) rfl) (pe_fldK (K := K) rfl (pv 0)) (pv 1) (by exact fun _ _ => rfl)) po_none (po_some (pv 2))) (po_some (pe_un un_neg pe_int)) po_none))))), ?_⟩
  obtain ⟨⟨dx, h1⟩, h2, ⟨tas, t1, t2⟩⟩ := id hF
  have hrl := rowsT_len ho
  have tl := paired_len t2
  refine ⟨_, rfl, f, C, dx, _, _, rfl, h1, WK.cl, WK.nR, ff_R _ _, lr, rfl, ⟨_, SqL.of t1⟩, fun D nD => ?_⟩
  refine lc_list (K := K) (a := lr) (xs := tas.map V.ref) (fun i H' => Same H H' ∧ H' D = some (.lst (tv (((rowsT TS).take i).map (llt TS))))) ⟨same_new nD _, upd_same⟩ (fun i H' _ ⟨hS', _⟩ => SqL.of (hS' _ _ t1)) ?_ ?_
  · rintro i x H1 hx ⟨hS1, hD1⟩
    obtain ⟨p, e, rfl, _, he, hpe⟩ := paired_at t2 hx
    obtain ⟨m1, m2⟩ := rowsT_mem he
    have htl := txt_len ho m1
    refine ⟨p, _, rfl, SqT.of (hS1 _ _ hpe), rfl, _, _, rfl, _, _, rfl, rfl, rfl, ?_⟩
    refine ⟨_, rfl, f, C, dx, _, _, rfl, hS1 _ _ h1, WK.cl, WK.nT, ff_T _ _, _, rfl, _, _, _, _, rfl, rfl, SqL.of (hS1 _ _ h2), atI_nat (txt_at m1), _, rfl, _, rfl, _, rfl, T_line (by omega), ?_⟩
    rw [cut_to]
    refine ⟨_, rfl, _, rfl, _, rfl, T_line (by rw [List.length_take]; omega), ?_⟩
    rw [show (-(1 : Int)) = -1 from rfl, cut_end]
    refine ⟨_, hD1, ?_, same_upd hS1 nD, ?_⟩
    · rw [List.length_map, List.length_map, List.length_take]
      exact sml1000 (by omega)
    · rw [upd_same, List.take_succ, he, Option.toList_some, List.map_append]
      show _ = some (HO.lst (tv (_ ++ [llt TS e])))
      rw [tv_snoc]
      rfl
  rintro H1 ⟨hS1, hD1⟩
  rw [List.length_map, tl, List.take_length] at hD1
  exact q H1 D nD hS1 hD1
def sp_law_words (_ : PySem.W.Frag) (_ : Addr) : Sp := fun vs H Q _ => ∃ a l TS, vs = [.ref a, .ref l] ∧ PotAt H a ∧ H l = some (.lst (tv TS)) ∧ l ≠ a ∧ OkS TS ∧ ∀ H' p Ws, H p = none → Kept a H H' → PotAt H' a → H' p = some (.lst (tv Ws)) → (∀ W ∈ Ws, OkT (tS W) ∧ W ≠ []) → Q (.ref p) H'
theorem ok_law_words (D : Def K mg "_law_words" s_law_words ["_law_pot_here", "_law_texts"]) (B : Bs mg) (Glb : Glo mg) (WK : WebK K mg C)
    (h_law_pick : Good P w K mg base "_law_pick" s_law_pick ["_law_pot_here", "_law_some"] 2 (sp_law_pick K C))
    (h_law_text : Good P w K mg base "_law_text" s_law_text ["_law_pot_here", "_law_most"] 3 (sp_law_text K C))
    (h_law_draw : Good P w K mg base "_law_draw" s_law_draw ["_law_pot_here", "_law_size"] 1 (sp_law_draw K C)) :
    Good P w K mg base "_law_words" s_law_words ["_law_pot_here", "_law_texts"] 4 (sp_law_words K C) := by
  refine D.good fun f fd F => ?_
  obtain ⟨f_law_pick, d_law_pick, O_law_pick, m_law_pick, k_law_pick, b_law_pick, F_law_pick⟩ := h_law_pick
  obtain ⟨f_law_text, d_law_text, O_law_text, m_law_text, k_law_text, b_law_text, F_law_text⟩ := h_law_text
  obtain ⟨f_law_draw, d_law_draw, O_law_draw, m_law_draw, k_law_draw, b_law_draw, F_law_draw⟩ := h_law_draw
  refine F.ok sc_law_words (fun vs H Q E h => ?_) (fun cdv A outer s H vs Q E hr h => ?_)
  · obtain ⟨a, l, TS, rfl, hp, hl, hla, ho, q⟩ := h
    first | rfl | (rcases h with ⟨_, _, rfl, _⟩ | ⟨_, rfl, _⟩ <;> rfl)
  obtain ⟨a, l, TS, rfl, hp, hl, hla, ho, q⟩ := h
  refine ⟨_, (pss_cons (ps_set (i := 2) sc_law_words.nd rfl (by first | exact Or.inl rfl | exact Or.inr rfl) (pe_lst (pa_cons pe_str (pa_cons pe_str (pa_cons pe_str (pa_cons (pe_op op_add_str (pe_call O_law_text hr rfl m_law_text k_law_text b_law_text .nil pass0 (pa_cons (pv 0) (pa_cons pe_int pa_nil))) pe_str) pa_nil))))))
  (pss_cons (ps_for PassesOwn.never rfl (pi_range1 (by rfl) B.range (pa_cons pe_int pa_nil)) (pg_name (i := 3) sc_law_words.nd rfl (by first | exact Or.inl rfl | exact Or.inr rfl))
    (pss_cons (ps_set (i := 4) sc_law_words.nd rfl (by first | exact Or.inl rfl | exact Or.inr rfl) (pe_call O_law_pick (hr.mono (by decide)) rfl m_law_pick k_law_pick b_law_pick .nil pass0 (pa_cons (pv 0) (pa_cons (pv 1) pa_nil))))
  (pss_cons (ps_set (i := 5) sc_law_words.nd rfl (by first | exact Or.inl rfl | exact Or.inr rfl) (pe_op op_mod (pe_call O_law_draw (hr.mono (by decide)) rfl m_law_draw k_law_draw b_law_draw .nil pass0 (pa_cons (pv 0) (pa_cons pe_int pa_nil))) (pe_callB (call_max2 rfl) (by rfl) B.max (by decide +kernel) (pa_cons pe_int (pa_cons (pe_callB call_len_str (by rfl) B.len (by decide +kernel) (pa_cons (pv 4) pa_nil)) pa_nil)))))
  (pss_cons (ps_set (i := 6) sc_law_words.nd rfl (by first | exact Or.inl rfl | exact Or.inr rfl) (pe_slice sl_str (pv 4) (po_some (pv 5)) (po_some (pe_op op_add (pe_op op_add (pv 5) pe_int) (pe_call O_law_draw (hr.mono (by decide)) rfl m_law_draw k_law_draw b_law_draw .nil pass0 (pa_cons (pv 0) (pa_cons pe_int pa_nil)))))))
  (pss_one (ps_expr (pe_bm PySem.F.plainAttrs_list PySem.F.slot_list_extend PySem.F.type_list_extend mt_extend (pv 2) (pa_cons (pe_lst (pa_cons (pe_op op_add_str (pv 6) pe_str) (pa_cons (pe_op op_add_str (pv 6) (pe_call O_law_pick (hr.mono (by decide)) rfl m_law_pick k_law_pick b_law_pick .nil pass0 (pa_cons (pv 0) (pa_cons (pe_lst (pa_cons pe_str (pa_cons pe_str (pa_cons pe_str pa_nil)))) pa_nil)))) pa_nil))) pa_nil))))))))
  (pss_one (ps_ret (pe_lc (own := [("_law_word", 6)]) (g := gName 6) (by rfl) sc_law_words.nd (pi_list (pv 2)) (blkOk_by (own := [("_law_word", 6)]) (N := ["_law_pot_here", "_law_texts", "_law_found", "_law_turn", "_law_text_here", "_law_place", "_law_word"]) (sc := defScope s_law_words) (by decide +kernel)) (fun _ _ _ _ _ => (pg_name (i := 6) sc_law_words.nd rfl (by first | exact Or.inl rfl | exact Or.inr rfl))) (fun _ _ _ _ _ => (pts_one (pt_cmpR op_ne (pv 6) pe_str (nomark _)))) (fun _ _ _ _ _ => (pv 6))))))), ?_⟩
  have n1 := ho.n1
  have n2 := ho.n2
  refine ⟨_, rfl, a, 4, rfl, hp, by omega, fun x0 H1 hx0 hx0l hk1 hp1 => ?_⟩
  have fewA : ∀ {l m : List Nat}, l.length ≤ 100 → m.length ≤ 100 → (tS l).length + (tS m).length ≤ sizeLine := fun {l m} h k => by
    rw [T_len, T_len]
    exact Nat.le_of_lt (sml1000 (by omega))
  have hx0l2 : x0.cps.toList.length ≤ 4 := by
    have : x0.length = x0.cps.toList.length := by show x0.cps.size = _; simp
    omega
  refine ⟨tS x0.cps.toList, tS [97], rfl, by rw [of_a], fewA (by omega) (by decide), ?_⟩
  rw [T_app]
  refine ⟨(by show 4 ≤ sizeLine; decide), fun F nF => ?_⟩
  have eW : [V.str (Str.ofString "a"), V.str (Str.ofString "b"), V.str (Str.ofString "abc"), V.str ⟨(x0.cps.toList ++ [97]).toArray⟩] = tv [[97], [98], [97, 98, 99], x0.cps.toList ++ [97]] := by
    rw [of_a, show Str.ofString "b" = ⟨#[98]⟩ by decide +kernel, show Str.ofString "abc" = ⟨#[97, 98, 99]⟩ by decide +kernel]
    rfl
  rw [eW]
  have nFa : F ≠ a := hp1.ne nF
  have nF0 : H F = none := by
    cases z : H F with
    | none => rfl
    | some o =>
      have := hk1 _ _ z nFa
      rw [nF] at this
      cases this
  have k0 : Kept a H (upd H1 F (.lst (tv [[97], [98], [97, 98, 99], x0.cps.toList ++ [97]]))) := hk1.put nF0
  have p0 := hp1.new (o := .lst (tv [[97], [98], [97, 98, 99], x0.cps.toList ++ [97]])) nF
  have okx0 : OkT (tS (x0.cps.toList ++ [97])) := okT_snoc hx0.ok (by rw [List.length_singleton]; omega) (by simp)
  refine ⟨_, rfl, by decide, by decide, ?_⟩
  refine for_range (lo := 0) (n := 4) (fun i σ H' => ∃ (v3 v4 v5 v6 : Option V) (Ws : List (List Nat)), σ = [some (.ref a), some (.ref l), some (.ref F), v3, v4, v5, v6] ∧ Kept a H H' ∧ PotAt H' a ∧ H' F = some (.lst (tv Ws)) ∧ (∀ W ∈ Ws, OkT (tS W)) ∧ Ws.length = 4 + 2 * i) ⟨none, none, none, none, _, rfl, k0, p0, upd_same, ?_, rfl⟩ ?_ ?_
  · intro W hW
    simp only [List.mem_cons, List.not_mem_nil, or_false] at hW
    rcases hW with rfl | rfl | rfl | rfl
    · exact ⟨by decide, by simp⟩
    · exact ⟨by decide, by simp⟩
    · exact ⟨by decide, by simp⟩
    · exact okx0
  · rintro i σ H2 hi ⟨v3, v4, v5, v6, Ws, rfl, hk2, hp2, hF2, hok, hWl⟩
    refine ⟨_, rfl, _, rfl, a, l, _, rfl, hk2 _ _ hl hla, hla, by rw [List.length_map]; omega, by rw [List.length_map]; omega, hp2, fun v H3 hv hk3 hp3 => ?_⟩
    obtain ⟨t, ht, rfl⟩ := List.mem_map.mp hv
    obtain ⟨okt, htl⟩ := ho.tx t ht
    refine ⟨_, rfl, a, 10, rfl, hp3, by omega, by omega, fun d1 H4 hd1 hk4 hp4 => ?_⟩
    refine ⟨_, rfl, _, rfl, T_line (by omega), _, _, rfl, _, _, rfl, rfl, by rw [T_len]; split <;> omega, ?_⟩
    refine ⟨_, rfl, _, rfl, _, rfl, _, rfl, _, _, rfl, rfl, _, rfl, a, 4, rfl, hp4, by omega, by omega, fun d2 H5 hd2 hk5 hp5 => ?_⟩
    refine ⟨_, _, rfl, rfl, _, rfl, _, rfl, T_line (by omega), ?_⟩
    obtain ⟨b1, b2, eb⟩ := cut_any t (some ((d1 : Int) % (if ((tS t).length : Int) > 1 then ((tS t).length : Int) else 1))) (some ((d1 : Int) % (if ((tS t).length : Int) > 1 then ((tS t).length : Int) else 1) + 1 + (d2 : Int)))
    rw [eb]
    have okw := okT_cut okt b1 b2
    have hwl : ((t.drop b1).take b2).length ≤ 8 := by rw [List.length_take, List.length_drop]; omega
    generalize (t.drop b1).take b2 = W at okw hwl
    have hF5 := hk5 _ _ (hk4 _ _ (hk3 _ _ hF2 nFa) nFa) nFa
    refine ⟨_, rfl, .inl ⟨rfl, _, SqL.of hF5⟩, _, rfl, tS W, tS [97], rfl, by rw [of_a], fewA (by omega) (by decide), ?_⟩
    rw [T_app]
    refine ⟨_, rfl, _, rfl, (by show 3 ≤ sizeLine; decide), fun p1 np1 => ?_⟩
    refine ⟨a, p1, _, rfl, upd_same, hp5.ne np1, by decide, by decide, hp5.new np1, fun v2 H6 hv2 hk6 hp6 => ?_⟩
    obtain ⟨m, rfl, hml, hmo⟩ : ∃ m : List Nat, v2 = T m ∧ m.length ≤ 1 ∧ ∀ c ∈ m, 97 ≤ c ∧ c ≤ 122 := by
      simp only [List.mem_cons, List.not_mem_nil, or_false] at hv2
      rcases hv2 with rfl | rfl | rfl
      · exact ⟨[], by rw [T_nil], by simp, by simp⟩
      · exact ⟨[98], by rw [show Str.ofString "b" = ⟨#[98]⟩ by decide +kernel], by simp, by simp⟩
      · exact ⟨[122], by rw [of_z], by simp, by simp⟩
    refine ⟨_, _, rfl, rfl, fewA (by omega) (by omega), ?_⟩
    rw [T_app]
    refine ⟨(by show 2 ≤ sizeLine; decide), fun p2 np2 => ?_⟩
    have hF6 : H6 F = some (.lst (tv Ws)) := hk6 _ _ (same_new np1 _ _ _ hF5) nFa
    have eW2 : [V.str ⟨(W ++ [97]).toArray⟩, V.str ⟨(W ++ m).toArray⟩] = tv [W ++ [97], W ++ m] := rfl
    rw [eW2]
    refine ⟨F, p2, _, _, rfl, rfl, same_new np2 _ _ _ hF6, upd_same, ?_, ?_⟩
    · rw [List.length_map, List.length_map, hWl]
      exact Nat.le_of_lt (sml1000 (show 4 + 2 * i + 2 ≤ 1000 by omega))
    · refine ⟨_, _, _, _, Ws ++ [W ++ [97], W ++ m], rfl, ?_, (hp6.new np2).put nFa, ?_, ?_, ?_⟩
      · exact (((((hk2.trans hk3).trans hk4).trans hk5).new np1).trans hk6).new np2 |>.put nF0
      · rw [upd_same]
        exact congrArg (fun z => some (HO.lst z)) (List.map_append (f := T)).symm
      · intro X hX
        rcases List.mem_append.mp hX with z | z
        · exact hok X z
        · simp only [List.mem_cons, List.not_mem_nil, or_false] at z
          rcases z with rfl | rfl
          · exact okT_snoc okw (by rw [List.length_singleton]; omega) (by simp)
          · exact okT_snoc okw (by omega) hmo
      · rw [List.length_append, hWl]
        show 4 + 2 * i + 2 = _
        omega
  · rintro σ H2 ⟨v3, v4, v5, v6, Ws, rfl, hk2, hp2, hF2, hok, hWl⟩
    refine ⟨_, rfl, F, rfl, ⟨_, SqL.of hF2⟩, fun D nD => ?_⟩
    refine lc_list (K := K) (a := F) (xs := tv Ws) (fun i H' => Same H2 H' ∧ H' D = some (.lst (tv ((Ws.take i).filter fun W : List Nat => decide (W ≠ []))))) ⟨same_new nD _, upd_same⟩ (fun i H' _ ⟨hS', _⟩ => SqL.of (hS' _ _ hF2)) ?_ ?_
    · rintro i x H3 hx ⟨hS3, hD3⟩
      obtain ⟨W, hW, rfl⟩ := tv_at hx
      have hil := (List.getElem?_eq_some_iff.mp hW).1
      have hfl := List.length_filter_le (fun W : List Nat => decide (W ≠ [])) (Ws.take i)
      rw [List.length_take] at hfl
      refine ⟨rfl, _, rfl, rfl, _, rfl, ?_⟩
      rw [filt_snoc hW]
      by_cases c : W = []
      · refine iteNot' (by rw [c, T_nil]) ⟨hS3, ?_⟩
        rw [if_neg (by simpa using c), List.append_nil]
        exact hD3
      · refine iteNot (fun z => c (T_eq.mp (z.trans (by rw [T_nil])))) ⟨_, rfl, _, hD3, ?_, same_upd hS3 nD, ?_⟩
        · rw [List.length_map]
          exact sml1000 (by omega)
        · rw [upd_same, if_pos (decide_eq_true c), tv_snoc]
    rintro H3 ⟨hS3, hD3⟩
    rw [List.length_map, List.take_length] at hD3
    have nD0 : H D = none := by
      cases z : H D with
      | none => rfl
      | some o =>
        by_cases c : D = a
        · obtain ⟨x, y, e, _⟩ := hp2
          rw [← c, nD] at e
          cases e
        · have := hk2 _ _ z c
          rw [nD] at this
          cases this
    refine q H3 D _ nD0 (hk2.trans (Same.kept hS3)) (hp2.same hS3) hD3 fun W hW => ?_
    obtain ⟨h1, h2⟩ := List.mem_filter.mp hW
    exact ⟨hok W h1, of_decide_eq_true h2⟩
end
end My
namespace My
open PySem L2 PyProof.Rows
theorem op_inDK {X : Cx} {K : PySem.W.Frag} (h : X.K = K) (hu : X.A.units + 65 < cLine) : OpR X (compareOp .In) (rInD K) := h ▸ op_inD hu
theorem op_notInDK {X : Cx} {K : PySem.W.Frag} (h : X.K = K) (hu : X.A.units + 65 < cLine) : OpR X (compareOp .NotIn) (rNotInD K) := h ▸ op_notInD hu
def g1234 {α : Type} : List α → List α → List α | [], [a, b, c, d] => [a, b, c, d] | _, _ => []
theorem g1234_inv {α : Type} {us ws : List α} (h : (g1234 us ws).length = 4) : us = [] ∧ ∃ a b c d, ws = [a, b, c, d] := by
  unfold g1234 at h
  split at h
  · exact ⟨rfl, _, _, _, _, rfl⟩
  · simp at h
theorem rel1234 {vs : List V} {us : List Value} {zs : List V} {ws : List Value} (a : Vals vs us) (b : Vals zs ws) : Vals (g1234 vs zs) (g1234 us ws) := by
  cases a with
  | cons h t => exact .nil
  | nil => cases b with
    | nil => exact .nil
    | cons h1 t => cases t with
      | nil => exact .nil
      | cons h2 t => cases t with
        | nil => exact .nil
        | cons h3 t => cases t with
          | nil => exact .nil
          | cons h4 t => cases t with
            | nil => exact .cons h1 (.cons h2 (.cons h3 (.cons h4 .nil)))
            | cons h5 t => exact .nil
end My
/-! list(range(n)) -/
namespace My
open PySem PySem.Spec PyProof.Rows L2
section
variable {X : Cx}
theorem cr_range1 : CallR X (.type "range") (fun vs H Q => ∃ j, vs = [V.int j] ∧ ∀ p, H p = none → Q (.ref p) (upd H p (.rng 0 j))) := by
  intro pins s σ H vs us Q I r h
  obtain ⟨j, rfl, q⟩ := h
  obtain ⟨u1, rfl, ri⟩ := vals1 r
  obtain ⟨t, rfl⟩ := ri
  refine call_range_1 ⟨.ref s.heap.objs.size, upd H s.heap.objs.size (.rng 0 j), I.laid (t' := s.toks + 1 + 1) (fun b o e => Heap.get?_push_of_some _ e) (Nat.le_refl _) ?_, rfl, q _ (I.hok.fresh (Nat.le_refl _))⟩
  exact ⟨s.toks, t, s.toks + 1, Heap.get?_push_size _ rfl⟩
theorem call_listRng (hc : X.calm = true) : CallR X (.type "list") (fun xs H Q => ∃ (p : Addr) (n : Nat), xs = [.ref p] ∧ H p = some (.rng 0 (n : Int)) ∧ n ≤ 1000 ∧ ∀ q, H q = none → Q (.ref q) (upd H q (.lst ((List.range n).map fun i : Nat => V.int (i : Int))))) := by
  intro pins s σ H xs us Q I r h
  obtain ⟨p, n, e, hk, hn, q⟩ := h
  subst e
  obtain ⟨u, eu, rx⟩ := vals1 r
  subst eu
  obtain rfl : u = Value.ref p := rx
  obtain ⟨t1, t2, t3, ho⟩ := (show ObjOk X.prog X.w H s.heap p (.rng 0 (n : Int)) from I.hok p _ hk)
  refine call_list_range (n := n) (I.ok.hd hc) ho (small_one (by omega) (by omega) (by omega) (by omega)) (by rw [rangeSize_one]; split <;> omega) (by omega) fun h' tk items cap hkeep hS hacc => ?_
  refine ⟨.ref s.heap.objs.size, upd H s.heap.objs.size (.lst ((List.range n).map fun i : Nat => V.int (i : Int))), I.laid hkeep (Nat.le_refl _) (show ObjOk X.prog X.w _ _ _ (.lst ((List.range n).map fun i : Nat => V.int (i : Int))) from ⟨?_, items.toList, cap, ?_, ?_⟩), rfl, q _ (I.hok.fresh (Nat.le_refl _))⟩
  · rw [List.length_map, List.length_range]; exact Nat.le_trans hn (by decide)
  · have el : items.toList.length = n := by rw [Array.length_toList]; exact hacc.1
    refine vals_of_at (by rw [List.length_map, List.length_range, el]) fun j x z h1 h2 => ?_
    obtain ⟨t, e⟩ := hacc.2 j z (by rw [← Array.getElem?_toList]; exact h2)
    have hj : j < n := by rw [← el]; exact (List.getElem?_eq_some_iff.mp h2).1
    rw [List.getElem?_map, List.getElem?_range hj] at h1
    cases h1
    exact ⟨t, by rw [e]; simp⟩
  · rw [Array.toArray_toList]; exact hS
end
end My
/-! list(range(i, j)) -/
namespace My
open PySem PySem.Spec PyProof.Rows L2
section
variable {X : Cx}
theorem call_listRng2 (hc : X.calm = true) : CallR X (.type "list") (fun xs H Q => ∃ (p : Addr) (i n : Nat), xs = [.ref p] ∧ H p = some (.rng (i : Int) ((i + n : Nat) : Int)) ∧ i + n ≤ 1000 ∧ ∀ q, H q = none → Q (.ref q) (upd H q (.lst ((List.range n).map fun k : Nat => V.int ((i + k : Nat) : Int))))) := by
  intro pins s σ H xs us Q I r h
  obtain ⟨p, i, n, e, hk, hn, q⟩ := h
  subst e
  obtain ⟨u, eu, rx⟩ := vals1 r
  subst eu
  obtain rfl : u = Value.ref p := rx
  obtain ⟨t1, t2, t3, ho⟩ := (show ObjOk X.prog X.w H s.heap p (.rng (i : Int) ((i + n : Nat) : Int)) from I.hok p _ hk)
  refine call_list_range (n := n) (I.ok.hd hc) ho (small_one (by omega) (by omega) (by omega) (by omega)) (by rw [rangeSize_one]; split <;> omega) (by omega) fun h' tk items cap hkeep hS hacc => ?_
  refine ⟨.ref s.heap.objs.size, upd H s.heap.objs.size (.lst ((List.range n).map fun k : Nat => V.int ((i + k : Nat) : Int))), I.laid hkeep (Nat.le_refl _) (show ObjOk X.prog X.w _ _ _ (.lst ((List.range n).map fun k : Nat => V.int ((i + k : Nat) : Int))) from ⟨?_, items.toList, cap, ?_, ?_⟩), rfl, q _ (I.hok.fresh (Nat.le_refl _))⟩
  · rw [List.length_map, List.length_range]; exact Nat.le_trans (show n ≤ 1000 by omega) (by decide)
  · have el : items.toList.length = n := by rw [Array.length_toList]; exact hacc.1
    refine vals_of_at (by rw [List.length_map, List.length_range, el]) fun j x z h1 h2 => ?_
    obtain ⟨t, e⟩ := hacc.2 j z (by rw [← Array.getElem?_toList]; exact h2)
    have hj : j < n := by rw [← el]; exact (List.getElem?_eq_some_iff.mp h2).1
    rw [List.getElem?_map, List.getElem?_range hj] at h1
    cases h1
    exact ⟨t, by rw [e]; simp⟩
  · rw [Array.toArray_toList]; exact hS
end
end My
set_option maxHeartbeats 4000000
namespace My
open PySem L2 PyProof.Rows
theorem cut_range {n k m : Nat} (h : k ≤ m) (h2 : m ≤ n) : ((List.range n).drop k).take (m - k) = (List.range (m - k)).map fun i => k + i := by
  refine List.ext_getElem? fun i => ?_
  rw [List.getElem?_map]
  by_cases c : i < m - k
  · rw [List.getElem?_take, if_pos c, List.getElem?_drop, List.getElem?_range (by omega), List.getElem?_range c]
    rfl
  · rw [List.getElem?_take, if_neg c, List.getElem?_eq_none (by rw [List.length_range]; omega)]
    rfl
theorem at_list {TS : List (List Nat)} {W : List Nat} {k m : Nat} (h : CutAt TS false W k) (g : CutAt TS true W m) : (List.range (rowsT TS).length).filter (fun j => atW TS W ((rowsT TS).getD j (0, 0))) = (List.range (m - k)).map fun i => k + i := by
  rw [← cut_range (cuts_le h g) g.le]
  refine filt_cut (cuts_le h g) fun i e he => ?_
  have hi : i < (rowsT TS).length := by
    have := (List.getElem?_eq_some_iff.mp he).1
    simpa using this
  rw [List.getElem?_range hi] at he
  cases he
  have e1 := List.getElem?_eq_getElem hi
  rw [show (rowsT TS).getD i (0, 0) = (rowsT TS)[i] by rw [List.getD_eq_getElem?_getD, e1]; rfl]
  exact cuts_at h g e1
theorem filt_range {p : Nat → Bool} (i : Nat) : (List.range (i + 1)).filter p = (List.range i).filter p ++ if p i = true then [i] else [] := by
  rw [List.range_succ, List.filter_append]
  show _ ++ [i].filter p = _
  rw [List.filter_cons]
  rfl
theorem word_at {TS : List (List Nat)} {W : List Nat} {i : Nat} {u : Nat × Nat} (h : (rowsT TS)[i]? = some u) : u ∈ wordP TS W ↔ atW TS W ((rowsT TS).getD i (0, 0)) = true := by
  rw [List.getD_eq_getElem?_getD, h]
  show _ ↔ atW TS W u = true
  unfold wordP
  rw [List.mem_filter]
  exact ⟨fun z => z.2, fun z => ⟨(rowsT_perm TS).mem_iff.mp (List.mem_of_getElem? h), z⟩⟩
theorem atI_back {α : Type} {xs : List α} {v : α} (h : xs[xs.length - 1]? = some v) : atI xs (-1) = some v := by
  have hl := (List.getElem?_eq_some_iff.mp h).1
  unfold atI ixN
  rw [if_neg (by decide), if_pos (by omega)]
  show xs[((-1 : Int) + (xs.length : Int)).toNat]? = some v
  rw [show ((-1 : Int) + (xs.length : Int)).toNat = xs.length - 1 by omega]
  exact h
theorem iv_back {L : List Nat} {b : Nat} (h : L[L.length - 1]? = some b) : atI (iv L) (-1) = some (.int (b : Int)) := by
  refine atI_back ?_
  rw [List.length_map, List.getElem?_map, h]
  rfl
theorem dp_iv {K : PySem.W.Frag} {H : Hp} {p : Addr} {L : List Nat} (h : H p = some (.lst (iv L))) : Dp K H (.ref p) (dz (L.map fun n : Nat => (n : Int))) := dp_iz (by rw [← iv_iz]; exact h)
section
variable {P : Program} {w : World} {K : PySem.W.Frag} {mg : Str → Option Value} {base : Heap} {C : Addr}
def sp_law_word_right (_ : PySem.W.Frag) (C : Addr) : Sp := fun vs H Q _ => ∃ f lt lr l TS W, vs = [.ref f, .ref l, T W] ∧ FinAt C f lt lr TS H ∧ H l = some (.lst (tv TS)) ∧ OkX TS ∧ OkT (tS W) ∧ W ≠ [] ∧ ∀ H', Same H H' → Q (.bl true) H'
theorem ok_law_word_right (D : Def K mg "_law_word_right" s_law_word_right ["_law_finder", "_law_texts", "_law_word"]) (B : Bs mg) (Glb : Glo mg) (WK : WebK K mg C)
    (h_law_places : Good P w K mg base "_law_places" s_law_places ["_law_texts", "_law_word"] 1 (sp_law_places K C))
    (hplain_places : Good P w K mg base "plain_places" splain_places ["texts", "word"] 5 (spplain_places K C))
    (h_law_rows : Good P w K mg base "_law_rows" s_law_rows ["_law_texts"] 1 (sp_law_rows K C))
    (hFinder_stretch_of : GoodM P w K mg base C "stretch_of" "Finder.stretch_of" sFinder_stretch_of ["self", "word"] 7 (spFinder_stretch_of K C))
    (hFinder_places_of : GoodM P w K mg base C "places_of" "Finder.places_of" sFinder_places_of ["self", "word"] 7 (spFinder_places_of K C))
    (hFinder_how_often : GoodM P w K mg base C "how_often" "Finder.how_often" sFinder_how_often ["self", "word"] 7 (spFinder_how_often K C)) :
    Good P w K mg base "_law_word_right" s_law_word_right ["_law_finder", "_law_texts", "_law_word"] 9 (sp_law_word_right K C) := by
  refine D.good fun f fd F => ?_
  obtain ⟨f_law_places, d_law_places, O_law_places, m_law_places, k_law_places, b_law_places, F_law_places⟩ := h_law_places
  obtain ⟨fplain_places, dplain_places, Oplain_places, mplain_places, kplain_places, bplain_places, Fplain_places⟩ := hplain_places
  obtain ⟨f_law_rows, d_law_rows, O_law_rows, m_law_rows, k_law_rows, b_law_rows, F_law_rows⟩ := h_law_rows
  obtain ⟨fFinder_stretch_of, dFinder_stretch_of, OFinder_stretch_of, tFinder_stretch_of, bFinder_stretch_of, FFinder_stretch_of⟩ := hFinder_stretch_of
  obtain ⟨fFinder_places_of, dFinder_places_of, OFinder_places_of, tFinder_places_of, bFinder_places_of, FFinder_places_of⟩ := hFinder_places_of
  obtain ⟨fFinder_how_often, dFinder_how_often, OFinder_how_often, tFinder_how_often, bFinder_how_often, FFinder_how_often⟩ := hFinder_how_often
  have kb_Finder_how_often_word : KBinds K dFinder_how_often ["self", "word"] ["word"] gm1 gm1 := fun_kbinds FFinder_how_often gm1 gm1 relm1 (fun _ _ _ _ _ _ us ws hl => by
    obtain ⟨a0, a1, rfl, rfl⟩ := gm1_inv hl
    rfl)
  refine F.ok sc_law_word_right (fun vs H Q E h => ?_) (fun cdv A outer s H vs Q E hr h => ?_)
  · obtain ⟨f, lt, lr, l, TS, W, rfl, hF, hl, ho, hW, h0, q⟩ := h
    first | rfl | (rcases h with ⟨_, _, rfl, _⟩ | ⟨_, rfl, _⟩ <;> rfl)
  obtain ⟨f, lt, lr, l, TS, W, rfl, hF, hl, ho, hW, h0, q⟩ := h
  refine ⟨_, (pss_cons (ps_set (i := 3) sc_law_word_right.nd rfl (by first | exact Or.inl rfl | exact Or.inr rfl) (pe_call O_law_places (hr.mono (by decide)) rfl m_law_places k_law_places b_law_places .nil pass0 (pa_cons (pv 1) (pa_cons (pv 2) pa_nil))))
  (pss_cons (ps_if (PW.pt (pw_or (pt_cmpR (op_neD hr.units) (pe_meth (pv 0) WK.cl tFinder_places_of OFinder_places_of (hr.mono (by decide)) bFinder_places_of .nil pass0 (pa_cons (pv 2) pa_nil)) (pv 3) (nomark _)) (pw_or (pt_cmpR (op_neD hr.units) (pe_call Oplain_places (hr.mono (by decide)) rfl mplain_places kplain_places bplain_places .nil pass0 (pa_cons (pv 1) (pa_cons (pv 2) pa_nil))) (pv 3) (nomark _)) (pw_or1 (pt_cmpR op_ne (pe_methKK (pv 0) WK.cl tFinder_how_often OFinder_how_often (hr.mono (by decide)) kb_Finder_how_often_word pass0 (pk_cons (pv 2) pk_nil)) (pe_callB call_len_seq (by rfl) B.len (by decide +kernel) (pa_cons (pv 3) pa_nil)) (nomark _))))))
    (pss_one (ps_ret pe_bl)) pss_nil)
  (pss_cons (ps_setLc (i := 4) (own := [("_law_number", 6), ("_law_row", 7)]) (g := gTup K 2 (gCons (gName 6) (gCons (gName 7) gNil))) (by rfl) sc_law_word_right.nd rfl rfl (sw_true rfl rfl rfl (by decide +kernel)) (pi_enum (by rfl) B.enumerate (pa_cons (pe_call O_law_rows (hr.mono (by decide)) rfl m_law_rows k_law_rows b_law_rows .nil pass0 (pa_cons (pv 1) pa_nil)) pa_nil)) (blkOk_by (own := [("_law_number", 6), ("_law_row", 7)]) (N := ["_law_finder", "_law_texts", "_law_word", "_law_due", "_law_at", "_law_stretch", "_law_number", "_law_row"]) (sc := defScope s_law_word_right) (by decide +kernel)) (fun _ _ _ _ _ => (pg_tup rfl (pgs_cons (pg_name (i := 6) sc_law_word_right.nd rfl (by first | exact Or.inl rfl | exact Or.inr rfl)) (pgs_cons (pg_name (i := 7) sc_law_word_right.nd rfl (by first | exact Or.inl rfl | exact Or.inr rfl)) pgs_nil)))) (fun _ _ _ _ _ => (pts_one (pt_cmpR (op_inDK (K := K) rfl (u65 hr)) (pv 7) (pv 3) (by rfl)))) (fun _ _ _ _ _ => (pv 6)))
  (pss_cons (ps_set (i := 5) sc_law_word_right.nd rfl (by first | exact Or.inl rfl | exact Or.inr rfl) (pe_meth (pv 0) WK.cl tFinder_stretch_of OFinder_stretch_of (hr.mono (by decide)) bFinder_stretch_of .nil pass0 (pa_cons (pv 2) pa_nil)))
  (pss_cons (ps_if (pt_cmpR (op_eqD hr.units) (pv 3) (pe_lst pa_nil) (nomark _))
    (pss_one (ps_ret (pe_cmpR op_isN (pv 5) pe_non (nomark _)))) pss_nil)
  (pss_one (ps_ret (pe_and (pe_cmpR (op_eqD hr.units) (pv 5) (pe_tup (pa_cons (pe_ix ix_list (pv 4) pe_int (fun _ _ => rfl)) (pa_cons (pe_op op_add (pe_ix ix_list (pv 4) (pe_un un_neg pe_int) (fun _ _ => rfl)) pe_int) pa_nil))) (nomark _)) (pe_one (pe_cmpR (op_eqD hr.units) (pv 4) (pe_callTy (call_listRng2 rfl) (by rfl) B.list (by decide +kernel) (pa_cons (pe_callTy cr_range2 (by rfl) B.range (by decide +kernel) (pa_cons (pe_ix ix_list (pv 4) pe_int (fun _ _ => rfl)) (pa_cons (pe_op op_add (pe_ix ix_list (pv 4) (pe_un un_neg pe_int) (fun _ _ => rfl)) pe_int) pa_nil))) pa_nil)) (nomark _))))))))))), ?_⟩
  have hWl := hW.len
  rw [T_len] at hWl
  obtain ⟨⟨dx, h1⟩, h2, h3⟩ := id hF
  refine ⟨_, rfl, _, rfl, l, TS, W, rfl, hl, ho, hWl, fun H1 D nD hS1 hD1 => ?_⟩
  have hF1 := hF.same hS1
  refine ⟨_, rfl, f, dx, _, rfl, hS1 _ _ h1, ff_no _ _ (by decide) (by decide), _, rfl, f, lt, lr, TS, W, rfl, hF1, ho, hW, h0, fun H2 p2 hS2 hp2 => ?_⟩
  refine ⟨_, rfl, _, _, dp_t2s hp2, dp_t2s (hD1.same hS2), shaped_t2 _, shaped_t2 _, _, rfl, ?_⟩
  rw [eqv_t2s]
  refine iteNot' rfl ?_
  refine ⟨_, rfl, _, rfl, l, TS, W, rfl, (hS1.trans hS2) _ _ hl, ho, hW, h0, fun H3 p3 np3 hS3 hp3 => ?_⟩
  refine ⟨_, rfl, _, _, dp_t2s hp3, dp_t2s (hD1.same (hS2.trans hS3)), shaped_t2 _, shaped_t2 _, _, rfl, ?_⟩
  rw [eqv_t2s]
  refine iteNot' rfl ?_
  have hS13 := hS1.trans (hS2.trans hS3)
  refine ⟨_, rfl, f, dx, _, rfl, hS13 _ _ h1, ff_no _ _ (by decide) (by decide), _, rfl, f, lt, lr, TS, W, rfl, hF.same hS13, ho, hW, h0, fun H4 hS4 => ?_⟩
  have hD4 := hD1.same (hS2.trans (hS3.trans hS4))
  obtain ⟨das, d1, d2⟩ := id hD4
  have dl := paired_len d2
  refine ⟨_, rfl, D, _, rfl, .inl (SqL.of d1), rfl, _, rfl, iteNot' (by rw [List.length_map, dl]) ?_⟩
  have hS14 := hS13.trans hS4
  refine ⟨_, rfl, l, TS, rfl, hS14 _ _ hl, ho, fun H5 R nR hS5 hR => ?_⟩
  obtain ⟨ras, r1, r2⟩ := id hR
  have rl := paired_len r2
  have hrl := rowsT_len ho
  have hD5 := hD4.same hS5
  refine ⟨R, _, rfl, SqL.of r1, fun E1 nE1 => ?_⟩
  refine lc_it (walk_enum (K := K) (a := R) (xs := ras.map V.ref)) (fun i H' => Same H5 H' ∧ H' E1 = some (.lst (iv ((List.range i).filter fun j => atW TS W ((rowsT TS).getD j (0, 0)))))) ⟨same_new nE1 _, upd_same⟩ (fun i H' _ ⟨hS', _⟩ => SqL.of (hS' _ _ r1)) ?_ ?_
  · rintro i x H6 H7 hi ⟨hS6, hE6⟩ ⟨TP, c1, c2, rfl, nTP, rfl, e1, e2⟩
    replace e1 : some (V.int (i : Int)) = some c1 := e1
    cases e1
    replace e2 : (ras.map V.ref)[i]? = some c2 := e2
    obtain ⟨px, u, rfl, _, hu, hpx⟩ := paired_at r2 e2
    have hT3 : upd H6 TP (.tup [V.int (i : Int), .ref px]) TP = some (.tup [V.int (i : Int), .ref px]) := upd_same
    have hS7 := hS6.trans (same_new nTP (.tup [V.int (i : Int), .ref px]))
    have hE7 : upd H6 TP (.tup [V.int (i : Int), .ref px]) E1 = _ := same_new nTP _ _ _ hE6
    generalize upd H6 TP (.tup [V.int (i : Int), .ref px]) = H7 at hT3 hS7 hE7
    have hfl := List.length_filter_le (fun j => atW TS W ((rowsT TS).getD j (0, 0))) (List.range i)
    rw [List.length_range] at hfl
    have hil := (List.getElem?_eq_some_iff.mp hu).1
    refine ⟨TP, _, rfl, SqT.of hT3, rfl, _, _, rfl, _, _, rfl, rfl, rfl, ?_⟩
    refine ⟨_, rfl, _, rfl, _, _, dp_t2 (hS7 _ _ hpx), dp_t2s (hD5.same hS7), shaped_e2 _, shaped_t2 _, _, rfl, ?_⟩
    rw [any_enc2, filt_range]
    by_cases c : u ∈ wordP TS W
    · refine iteYes c ⟨_, rfl, _, hE7, ?_, same_upd hS7 nE1, ?_⟩
      · rw [List.length_map]
        exact sml1000 (by omega)
      · rw [upd_same, if_pos ((word_at hu).mp c), iv_app]
    · refine iteNo c ⟨hS7, ?_⟩
      rw [if_neg (fun z => c ((word_at hu).mpr z)), List.append_nil]
      exact hE7
  rintro H6 ⟨hS6, hE6⟩
  rw [List.length_map, rl] at hE6
  have hS16 := hS14.trans (hS5.trans hS6)
  have nE0 : H5 E1 = none := nE1
  refine ⟨_, rfl, f, dx, _, rfl, hS16 _ _ h1, ff_no _ _ (by decide) (by decide), _, rfl, f, lt, lr, TS, W, rfl, hF.same hS16, ho, hW, h0, fun k m H7 hk hm hS7 => ?_⟩
  have hlen := len_cut hk hm
  have hkm := cuts_le hk hm
  have hml := hm.le
  rw [at_list hk hm] at hE6
  have hD7 := hD5.same (hS6.trans hS7)
  have hE7 := hS7 _ _ hE6
  have hS17 := hS16.trans hS7
  refine ⟨fun c p hp => ?_, fun c => ?_⟩
  · refine ⟨_, rfl, Nat.zero_le _, fun p0 np0 => ?_⟩
    have hS8 := hS17.trans (same_new np0 (.lst []))
    have hE8 := same_new np0 (.lst []) _ _ hE7
    have hp8 := same_new np0 (.lst []) _ _ hp
    refine ⟨_, _, dp_t2s (hD7.same (same_new np0 _)), dp_iz (L := []) upd_same, shaped_t2 _, shaped_iz [], _, rfl, ?_⟩
    rw [eqv_t2nil]
    generalize upd H7 p0 (.lst []) = H8 at hS8 hE8 hp8
    refine iteNo (fun z => by rw [z] at hlen; simp at hlen; omega) ?_
    have a0 : ((List.range (m - k)).map fun i => k + i)[0]? = some k := by
      rw [List.getElem?_map, List.getElem?_range (by omega)]
      rfl
    have a1 : ((List.range (m - k)).map fun i => k + i)[((List.range (m - k)).map fun i => k + i).length - 1]? = some (m - 1) := by
      rw [List.length_map, List.length_range, List.getElem?_map, List.getElem?_range (by omega)]
      show some (k + (m - k - 1)) = _
      congr 1
      omega
    refine ⟨_, rfl, _, rfl, _, _, _, .int (k : Int), rfl, rfl, SqL.of hE8, iv_at a0, _, rfl, _, rfl, _, _, _, .int ((m - 1 : Nat) : Int), rfl, rfl, SqL.of hE8, iv_back a1, _, _, rfl, rfl, ?_⟩
    have em : ((m - 1 : Nat) : Int) + 1 = ((m : Nat) : Int) := by omega
    refine ⟨(by show 2 ≤ sizeLine; decide), fun tp ntp => ?_⟩
    have hS9 := hS8.trans (same_new ntp (.tup [V.int (k : Int), V.int (((m - 1 : Nat) : Int) + 1)]))
    have hE9 := same_new ntp (.tup [V.int (k : Int), V.int (((m - 1 : Nat) : Int) + 1)]) _ _ hE8
    have hp9 := same_new ntp (.tup [V.int (k : Int), V.int (((m - 1 : Nat) : Int) + 1)]) _ _ hp8
    have htp : upd H8 tp (.tup [V.int (k : Int), V.int (((m - 1 : Nat) : Int) + 1)]) tp = some (.tup [V.int (k : Int), V.int (m : Int)]) := by rw [upd_same, em]
    refine ⟨_, _, dp_t2 (e := (k, m)) hp9, dp_t2 (e := (k, m)) htp, shaped_e2 _, shaped_e2 _, ?_⟩
    change ∃ c, _ = V.bl c ∧ _
    refine ⟨_, rfl, ?_⟩
    rw [eqv_enc2]
    refine iteYes rfl ?_
    generalize upd H8 tp (.tup [V.int (k : Int), V.int (((m - 1 : Nat) : Int) + 1)]) = H9 at hS9 hE9
    refine ⟨_, rfl, _, rfl, _, _, _, .int (k : Int), rfl, rfl, SqL.of hE9, iv_at a0, _, rfl, _, rfl, _, _, _, .int ((m - 1 : Nat) : Int), rfl, rfl, SqL.of hE9, iv_back a1, _, _, rfl, rfl, _, _, rfl, fun rp nrp => ?_⟩
    refine ⟨rp, k, m - k, rfl, by rw [upd_same]; exact congrArg (fun z : Int => some (HO.rng (k : Int) z)) (by omega), by omega, fun lp nlp => ?_⟩
    have hS10 := hS9.trans ((same_new nrp (.rng (k : Int) (((m - 1 : Nat) : Int) + 1))).trans (same_new nlp (.lst ((List.range (m - k)).map fun j : Nat => V.int ((k + j : Nat) : Int)))))
    have hE10 := ((same_new nrp (.rng (k : Int) (((m - 1 : Nat) : Int) + 1))).trans (same_new nlp (.lst ((List.range (m - k)).map fun j : Nat => V.int ((k + j : Nat) : Int))))) _ _ hE9
    refine ⟨_, _, dp_iv hE10, dp_iv (L := (List.range (m - k)).map fun i => k + i) (by rw [upd_same]; show _ = some (HO.lst (((List.range (m - k)).map fun i => k + i).map fun n : Nat => V.int (n : Int))); rw [List.map_map]; rfl), shaped_iz _, shaped_iz _, ?_⟩
    rw [eqv_same]
    exact q _ hS10
  · refine ⟨_, rfl, Nat.zero_le _, fun p0 np0 => ?_⟩
    have hS8 := hS17.trans (same_new np0 (.lst []))
    refine ⟨_, _, dp_t2s (hD7.same (same_new np0 _)), dp_iz (L := []) upd_same, shaped_t2 _, shaped_iz [], _, rfl, ?_⟩
    rw [eqv_t2nil]
    refine iteYes (List.length_eq_zero_iff.mp (by omega)) ?_
    exact ⟨_, rfl, rfl, q _ hS8⟩
end
end My
set_option maxHeartbeats 8000000
namespace My
open PySem L2 PyProof.Rows
theorem range_getD (TS : List (List Nat)) : (List.range TS.length).map (fun n => TS.getD n []) = TS := by
  refine List.ext_getElem? fun i => ?_
  rw [List.getElem?_map]
  by_cases c : i < TS.length
  · rw [List.getElem?_range c, List.getElem?_eq_getElem c]
    show some (TS.getD i []) = _
    rw [List.getD_eq_getElem?_getD, List.getElem?_eq_getElem c]
    rfl
  · rw [List.getElem?_eq_none (by rw [List.length_range]; omega), List.getElem?_eq_none (by omega)]
    rfl
theorem sb_flat (TS : List (List Nat)) : sbN TS TS.length = TS.flatMap fun t => sbP t t.length := by
  conv => rhs; rw [← range_getD TS]
  rw [List.flatMap_map]
  rfl
theorem occ_rev (TS : List (List Nat)) {y : List Nat} (h0 : y ≠ []) : (wordP TS.reverse y).length = (wordP TS y).length := by
  have h1 : ∀ T' : List (List Nat), (wordP T' y).length = (sbN T' T'.length).count y := fun T' => (sbN_count h0 T' T'.length).symm
  rw [h1, h1, sb_flat, sb_flat]
  exact ((List.reverse_perm TS).flatMap_right _).count_eq y
theorem Again.rev {TS : List (List Nat)} {x : List Nat} (h : Again TS.reverse x) : Again TS x := by
  refine ⟨?_, fun y hy k => h.most y hy (by rw [occ_rev TS hy]; exact k)⟩
  by_cases c : x = []
  · exact .inl c
  · right
    rw [← occ_rev TS c]
    exact h.two.resolve_left c
theorem OkS.rev {TS : List (List Nat)} (h : OkS TS) : OkS TS.reverse := ⟨by rw [List.length_reverse]; exact h.n1, by rw [List.length_reverse]; exact h.n2, fun t ht => h.tx t (List.mem_reverse.mp ht)⟩
theorem llt_zero {TS : List (List Nat)} {e : Nat × Nat} (h : ¬ 0 < e.2) : llt TS e = [] := by
  have : e.2 = 0 := by omega
  unfold llt
  rw [this]
  rfl
theorem llt_pos {TS : List (List Nat)} {e : Nat × Nat} (h : 0 < e.2) (hl : e.2 < (TS.getD e.1 []).length) : ∃ c, (TS.getD e.1 [])[e.2 - 1]? = some c ∧ llt TS e = [c] := by
  refine ⟨_, List.getElem?_eq_getElem (by omega), ?_⟩
  unfold llt
  have hlen : ((TS.getD e.1 []).take e.2).length = e.2 := by rw [List.length_take]; omega
  rw [hlen]
  refine List.ext_getElem? fun i => ?_
  rw [List.getElem?_drop, List.getElem?_take]
  cases i with
  | zero =>
    rw [if_pos (by omega), Nat.add_zero, List.getElem?_eq_getElem (by omega)]
    rfl
  | succ i =>
    rw [if_neg (by omega)]
    rfl
theorem okT_llt {TS : List (List Nat)} (h : OkX TS) {i : Nat} {e : Nat × Nat} (he : (rowsT TS)[i]? = some e) : OkT (tS (llt TS e)) := by
  obtain ⟨m1, m2⟩ := rowsT_mem he
  have ht := h.tx _ (show TS.getD e.1 [] ∈ TS by rw [List.getD_eq_getElem?_getD, List.getElem?_eq_getElem m1]; exact List.getElem_mem _)
  refine ⟨?_, fun c hc => ht.let_ c ?_⟩
  · have := ht.len
    rw [T_len] at this ⊢
    unfold llt
    rw [List.length_drop, List.length_take]
    omega
  · have hc : c ∈ llt TS e := by simpa using hc
    have := List.mem_of_mem_take (List.mem_of_mem_drop hc)
    simpa using this
theorem made_same {H H' : Hp} {f dx : Addr} {o o' : HO} (h : Kept f (upd (upd H dx o) f o') H') (nf : H f = none) (nd : H dx = none) : Same H H' := fun b u e => by
  have n1 := ne_of_none e nf
  have n2 := ne_of_none e nd
  exact h b u (by rw [upd_ne n1, upd_ne n2]; exact e) n1
section
variable {P : Program} {w : World} {K : PySem.W.Frag} {mg : Str → Option Value} {base : Heap} {C : Addr}
def splaw (K : PySem.W.Frag) (_ : Addr) : Sp := fun vs H Q _ => ∃ a, ∃ ns : List Int, vs = [.ref a] ∧ SqL K H a (ns.map V.int) ∧ ns.length ≤ 63 ∧ ∀ H', Q (.bl true) H'
theorem oklaw (D : Def K mg "law" slaw ["_law_script"]) (B : Bs mg) (Glb : Glo mg) (WK : WebK K mg C)
    (h_law_pot : Good P w K mg base "_law_pot" s_law_pot ["_law_script", "_law_k"] 1 (sp_law_pot K C))
    (h_law_words : Good P w K mg base "_law_words" s_law_words ["_law_pot_here", "_law_texts"] 4 (sp_law_words K C))
    (h_law_draw : Good P w K mg base "_law_draw" s_law_draw ["_law_pot_here", "_law_size"] 1 (sp_law_draw K C))
    (h_law_rows : Good P w K mg base "_law_rows" s_law_rows ["_law_texts"] 1 (sp_law_rows K C))
    (h_law_text : Good P w K mg base "_law_text" s_law_text ["_law_pot_here", "_law_most"] 3 (sp_law_text K C))
    (h_law_again : Good P w K mg base "_law_again" s_law_again ["_law_texts"] 1 (sp_law_again K C))
    (h_law_word_right : Good P w K mg base "_law_word_right" s_law_word_right ["_law_finder", "_law_texts", "_law_word"] 9 (sp_law_word_right K C))
    (hFinder___eq__ : GoodM P w K mg base C "__eq__" "Finder.__eq__" sFinder___eq__ ["self", "other"] 1 (spFinder___eq__ K C))
    (hFinder___init__ : GoodJ P w K mg base C "__init__" "Finder.__init__" sFinder___init__ ["self", "texts"] 4 (spFinder___init__ K C))
    (hFinder_last_letters : GoodM P w K mg base C "last_letters" "Finder.last_letters" sFinder_last_letters ["self"] 1 (spFinder_last_letters K C))
    (hFinder_rows : GoodM P w K mg base C "rows" "Finder.rows" sFinder_rows ["self"] 1 (spFinder_rows K C))
    (hFinder_texts : GoodM P w K mg base C "texts" "Finder.texts" sFinder_texts ["self"] 1 (spFinder_texts K C))
    (hFinder_longest_again : GoodM P w K mg base C "longest_again" "Finder.longest_again" sFinder_longest_again ["self"] 3 (spFinder_longest_again K C)) :
    Good P w K mg base "law" slaw ["_law_script"] 10 (splaw K C) := by
  refine D.good fun f fd F => ?_
  obtain ⟨f_law_pot, d_law_pot, O_law_pot, m_law_pot, k_law_pot, b_law_pot, F_law_pot⟩ := h_law_pot
  obtain ⟨f_law_words, d_law_words, O_law_words, m_law_words, k_law_words, b_law_words, F_law_words⟩ := h_law_words
  obtain ⟨f_law_draw, d_law_draw, O_law_draw, m_law_draw, k_law_draw, b_law_draw, F_law_draw⟩ := h_law_draw
  obtain ⟨f_law_rows, d_law_rows, O_law_rows, m_law_rows, k_law_rows, b_law_rows, F_law_rows⟩ := h_law_rows
  obtain ⟨f_law_text, d_law_text, O_law_text, m_law_text, k_law_text, b_law_text, F_law_text⟩ := h_law_text
  obtain ⟨f_law_again, d_law_again, O_law_again, m_law_again, k_law_again, b_law_again, F_law_again⟩ := h_law_again
  obtain ⟨f_law_word_right, d_law_word_right, O_law_word_right, m_law_word_right, k_law_word_right, b_law_word_right, F_law_word_right⟩ := h_law_word_right
  obtain ⟨fFinder___eq__, dFinder___eq__, OFinder___eq__, tFinder___eq__, bFinder___eq__, FFinder___eq__⟩ := hFinder___eq__
  obtain ⟨fFinder___init__, dFinder___init__, OFinder___init__, MK, bFinder___init__, FFinder___init__⟩ := hFinder___init__
  obtain ⟨fFinder_last_letters, dFinder_last_letters, OFinder_last_letters, tFinder_last_letters, bFinder_last_letters, FFinder_last_letters⟩ := hFinder_last_letters
  obtain ⟨fFinder_rows, dFinder_rows, OFinder_rows, tFinder_rows, bFinder_rows, FFinder_rows⟩ := hFinder_rows
  obtain ⟨fFinder_texts, dFinder_texts, OFinder_texts, tFinder_texts, bFinder_texts, FFinder_texts⟩ := hFinder_texts
  obtain ⟨fFinder_longest_again, dFinder_longest_again, OFinder_longest_again, tFinder_longest_again, bFinder_longest_again, FFinder_longest_again⟩ := hFinder_longest_again
  have kn_Finder_texts : KBn K dFinder___init__ ["self", "texts"] 1 ["texts"] gm1 gm1 := fun_kbn1 FFinder___init__ (fun _ _ _ _ _ _ _ _ => rfl)
  refine F.ok sclaw (fun vs H Q E h => ?_) (fun cdv A outer s H vs Q E hr h => ?_)
  · obtain ⟨sa, ns, rfl, hS, h63, q⟩ := h
    first | rfl | (rcases h with ⟨_, _, rfl, _⟩ | ⟨_, rfl, _⟩ <;> rfl)
  obtain ⟨sa, ns, rfl, hS, h63, q⟩ := h
  refine ⟨_, (pss_cons (ps_set (i := 1) sclaw.nd rfl (by first | exact Or.inl rfl | exact Or.inr rfl) (pe_call O_law_pot (hr.mono (by decide)) rfl m_law_pot k_law_pot b_law_pot .nil pass0 (pa_cons (pv 0) (pa_cons pe_int pa_nil))))
  (pss_cons (ps_set (i := 2) sclaw.nd rfl (by first | exact Or.inl rfl | exact Or.inr rfl) (pe_lst pa_nil))
  (pss_cons (ps_for PassesOwn.never rfl (pi_range1 (by rfl) B.range (pa_cons (pe_op op_add pe_int (pe_call O_law_draw (hr.mono (by decide)) rfl m_law_draw k_law_draw b_law_draw .nil pass0 (pa_cons (pv 1) (pa_cons pe_int pa_nil)))) pa_nil)) (pg_name (i := 3) sclaw.nd rfl (by first | exact Or.inl rfl | exact Or.inr rfl))
    (pss_one (ps_expr (pe_bm PySem.F.plainAttrs_list PySem.F.slot_list_append PySem.F.type_list_append mt_append (pv 2) (pa_cons (pe_call O_law_text (hr.mono (by decide)) rfl m_law_text k_law_text b_law_text .nil pass0 (pa_cons (pv 1) (pa_cons pe_int pa_nil))) pa_nil)))))
  (pss_cons (ps_if (pt_cmpR op_eq (pe_call O_law_draw (hr.mono (by decide)) rfl m_law_draw k_law_draw b_law_draw .nil pass0 (pa_cons (pv 1) (pa_cons pe_int pa_nil))) pe_int (nomark _))
    (pss_one (ps_expr (pe_bm PySem.F.plainAttrs_list PySem.F.slot_list_append PySem.F.type_list_append mt_append (pv 2) (pa_cons (pe_ix ix_list (pv 2) pe_int (fun _ _ => rfl)) pa_nil)))) pss_nil)
  (pss_cons (ps_par (i := 4) (j := 5) (by rfl) sclaw.nd rfl rfl (by decide) rfl rfl (pa_cons (pe_make MK OFinder___init__ (hr.mono (by decide)) rfl WK.mgC bFinder___init__ .nil pass0 (pa_cons (pv 2) pa_nil)) (pa_cons (pe_call O_law_rows (hr.mono (by decide)) rfl m_law_rows k_law_rows b_law_rows .nil pass0 (pa_cons (pv 2) pa_nil)) pa_nil)) (by rfl))
  (pss_cons (ps_if (PW.pt (pw_or (pt_cmpR (op_neD hr.units) (pe_meth0 (pv 4) WK.cl tFinder_rows OFinder_rows (hr.mono (by decide)) bFinder_rows .nil pass0) (pv 5) (nomark _)) (pw_or (pt_cmpR (op_neD hr.units) (pe_meth0 (pv 4) WK.cl tFinder_texts OFinder_texts (hr.mono (by decide)) bFinder_texts .nil pass0) (pv 2) (nomark _)) (pw_or1 (pt_cmpR op_ne (pe_meth0 (pv 4) WK.cl tFinder_longest_again OFinder_longest_again (hr.mono (by decide)) bFinder_longest_again .nil pass0) (pe_call O_law_again (hr.mono (by decide)) rfl m_law_again k_law_again b_law_again .nil pass0 (pa_cons (pv 2) pa_nil)) (nomark _))))))
    (pss_one (ps_ret pe_bl)) pss_nil)
  (pss_cons (ps_setLc (i := 6) (own := [("_law_number", 9), ("_law_place", 10)]) (g := gTup K 2 (gCons (gName 9) (gCons (gName 10) gNil))) (by rfl) sclaw.nd rfl rfl (sw_true rfl rfl rfl (by decide +kernel)) (pi_list (pv 5)) (blkOk_by (own := [("_law_number", 9), ("_law_place", 10)]) (N := ["_law_script", "_law_pot_here", "_law_texts", "_law_turn", "_law_finder", "_law_rows_here", "_law_due", "_law_word", "_law_other", "_law_number", "_law_place"]) (sc := defScope slaw) (by decide +kernel)) (fun _ _ _ _ _ => (pg_tup rfl (pgs_cons (pg_name (i := 9) sclaw.nd rfl (by first | exact Or.inl rfl | exact Or.inr rfl)) (pgs_cons (pg_name (i := 10) sclaw.nd rfl (by first | exact Or.inl rfl | exact Or.inr rfl)) pgs_nil)))) (fun _ _ _ _ _ => pts_nil) (fun _ _ _ _ _ => (pe_ifExp (pt_cmpR op_gt (pv 10) pe_int (nomark _)) (pe_ix ix_str (pe_ix (ix_listK (K := K) rfl) (pv 2) (pv 9) (by exact fun _ _ => rfl)) (pe_op op_sub (pv 10) pe_int) (by exact fun _ _ => rfl)) pe_str)))
  (pss_cons (ps_if (pt_cmpR (op_neD hr.units) (pe_meth0 (pv 4) WK.cl tFinder_last_letters OFinder_last_letters (hr.mono (by decide)) bFinder_last_letters .nil pass0) (pv 6) (nomark _))
    (pss_one (ps_ret pe_bl)) pss_nil)
  (pss_cons (ps_for PassesOwn.never rfl (pi_list (pe_call O_law_words (hr.mono (by decide)) rfl m_law_words k_law_words b_law_words .nil pass0 (pa_cons (pv 1) (pa_cons (pv 2) pa_nil)))) (pg_name (i := 7) sclaw.nd rfl (by first | exact Or.inl rfl | exact Or.inr rfl))
    (pss_one (ps_if (pt_not (pt_val (pe_call O_law_word_right hr rfl m_law_word_right k_law_word_right b_law_word_right .nil pass0 (pa_cons (pv 4) (pa_cons (pv 2) (pa_cons (pv 7) pa_nil))))))
    (pss_one (ps_ret pe_bl)) pss_nil)))
  (pss_cons (ps_expr (pe_bm PySem.F.plainAttrs_list PySem.F.slot_list_append PySem.F.type_list_append mt_append (pe_meth0 (pv 4) WK.cl tFinder_rows OFinder_rows (hr.mono (by decide)) bFinder_rows .nil pass0) (pa_cons pe_non pa_nil)))
  (pss_cons (ps_expr (pe_bm PySem.F.plainAttrs_list PySem.F.slot_list_append PySem.F.type_list_append mt_append (pe_meth0 (pv 4) WK.cl tFinder_texts OFinder_texts (hr.mono (by decide)) bFinder_texts .nil pass0) (pa_cons pe_non pa_nil)))
  (pss_cons (ps_expr (pe_bm PySem.F.plainAttrs_list PySem.F.slot_list_append PySem.F.type_list_append mt_append (pe_meth0 (pv 4) WK.cl tFinder_last_letters OFinder_last_letters (hr.mono (by decide)) bFinder_last_letters .nil pass0) (pa_cons pe_non pa_nil)))
  (pss_cons (ps_set (i := 8) sclaw.nd rfl (by first | exact Or.inl rfl | exact Or.inr rfl) (pe_makeK0 MK OFinder___init__ (hr.mono (by decide)) rfl WK.mgC kn_Finder_texts pass0 (pk_cons (pe_revL (pv 2)) pk_nil)))
  (pss_cons (ps_if (PW.pt (pw_or (pt_cmpR op_ne (pe_cmpR (op_eqOwn OFinder___eq__ (hr.mono (by decide)) tFinder___eq__.at_ tFinder___eq__.fn bFinder___eq__ pass0) (pv 8) (pv 4) (nomark _)) (pe_cmpR (op_eqD hr.units) (pe_revL (pv 2)) (pv 2) (nomark _)) (nomark _)) (pw_or (pt_cmpR (op_eqLst OFinder___eq__ (hr.mono (by decide)) tFinder___eq__.at_ tFinder___eq__.fn WK.nl bFinder___eq__ pass0) (pv 4) (pv 2) (nomark _)) (pw_or1 (pt_cmpR op_ne (pe_meth0 (pv 8) WK.cl tFinder_longest_again OFinder_longest_again (hr.mono (by decide)) bFinder_longest_again .nil pass0) (pe_call O_law_again (hr.mono (by decide)) rfl m_law_again k_law_again b_law_again .nil pass0 (pa_cons (pv 2) pa_nil)) (nomark _))))))
    (pss_one (ps_ret pe_bl)) pss_nil)
  (pss_one (ps_ret (pe_and (pe_cmpR (op_eqD hr.units) (pe_meth0 (pv 4) WK.cl tFinder_rows OFinder_rows (hr.mono (by decide)) bFinder_rows .nil pass0) (pv 5) (nomark _)) (pe_one (pe_cmpR (op_eqOwn OFinder___eq__ (hr.mono (by decide)) tFinder___eq__.at_ tFinder___eq__.fn bFinder___eq__ pass0) (pe_make MK OFinder___init__ (hr.mono (by decide)) rfl WK.mgC bFinder___init__ .nil pass0 (pa_cons (pe_callTy call_tuple_of (by rfl) B.tuple (by decide +kernel) (pa_cons (pv 2) pa_nil)) pa_nil)) (pv 4) (nomark _)))))))))))))))))))), ?_⟩
  refine ⟨_, rfl, sa, ns, rfl, hS, fun a H1 hp1 hS1 np1 => ?_⟩
  refine ⟨Nat.zero_le _, fun l nl => ?_⟩
  have nla : l ≠ a := hp1.ne nl
  have hp1' := hp1.new (o := .lst []) nl
  have hl1 : upd H1 l (.lst []) l = some (.lst (tv [])) := upd_same
  generalize upd H1 l (.lst []) = H2 at hp1' hl1
  refine ⟨_, rfl, a, 4, rfl, hp1', by omega, by omega, fun d H3 hd hk3 hp3 => ?_⟩
  refine ⟨_, _, rfl, rfl, _, rfl, by omega, by omega, ?_⟩
  rw [show ((1 : Int) + (d : Int)).toNat = 1 + d by omega]
  refine for_range (lo := 0) (n := 1 + d) (fun i σ H' => ∃ (v3 : Option V) (TS : List (List Nat)), σ = [some (.ref sa), some (.ref a), some (.ref l), v3, none, none, none, none, none, none, none] ∧ PotAt H' a ∧ H' l = some (.lst (tv TS)) ∧ TS.length = i ∧ ∀ t ∈ TS, OkT (tS t) ∧ t.length ≤ 8) ⟨none, [], rfl, hp3, hk3 _ _ hl1 nla, rfl, fun t h => nomatch h⟩ ?_ ?_
  · rintro i σ H4 hi ⟨v3, TS, rfl, hp4, hl4, hn, hok⟩
    refine ⟨_, rfl, .inl ⟨rfl, _, SqL.of hl4⟩, _, rfl, a, 8, rfl, hp4, by omega, fun x H5 hx hxl hk5 hp5 => ?_⟩
    refine ⟨l, _, _, rfl, rfl, hk5 _ _ hl4 nla, ?_, ?_⟩
    · rw [List.length_map]
      exact sml1000 (by omega)
    · refine ⟨_, TS ++ [x.cps.toList], rfl, hp5.put nla, ?_, by rw [List.length_append, hn]; rfl, fun t ht => ?_⟩
      · rw [upd_same, tv_snoc]
      · rcases List.mem_append.mp ht with z | z
        · exact hok t z
        · rw [List.mem_singleton.mp z]
          refine ⟨hx.ok, ?_⟩
          have : x.length = x.cps.toList.length := by show x.cps.size = _; simp
          omega
  rintro σ H4 ⟨v3, TS, rfl, hp4, hl4, hn, hok⟩
  refine ⟨_, rfl, a, 3, rfl, hp4, by omega, by omega, fun d2 H5 hd2 hk5 hp5 => ?_⟩
  have hl5 := hk5 _ _ hl4 nla
  refine ⟨rfl, _, rfl, ?_⟩
  have h0 : ∃ t0, TS[0]? = some t0 := ⟨_, List.getElem?_eq_getElem (by omega)⟩
  obtain ⟨t0, ht0⟩ := h0
  refine ite2 (fun c => ?pos) (fun c => ?neg)
  case' pos =>
    refine ⟨_, rfl, .inl ⟨rfl, _, SqL.of hl5⟩, _, rfl, _, _, _, T t0, rfl, rfl, SqL.of hl5, atI_nat (j := 0) (by rw [List.getElem?_map, ht0]; rfl), ?_⟩
    refine ⟨l, _, _, rfl, rfl, hl5, by rw [List.length_map]; exact sml1000 (by omega), ?_⟩
    have hl6 : upd H5 l (.lst (tv TS ++ [T t0])) l = some (.lst (tv (TS ++ [t0]))) := by rw [upd_same, tv_snoc]
    have hp6 := hp5.put (o := .lst (tv TS ++ [T t0])) nla
    have okS : OkS (TS ++ [t0]) := ⟨by rw [List.length_append]; omega, by rw [List.length_append, List.length_singleton]; omega, fun t ht => (List.mem_append.mp ht).elim (hok t) fun z => by rw [List.mem_singleton.mp z]; exact hok t0 (List.mem_of_getElem? ht0)⟩
    generalize upd H5 l (.lst (tv TS ++ [T t0])) = H6 at hl6 hp6
    generalize TS ++ [t0] = TS2 at hl6 okS
  case' neg =>
    have hl6 := hl5
    have hp6 := hp5
    have okS : OkS TS := ⟨by omega, by omega, hok⟩
    generalize H5 = H6 at hl6 hp6 ⊢
    generalize TS = TS2 at hl6 okS
  all_goals
    have ok := okS.ok
    refine ⟨_, rfl, fun f dx nf ndx nfx => ?_⟩
    refine ⟨f, dx, l, TS2, rfl, .inl (by rw [upd_ne (ne_of_none hl6 nf), upd_ne (ne_of_none hl6 ndx)]; exact hl6), ok, upd_same, fun H7 lt lr nlt nlr hk7 hF7 => ⟨rfl, ?_⟩⟩
    have hS7 := made_same hk7 nf ndx
    have nlta : lt ≠ a := fun z => by
      have h1 := (hp6.new (o := .own f) ndx).new (o := .ins C dx []) (by rw [upd_ne nfx.symm]; exact nf)
      exact h1.ne nlt z
    have nlra : lr ≠ a := fun z => by
      have h1 := (hp6.new (o := .own f) ndx).new (o := .ins C dx []) (by rw [upd_ne nfx.symm]; exact nf)
      exact h1.ne nlr z
    have hl7 := hS7 _ _ hl6
    have hp7 := hp6.same hS7
    clear hk7
    refine ⟨_, rfl, l, TS2, rfl, hl7, ok, fun H8 rh nrh hS8 hrh8 => ?_⟩
    refine ⟨_, _, rfl, ?_⟩
    have nrha : rh ≠ a := hp7.ne nrh
    have hF8 := hF7.same hS8
    have hl8 := hS8 _ _ hl7
    have hp8 := hp7.same hS8
    obtain ⟨⟨dy, hf8⟩, _, _⟩ := id hF8
    -- rows, texts, the longest
    refine ⟨_, rfl, f, dy, _, rfl, hf8, ff_no _ _ (by decide) (by decide), f, lt, lr, TS2, rfl, hF8, fun H9 p9 np9 hS9 hp9 => ?_⟩
    refine ⟨_, rfl, _, _, dp_t2s hp9, dp_t2s (hrh8.same hS9), shaped_t2 _, shaped_t2 _, _, rfl, ?_⟩
    rw [eqv_t2s]
    refine iteNot' rfl ?_
    refine ⟨_, rfl, f, dy, _, rfl, hS9 _ _ hf8, ff_no _ _ (by decide) (by decide), f, lt, lr, TS2, rfl, hF8.same hS9, fun H10 p10 np10 hS10 hp10 => ?_⟩
    refine ⟨_, rfl, _, _, dp_tv hp10, dp_tv ((hS9.trans hS10) _ _ hl8), shaped_tv ok.tx, shaped_tv ok.tx, _, rfl, ?_⟩
    rw [eqvAll_tv]
    refine iteNot' rfl ?_
    have hSa := hS9.trans hS10
    refine ⟨_, rfl, f, dy, _, rfl, hSa _ _ hf8, ff_no _ _ (by decide) (by decide), f, lt, lr, TS2, rfl, hF8.same hSa, ok, fun x hx => ?_⟩
    refine ⟨_, rfl, l, TS2, rfl, hSa _ _ hl8, okS, fun H11 y hS11 hy => ?_⟩
    refine ⟨rfl, _, rfl, iteNot' (by rw [hx.one hy]) ?_⟩
    have hSb := hSa.trans hS11
    have hF11 := hF8.same hSb
    have hl11 := hSb _ _ hl8
    have hp11 := hp8.same hSb
    have hrh11 := hrh8.same hSb
    have hrl := rowsT_len ok
    obtain ⟨ras, r1, r2⟩ := id hrh11
    have rl := paired_len r2
    -- the letters ahead
    refine ⟨_, rfl, rh, rfl, ⟨_, SqL.of r1⟩, fun D nD => ?_⟩
    refine lc_list (K := K) (a := rh) (xs := ras.map V.ref) (fun i H' => Same H11 H' ∧ H' D = some (.lst (tv (((rowsT TS2).take i).map (llt TS2))))) ⟨same_new nD _, upd_same⟩ (fun i H' _ ⟨hS', _⟩ => SqL.of (hS' _ _ r1)) ?_ ?_
    · rintro i z H12 hz ⟨hS12, hD12⟩
      obtain ⟨p, e, rfl, _, he, hpe⟩ := paired_at r2 hz
      obtain ⟨m1, m2⟩ := rowsT_mem he
      have htl := txt_len ok m1
      have hnew : ∀ v, v = llt TS2 e → ∃ acc, H12 D = some (HO.lst acc) ∧ acc.length < sizeLine ∧ (Same H11 (upd H12 D (.lst (acc ++ [T v]))) ∧ upd H12 D (.lst (acc ++ [T v])) D = some (.lst (tv (((rowsT TS2).take (i + 1)).map (llt TS2))))) := fun v ev => by
        refine ⟨_, hD12, ?_, same_upd hS12 nD, ?_⟩
        · rw [List.length_map, List.length_map, List.length_take]
          exact sml1000 (by omega)
        · rw [upd_same, List.take_succ, he, Option.toList_some, List.map_append, ev]
          show _ = some (HO.lst (tv (_ ++ [llt TS2 e])))
          rw [tv_snoc]
      refine ⟨p, _, rfl, SqT.of (hS12 _ _ hpe), rfl, _, _, rfl, _, _, rfl, rfl, rfl, ?_⟩
      refine ⟨_, rfl, _, _, rfl, rfl, _, rfl, ?_⟩
      by_cases c9 : 0 < e.2
      · obtain ⟨c0, hc0, ec0⟩ := llt_pos c9 m2
        refine iteYes (by omega) ?_
        refine ⟨_, rfl, _, rfl, _, _, _, _, rfl, rfl, SqL.of (hS12 _ _ hl11), atI_nat (txt_at m1), _, rfl, _, _, rfl, rfl, ?_⟩
        refine ⟨_, _, _, rfl, rfl, T_line (by omega), (by rw [show ((e.2 : Nat) : Int) - 1 = ((e.2 - 1 : Nat) : Int) by omega]; exact at_nat hc0), ?_⟩
        exact hnew [c0] ec0.symm
      · refine iteNo (by omega) ?_
        rw [show V.str (Str.ofString "") = T [] by rw [T_nil]]
        exact hnew [] (llt_zero c9).symm
    rintro H12 ⟨hS12, hD12⟩
    rw [List.length_map, rl, List.take_length] at hD12
    have okll : ∀ t ∈ (rowsT TS2).map (llt TS2), OkT (tS t) := fun t ht => by
      obtain ⟨e, he, rfl⟩ := List.mem_map.mp ht
      obtain ⟨i, hi⟩ := List.getElem?_of_mem he
      exact okT_llt ok hi
    have hF12 := hF11.same hS12
    have hl12 := hS12 _ _ hl11
    have hp12 := hp11.same hS12
    have hrh12 := hrh11.same hS12
    obtain ⟨⟨dz, hf12⟩, _, _⟩ := id hF12
    refine ⟨_, rfl, f, dz, _, rfl, hf12, ff_no _ _ (by decide) (by decide), f, lt, lr, TS2, rfl, hF12, ok, fun H13 p13 np13 hS13 hp13' => ?_⟩
    refine ⟨_, rfl, _, _, dp_tv hp13', dp_tv (hS13 _ _ hD12), shaped_tv okll, shaped_tv okll, _, rfl, ?_⟩
    rw [eqvAll_tv]
    refine iteNot' rfl ?_
    -- words
    refine ⟨_, rfl, _, rfl, a, l, TS2, rfl, hp12.same hS13, hS13 _ _ hl12, nla, okS, fun H14 wp Ws nwp hk14 hp14 hwp hWs => ?_⟩
    have hF14 := (hF12.same hS13).kept hk14 (hp12.same hS13) nlta nlra
    have hl14 := hk14 _ _ (hS13 _ _ hl12) nla
    have hrh14 := (hrh12.same hS13).kept hk14 (hp12.same hS13) nrha
    refine ⟨wp, rfl, ⟨_, SqL.of hwp⟩, ?_⟩
    refine for_list (K := K) (a := wp) (xs := tv Ws) (fun i σ H' => ∃ v7 : Option V, σ = [some (.ref sa), some (.ref a), some (.ref l), v3, some (.ref f), some (.ref rh), some (.ref D), v7, none, none, none] ∧ Same H14 H') ⟨none, rfl, fun b o e => e⟩ (fun i σ H' _ ⟨_, _, hS'⟩ => SqL.of (hS' _ _ hwp)) ?_ ?_
    · rintro i z σ H15 hz ⟨v7, rfl, hS15⟩
      obtain ⟨W, hW, rfl⟩ := tv_at hz
      obtain ⟨w1, w2⟩ := hWs W (List.mem_of_getElem? hW)
      refine ⟨_, rfl, _, rfl, _, rfl, f, lt, lr, l, TS2, W, rfl, hF14.same hS15, hS15 _ _ hl14, ok, w1, w2, fun H16 hS16 => ?_⟩
      exact ⟨_, rfl, iteF ⟨_, rfl, hS15.trans hS16⟩⟩
    rintro σ H15 ⟨v7, rfl, hS15⟩
    have hF15 := hF14.same hS15
    have hl15 := hS15 _ _ hl14
    have hrh15 := hrh14.same hS15
    obtain ⟨⟨dw, hf15⟩, _, _⟩ := id hF15
    -- what is told is the caller's own
    refine ⟨_, rfl, f, dw, _, rfl, hf15, ff_no _ _ (by decide) (by decide), f, lt, lr, TS2, rfl, hF15, fun H16 p16 np16 hS16 hp16 => ?_⟩
    obtain ⟨xs16, x16, l16⟩ := hp16.get
    refine ⟨.inl ⟨rfl, _, SqL.of x16⟩, p16, _, _, rfl, rfl, x16, sml1000 (by omega), ?_⟩
    have hSc := same_upd (o := .lst (xs16 ++ [V.non])) hS16 np16
    generalize upd H16 p16 (.lst (xs16 ++ [V.non])) = H17 at hSc
    refine ⟨_, rfl, f, dw, _, rfl, hSc _ _ hf15, ff_no _ _ (by decide) (by decide), f, lt, lr, TS2, rfl, hF15.same hSc, fun H18 p18 np18 hS18 hp18 => ?_⟩
    refine ⟨.inl ⟨rfl, _, SqL.of hp18⟩, p18, _, _, rfl, rfl, hp18, by rw [List.length_map]; have := okS.n2; exact sml1000 (by omega), ?_⟩
    have hSd := hSc.trans (same_upd (o := .lst (tv TS2 ++ [V.non])) hS18 np18)
    generalize upd H18 p18 (.lst (tv TS2 ++ [V.non])) = H19 at hSd
    refine ⟨_, rfl, f, dw, _, rfl, hSd _ _ hf15, ff_no _ _ (by decide) (by decide), f, lt, lr, TS2, rfl, hF15.same hSd, ok, fun H20 p20 np20 hS20 hp20 => ?_⟩
    refine ⟨.inl ⟨rfl, _, SqL.of hp20⟩, p20, _, _, rfl, rfl, hp20, by rw [List.length_map, List.length_map]; exact sml1000 (by omega), ?_⟩
    have hSe := hSd.trans (same_upd (o := .lst (tv ((rowsT TS2).map (llt TS2)) ++ [V.non])) hS20 np20)
    generalize upd H20 p20 (.lst (tv ((rowsT TS2).map (llt TS2)) ++ [V.non])) = H21 at hSe
    have hF21 := hF15.same hSe
    have hl21 := hSe _ _ hl15
    have hrh21 := hrh15.same hSe
    -- another, of the texts turned
    have erev : (tv TS2).reverse = tv TS2.reverse := List.map_reverse.symm
    refine ⟨_, rfl, l, _, rfl, SqL.of hl21, fun rv nrv => ⟨rfl, rfl, fun g dg ng ndg ngg => ?_⟩⟩
    rw [erev] at ng ndg ⊢
    have hrv : upd H21 rv (.lst (tv TS2.reverse)) rv = some (.lst (tv TS2.reverse)) := upd_same
    have hSr := same_new nrv (.lst (tv TS2.reverse))
    generalize upd H21 rv (.lst (tv TS2.reverse)) = H22 at hrv hSr ng ndg ⊢
    have okr := okS.rev
    refine ⟨g, dg, rv, TS2.reverse, rfl, .inl (by rw [upd_ne (ne_of_none hrv ng), upd_ne (ne_of_none hrv ndg)]; exact hrv), okr.ok, upd_same, fun H23 lg rg nlg nrg hk23 hG23 => ⟨rfl, ?_⟩⟩
    have hSf := hSr.trans (made_same hk23 ng ndg)
    clear hk23
    have hF23 := hF21.same hSf
    have hl23 := hSf _ _ hl21
    have hrh23 := hrh21.same hSf
    obtain ⟨⟨dv, hf23⟩, _, _⟩ := id hF23
    obtain ⟨⟨du, hg23⟩, _, _⟩ := id hG23
    refine ⟨_, rfl, _, rfl, g, f, _, _, _, _, rfl, rfl, hg23, hf23, g, lg, rg, TS2.reverse, f, rfl, hG23, .inl ⟨lt, lr, TS2, hF23, okr.ok, ok, _, rfl, ?_⟩⟩
    refine ⟨_, rfl, l, _, rfl, SqL.of hl23, fun q1 nq1 => ?_⟩
    rw [erev]
    refine ⟨_, rfl, _, _, dp_tv upd_same, dp_tv (same_new nq1 _ _ _ hl23), shaped_tv okr.ok.tx, shaped_tv ok.tx, ?_⟩
    rw [eqvAll_tv]
    refine ⟨rfl, _, rfl, iteNot' rfl ?_⟩
    have hSg := same_new nq1 (.lst (tv TS2.reverse))
    generalize upd H23 q1 (.lst (tv TS2.reverse)) = H24 at hSg
    have hF24 := hF23.same hSg
    have hl24 := hSg _ _ hl23
    refine ⟨_, rfl, _, rfl, f, l, _, _, _, rfl, rfl, hSg _ _ hf23, hl24, f, lt, lr, TS2, l, rfl, hF24, .inr ⟨_, hl24, _, rfl, ?_⟩⟩
    refine ⟨_, rfl, iteF ?_⟩
    refine ⟨_, rfl, g, du, _, rfl, hSg _ _ hg23, ff_no _ _ (by decide) (by decide), g, lg, rg, TS2.reverse, rfl, hG23.same hSg, okr.ok, fun x2 hx2 => ?_⟩
    refine ⟨_, rfl, l, TS2, rfl, hl24, okS, fun H25 y2 hS25 hy2 => ?_⟩
    refine ⟨rfl, _, rfl, iteNot' (by rw [hx2.rev.one hy2]) ?_⟩
    have hSh := hSg.trans hS25
    have hF25 := hF23.same hSh
    have hl25 := hSh _ _ hl23
    have hrh25 := hrh23.same hSh
    refine ⟨_, rfl, f, dv, _, rfl, hSh _ _ hf23, ff_no _ _ (by decide) (by decide), f, lt, lr, TS2, rfl, hF25, fun H26 p26 np26 hS26 hp26 => ?_⟩
    refine ⟨_, rfl, _, _, dp_t2s hp26, dp_t2s (hrh25.same hS26), shaped_t2 _, shaped_t2 _, _, rfl, ?_⟩
    rw [eqv_t2s]
    refine iteYes rfl ?_
    have hl26 := hS26 _ _ hl25
    have hF26 := hF25.same hS26
    refine ⟨_, rfl, l, _, rfl, .inl ⟨SqL.of hl26, fun tp ntp => fun h dh nh ndh nhh => ?_⟩⟩
    have htp : upd H26 tp (.tup (tv TS2)) tp = some (.tup (tv TS2)) := upd_same
    have hSi := same_new ntp (.tup (tv TS2))
    generalize upd H26 tp (.tup (tv TS2)) = H27 at htp hSi nh ndh ⊢
    refine ⟨h, dh, tp, TS2, rfl, .inr (by rw [upd_ne (ne_of_none htp nh), upd_ne (ne_of_none htp ndh)]; exact htp), ok, upd_same, fun H28 lh rh2 nlh nrh2 hk28 hH28 => ⟨rfl, ?_⟩⟩
    have hSj := hSi.trans (made_same hk28 nh ndh)
    have hF28 := hF26.same hSj
    obtain ⟨⟨dt1, hf28⟩, _, _⟩ := id hF28
    obtain ⟨⟨dt2, hh28⟩, _, _⟩ := id hH28
    refine ⟨_, rfl, h, f, _, _, _, _, rfl, rfl, hh28, hf28, h, lh, rh2, TS2, f, rfl, hH28, .inl ⟨lt, lr, TS2, hF28, ok, ok, _, rfl, ?_⟩⟩
    rw [decide_eq_true rfl]
    exact q _
end
end My
namespace My
open PySem L2 PyProof.Rows
/-! ### the end -/
theorem kit_no {K : PySem.W.Frag} {C : Addr} (h1 : PySem.W.isClsIn K C = true) (h2 : PySem.W.typeIn K (.ref C) = some (.type "type")) (h3 : PySem.W.subIn K (.type "dict") (.ref C) = some false) : PySem.W.kitOne K (.type "dict") (.ref C) = some false := by
  unfold PySem.W.kitOne
  rw [if_neg (by simp)]
  show (if ((PySem.W.clsIn K C).isSome && PySem.W.typeIn K (.ref C) == some (.type "type")) = true then PySem.W.subIn K (.type "dict") (.ref C) else none) = some false
  have h1' : (PySem.W.clsIn K C).isSome = true := h1
  rw [h1', h2, if_pos (by simp)]
  exact h3
theorem fd_is {K : PySem.W.Frag} {x : Str} {st : Stmt} {f : Addr} {fd fe : FuncData} {oc : Value} {od : Option Addr} {sl : Array (Option Value)} (F : Fun K x x st f fd) (l : K.lookup f = some ⟨oc, od, .func fe, sl⟩) : fd = fe := by
  obtain ⟨oc2, od2, kV, doc, pm, an, cdv, ct, osl, e, lk, c⟩ := F.ex
  rw [lk] at l
  have := Option.some.inj l
  injection this with _ _ h3 _
  injection h3
set_option maxHeartbeats 4000000 in
theorem all_mk {l : PySem.W.OpenLaw} {w : World} {K : PySem.W.Frag} {h : Heap} {mg : Str → Option Value} {fa C : Addr} (X : K.In h) (G : h.Ns mainGlobals mg) (hfa : mg "law" = some (.ref fa))
    {fM0 : Addr} {odM0 anM0 : Option Addr} {slM0 : Array (Option Value)} {ocM0 kVM0 dcM0 pmM0 cdM0 ctM0 : Value} {fM1 : Addr} {odM1 anM1 : Option Addr} {slM1 : Array (Option Value)} {ocM1 kVM1 dcM1 pmM1 cdM1 ctM1 : Value} {fM2 : Addr} {odM2 anM2 : Option Addr} {slM2 : Array (Option Value)} {ocM2 kVM2 dcM2 pmM2 cdM2 ctM2 : Value} {fM3 : Addr} {odM3 anM3 : Option Addr} {slM3 : Array (Option Value)} {ocM3 kVM3 dcM3 pmM3 cdM3 ctM3 : Value} {fM4 : Addr} {odM4 anM4 : Option Addr} {slM4 : Array (Option Value)} {ocM4 kVM4 dcM4 pmM4 cdM4 ctM4 : Value} {fM5 : Addr} {odM5 anM5 : Option Addr} {slM5 : Array (Option Value)} {ocM5 kVM5 dcM5 pmM5 cdM5 ctM5 : Value} {fM6 : Addr} {odM6 anM6 : Option Addr} {slM6 : Array (Option Value)} {ocM6 kVM6 dcM6 pmM6 cdM6 ctM6 : Value} {fM7 : Addr} {odM7 anM7 : Option Addr} {slM7 : Array (Option Value)} {ocM7 kVM7 dcM7 pmM7 cdM7 ctM7 : Value} {fM8 : Addr} {odM8 anM8 : Option Addr} {slM8 : Array (Option Value)} {ocM8 kVM8 dcM8 pmM8 cdM8 ctM8 : Value} {fM9 : Addr} {odM9 anM9 : Option Addr} {slM9 : Array (Option Value)} {ocM9 kVM9 dcM9 pmM9 cdM9 ctM9 : Value} {fM10 : Addr} {odM10 anM10 : Option Addr} {slM10 : Array (Option Value)} {ocM10 kVM10 dcM10 pmM10 cdM10 ctM10 : Value} {fM11 : Addr} {odM11 anM11 : Option Addr} {slM11 : Array (Option Value)} {ocM11 kVM11 dcM11 pmM11 cdM11 ctM11 : Value} {f0 : Addr} {od0 an0 : Option Addr} {sl0 : Array (Option Value)} {oc0 kV0 dc0 pm0 cd0 ct0 : Value} {f1 : Addr} {od1 an1 : Option Addr} {sl1 : Array (Option Value)} {oc1 kV1 dc1 pm1 cd1 ct1 : Value} {f2 : Addr} {od2 an2 : Option Addr} {sl2 : Array (Option Value)} {oc2 kV2 dc2 pm2 cd2 ct2 : Value} {f3 : Addr} {od3 an3 : Option Addr} {sl3 : Array (Option Value)} {oc3 kV3 dc3 pm3 cd3 ct3 : Value} {f4 : Addr} {od4 an4 : Option Addr} {sl4 : Array (Option Value)} {oc4 kV4 dc4 pm4 cd4 ct4 : Value} {f5 : Addr} {od5 an5 : Option Addr} {sl5 : Array (Option Value)} {oc5 kV5 dc5 pm5 cd5 ct5 : Value} {f6 : Addr} {od6 an6 : Option Addr} {sl6 : Array (Option Value)} {oc6 kV6 dc6 pm6 cd6 ct6 : Value} {f7 : Addr} {od7 an7 : Option Addr} {sl7 : Array (Option Value)} {oc7 kV7 dc7 pm7 cd7 ct7 : Value} {f8 : Addr} {od8 an8 : Option Addr} {sl8 : Array (Option Value)} {oc8 kV8 dc8 pm8 cd8 ct8 : Value} {f9 : Addr} {od9 an9 : Option Addr} {sl9 : Array (Option Value)} {oc9 kV9 dc9 pm9 cd9 ct9 : Value} {f10 : Addr} {od10 an10 : Option Addr} {sl10 : Array (Option Value)} {oc10 kV10 dc10 pm10 cd10 ct10 : Value} {f11 : Addr} {od11 an11 : Option Addr} {sl11 : Array (Option Value)} {oc11 kV11 dc11 pm11 cd11 ct11 : Value} {f12 : Addr} {od12 an12 : Option Addr} {sl12 : Array (Option Value)} {oc12 kV12 dc12 pm12 cd12 ct12 : Value} {f13 : Addr} {od13 an13 : Option Addr} {sl13 : Array (Option Value)} {oc13 kV13 dc13 pm13 cd13 ct13 : Value} {f14 : Addr} {od14 an14 : Option Addr} {sl14 : Array (Option Value)} {oc14 kV14 dc14 pm14 cd14 ct14 : Value} {f15 : Addr} {od15 an15 : Option Addr} {sl15 : Array (Option Value)} {oc15 kV15 dc15 pm15 cd15 ct15 : Value} {f16 : Addr} {od16 an16 : Option Addr} {sl16 : Array (Option Value)} {oc16 kV16 dc16 pm16 cd16 ct16 : Value} {f17 : Addr} {od17 an17 : Option Addr} {sl17 : Array (Option Value)} {oc17 kV17 dc17 pm17 cd17 ct17 : Value} {f18 : Addr} {od18 an18 : Option Addr} {sl18 : Array (Option Value)} {oc18 kV18 dc18 pm18 cd18 ct18 : Value} {f19 : Addr} {od19 an19 : Option Addr} {sl19 : Array (Option Value)} {oc19 kV19 dc19 pm19 cd19 ct19 : Value} {f20 : Addr} {od20 an20 : Option Addr} {sl20 : Array (Option Value)} {oc20 kV20 dc20 pm20 cd20 ct20 : Value} {f21 : Addr} {od21 an21 : Option Addr} {sl21 : Array (Option Value)} {oc21 kV21 dc21 pm21 cd21 ct21 : Value} {t0 : Tok} {t1 : Tok}
    (aC : PySem.W.nsIn K mainGlobals "Finder" = some (some (.ref C)))
    (aM0 : PySem.W.findIn K (.ref C) "__init__" = some (some (.ref fM0))) (iM0 : PySem.W.isFn K (.ref fM0) = true) (lM0 : K.lookup fM0 = some ⟨ocM0, odM0, .func (PySem.W.fnOf "__init__" "Finder.__init__" (defArgs sFinder___init__) (defBody sFinder___init__) (defScope sFinder___init__) .none kVM0 dcM0 pmM0 anM0 cdM0 ctM0), slM0⟩) (cM0 : PySem.W.codeIn K cdM0 "Finder.__init__" = true) (kM0 : PySem.W.keepIn K (.ref fM0) = true)
    (aM1 : PySem.W.findIn K (.ref C) "__eq__" = some (some (.ref fM1))) (iM1 : PySem.W.isFn K (.ref fM1) = true) (lM1 : K.lookup fM1 = some ⟨ocM1, odM1, .func (PySem.W.fnOf "__eq__" "Finder.__eq__" (defArgs sFinder___eq__) (defBody sFinder___eq__) (defScope sFinder___eq__) .none kVM1 dcM1 pmM1 anM1 cdM1 ctM1), slM1⟩) (cM1 : PySem.W.codeIn K cdM1 "Finder.__eq__" = true) (kM1 : PySem.W.keepIn K (.ref fM1) = true)
    (aM2 : PySem.W.findIn K (.ref C) "texts" = some (some (.ref fM2))) (iM2 : PySem.W.isFn K (.ref fM2) = true) (lM2 : K.lookup fM2 = some ⟨ocM2, odM2, .func (PySem.W.fnOf "texts" "Finder.texts" (defArgs sFinder_texts) (defBody sFinder_texts) (defScope sFinder_texts) .none kVM2 dcM2 pmM2 anM2 cdM2 ctM2), slM2⟩) (cM2 : PySem.W.codeIn K cdM2 "Finder.texts" = true) (kM2 : PySem.W.keepIn K (.ref fM2) = true)
    (aM3 : PySem.W.findIn K (.ref C) "rows" = some (some (.ref fM3))) (iM3 : PySem.W.isFn K (.ref fM3) = true) (lM3 : K.lookup fM3 = some ⟨ocM3, odM3, .func (PySem.W.fnOf "rows" "Finder.rows" (defArgs sFinder_rows) (defBody sFinder_rows) (defScope sFinder_rows) .none kVM3 dcM3 pmM3 anM3 cdM3 ctM3), slM3⟩) (cM3 : PySem.W.codeIn K cdM3 "Finder.rows" = true) (kM3 : PySem.W.keepIn K (.ref fM3) = true)
    (aM4 : PySem.W.findIn K (.ref C) "last_letters" = some (some (.ref fM4))) (iM4 : PySem.W.isFn K (.ref fM4) = true) (lM4 : K.lookup fM4 = some ⟨ocM4, odM4, .func (PySem.W.fnOf "last_letters" "Finder.last_letters" (defArgs sFinder_last_letters) (defBody sFinder_last_letters) (defScope sFinder_last_letters) .none kVM4 dcM4 pmM4 anM4 cdM4 ctM4), slM4⟩) (cM4 : PySem.W.codeIn K cdM4 "Finder.last_letters" = true) (kM4 : PySem.W.keepIn K (.ref fM4) = true)
    (aM5 : PySem.W.findIn K (.ref C) "_read_from" = some (some (.ref fM5))) (iM5 : PySem.W.isFn K (.ref fM5) = true) (lM5 : K.lookup fM5 = some ⟨ocM5, odM5, .func (PySem.W.fnOf "_read_from" "Finder._read_from" (defArgs sFinder__read_from) (defBody sFinder__read_from) (defScope sFinder__read_from) .none kVM5 dcM5 pmM5 anM5 cdM5 ctM5), slM5⟩) (cM5 : PySem.W.codeIn K cdM5 "Finder._read_from" = true) (kM5 : PySem.W.keepIn K (.ref fM5) = true)
    (aM6 : PySem.W.findIn K (.ref C) "_rows_ahead" = some (some (.ref fM6))) (iM6 : PySem.W.isFn K (.ref fM6) = true) (lM6 : K.lookup fM6 = some ⟨ocM6, odM6, .func (PySem.W.fnOf "_rows_ahead" "Finder._rows_ahead" (defArgs sFinder__rows_ahead) (defBody sFinder__rows_ahead) (defScope sFinder__rows_ahead) .none kVM6 dcM6 pmM6 anM6 cdM6 ctM6), slM6⟩) (cM6 : PySem.W.codeIn K cdM6 "Finder._rows_ahead" = true) (kM6 : PySem.W.keepIn K (.ref fM6) = true)
    (aM7 : PySem.W.findIn K (.ref C) "_bounds" = some (some (.ref fM7))) (iM7 : PySem.W.isFn K (.ref fM7) = true) (lM7 : K.lookup fM7 = some ⟨ocM7, odM7, .func (PySem.W.fnOf "_bounds" "Finder._bounds" (defArgs sFinder__bounds) (defBody sFinder__bounds) (defScope sFinder__bounds) .none kVM7 dcM7 pmM7 anM7 cdM7 ctM7), slM7⟩) (cM7 : PySem.W.codeIn K cdM7 "Finder._bounds" = true) (kM7 : PySem.W.keepIn K (.ref fM7) = true)
    (aM8 : PySem.W.findIn K (.ref C) "stretch_of" = some (some (.ref fM8))) (iM8 : PySem.W.isFn K (.ref fM8) = true) (lM8 : K.lookup fM8 = some ⟨ocM8, odM8, .func (PySem.W.fnOf "stretch_of" "Finder.stretch_of" (defArgs sFinder_stretch_of) (defBody sFinder_stretch_of) (defScope sFinder_stretch_of) .none kVM8 dcM8 pmM8 anM8 cdM8 ctM8), slM8⟩) (cM8 : PySem.W.codeIn K cdM8 "Finder.stretch_of" = true) (kM8 : PySem.W.keepIn K (.ref fM8) = true)
    (aM9 : PySem.W.findIn K (.ref C) "places_of" = some (some (.ref fM9))) (iM9 : PySem.W.isFn K (.ref fM9) = true) (lM9 : K.lookup fM9 = some ⟨ocM9, odM9, .func (PySem.W.fnOf "places_of" "Finder.places_of" (defArgs sFinder_places_of) (defBody sFinder_places_of) (defScope sFinder_places_of) .none kVM9 dcM9 pmM9 anM9 cdM9 ctM9), slM9⟩) (cM9 : PySem.W.codeIn K cdM9 "Finder.places_of" = true) (kM9 : PySem.W.keepIn K (.ref fM9) = true)
    (aM10 : PySem.W.findIn K (.ref C) "how_often" = some (some (.ref fM10))) (iM10 : PySem.W.isFn K (.ref fM10) = true) (lM10 : K.lookup fM10 = some ⟨ocM10, odM10, .func (PySem.W.fnOf "how_often" "Finder.how_often" (defArgs sFinder_how_often) (defBody sFinder_how_often) (defScope sFinder_how_often) .none kVM10 dcM10 pmM10 anM10 cdM10 ctM10), slM10⟩) (cM10 : PySem.W.codeIn K cdM10 "Finder.how_often" = true) (kM10 : PySem.W.keepIn K (.ref fM10) = true)
    (aM11 : PySem.W.findIn K (.ref C) "longest_again" = some (some (.ref fM11))) (iM11 : PySem.W.isFn K (.ref fM11) = true) (lM11 : K.lookup fM11 = some ⟨ocM11, odM11, .func (PySem.W.fnOf "longest_again" "Finder.longest_again" (defArgs sFinder_longest_again) (defBody sFinder_longest_again) (defScope sFinder_longest_again) .none kVM11 dcM11 pmM11 anM11 cdM11 ctM11), slM11⟩) (cM11 : PySem.W.codeIn K cdM11 "Finder.longest_again" = true) (kM11 : PySem.W.keepIn K (.ref fM11) = true)
    (a0 : PySem.W.nsIn K mainGlobals "is_integer" = some (some (.ref f0))) (l0 : K.lookup f0 = some ⟨oc0, od0, .func (PySem.W.fnOf "is_integer" "is_integer" (defArgs sis_integer) (defBody sis_integer) (defScope sis_integer) .none kV0 dc0 pm0 an0 cd0 ct0), sl0⟩) (c0 : PySem.W.codeIn K cd0 "is_integer" = true) (k0 : PySem.W.keepIn K (.ref f0) = true)
    (a1 : PySem.W.nsIn K mainGlobals "is_between" = some (some (.ref f1))) (l1 : K.lookup f1 = some ⟨oc1, od1, .func (PySem.W.fnOf "is_between" "is_between" (defArgs sis_between) (defBody sis_between) (defScope sis_between) .none kV1 dc1 pm1 an1 cd1 ct1), sl1⟩) (c1 : PySem.W.codeIn K cd1 "is_between" = true) (k1 : PySem.W.keepIn K (.ref f1) = true)
    (a2 : PySem.W.nsIn K mainGlobals "is_listed" = some (some (.ref f2))) (l2 : K.lookup f2 = some ⟨oc2, od2, .func (PySem.W.fnOf "is_listed" "is_listed" (defArgs sis_listed) (defBody sis_listed) (defScope sis_listed) .none kV2 dc2 pm2 an2 cd2 ct2), sl2⟩) (c2 : PySem.W.codeIn K cd2 "is_listed" = true) (k2 : PySem.W.keepIn K (.ref f2) = true)
    (a3 : PySem.W.nsIn K mainGlobals "is_letter" = some (some (.ref f3))) (l3 : K.lookup f3 = some ⟨oc3, od3, .func (PySem.W.fnOf "is_letter" "is_letter" (defArgs sis_letter) (defBody sis_letter) (defScope sis_letter) .none kV3 dc3 pm3 an3 cd3 ct3), sl3⟩) (c3 : PySem.W.codeIn K cd3 "is_letter" = true) (k3 : PySem.W.keepIn K (.ref f3) = true)
    (a4 : PySem.W.nsIn K mainGlobals "is_text" = some (some (.ref f4))) (l4 : K.lookup f4 = some ⟨oc4, od4, .func (PySem.W.fnOf "is_text" "is_text" (defArgs sis_text) (defBody sis_text) (defScope sis_text) .none kV4 dc4 pm4 an4 cd4 ct4), sl4⟩) (c4 : PySem.W.codeIn K cd4 "is_text" = true) (k4 : PySem.W.keepIn K (.ref f4) = true)
    (a5 : PySem.W.nsIn K mainGlobals "is_ring" = some (some (.ref f5))) (l5 : K.lookup f5 = some ⟨oc5, od5, .func (PySem.W.fnOf "is_ring" "is_ring" (defArgs sis_ring) (defBody sis_ring) (defScope sis_ring) .none kV5 dc5 pm5 an5 cd5 ct5), sl5⟩) (c5 : PySem.W.codeIn K cd5 "is_ring" = true) (k5 : PySem.W.keepIn K (.ref f5) = true)
    (a6 : PySem.W.nsIn K mainGlobals "need_word" = some (some (.ref f6))) (l6 : K.lookup f6 = some ⟨oc6, od6, .func (PySem.W.fnOf "need_word" "need_word" (defArgs sneed_word) (defBody sneed_word) (defScope sneed_word) .none kV6 dc6 pm6 an6 cd6 ct6), sl6⟩) (c6 : PySem.W.codeIn K cd6 "need_word" = true) (k6 : PySem.W.keepIn K (.ref f6) = true)
    (a7 : PySem.W.nsIn K mainGlobals "_need_texts" = some (some (.ref f7))) (l7 : K.lookup f7 = some ⟨oc7, od7, .func (PySem.W.fnOf "_need_texts" "_need_texts" (defArgs s_need_texts) (defBody s_need_texts) (defScope s_need_texts) .none kV7 dc7 pm7 an7 cd7 ct7), sl7⟩) (c7 : PySem.W.codeIn K cd7 "_need_texts" = true) (k7 : PySem.W.keepIn K (.ref f7) = true)
    (a8 : PySem.W.nsIn K mainGlobals "_places_in" = some (some (.ref f8))) (l8 : K.lookup f8 = some ⟨oc8, od8, .func (PySem.W.fnOf "_places_in" "_places_in" (defArgs s_places_in) (defBody s_places_in) (defScope s_places_in) .none kV8 dc8 pm8 an8 cd8 ct8), sl8⟩) (c8 : PySem.W.codeIn K cd8 "_places_in" = true) (k8 : PySem.W.keepIn K (.ref f8) = true)
    (a9 : PySem.W.nsIn K mainGlobals "plain_places" = some (some (.ref f9))) (l9 : K.lookup f9 = some ⟨oc9, od9, .func (PySem.W.fnOf "plain_places" "plain_places" (defArgs splain_places) (defBody splain_places) (defScope splain_places) .none kV9 dc9 pm9 an9 cd9 ct9), sl9⟩) (c9 : PySem.W.codeIn K cd9 "plain_places" = true) (k9 : PySem.W.keepIn K (.ref f9) = true)
    (a10 : PySem.W.nsIn K mainGlobals "_in_common" = some (some (.ref f10))) (l10 : K.lookup f10 = some ⟨oc10, od10, .func (PySem.W.fnOf "_in_common" "_in_common" (defArgs s_in_common) (defBody s_in_common) (defScope s_in_common) .none kV10 dc10 pm10 an10 cd10 ct10), sl10⟩) (c10 : PySem.W.codeIn K cd10 "_in_common" = true) (k10 : PySem.W.keepIn K (.ref f10) = true)
    (a11 : PySem.W.nsIn K mainGlobals "_sorted_places" = some (some (.ref f11))) (l11 : K.lookup f11 = some ⟨oc11, od11, .func (PySem.W.fnOf "_sorted_places" "_sorted_places" (defArgs s_sorted_places) (defBody s_sorted_places) (defScope s_sorted_places) .none kV11 dc11 pm11 an11 cd11 ct11), sl11⟩) (c11 : PySem.W.codeIn K cd11 "_sorted_places" = true) (k11 : PySem.W.keepIn K (.ref f11) = true)
    (a12 : PySem.W.nsIn K mainGlobals "_law_pot" = some (some (.ref f12))) (l12 : K.lookup f12 = some ⟨oc12, od12, .func (PySem.W.fnOf "_law_pot" "_law_pot" (defArgs s_law_pot) (defBody s_law_pot) (defScope s_law_pot) .none kV12 dc12 pm12 an12 cd12 ct12), sl12⟩) (c12 : PySem.W.codeIn K cd12 "_law_pot" = true) (k12 : PySem.W.keepIn K (.ref f12) = true)
    (a13 : PySem.W.nsIn K mainGlobals "_law_draw" = some (some (.ref f13))) (l13 : K.lookup f13 = some ⟨oc13, od13, .func (PySem.W.fnOf "_law_draw" "_law_draw" (defArgs s_law_draw) (defBody s_law_draw) (defScope s_law_draw) .none kV13 dc13 pm13 an13 cd13 ct13), sl13⟩) (c13 : PySem.W.codeIn K cd13 "_law_draw" = true) (k13 : PySem.W.keepIn K (.ref f13) = true)
    (a14 : PySem.W.nsIn K mainGlobals "_law_pick" = some (some (.ref f14))) (l14 : K.lookup f14 = some ⟨oc14, od14, .func (PySem.W.fnOf "_law_pick" "_law_pick" (defArgs s_law_pick) (defBody s_law_pick) (defScope s_law_pick) .none kV14 dc14 pm14 an14 cd14 ct14), sl14⟩) (c14 : PySem.W.codeIn K cd14 "_law_pick" = true) (k14 : PySem.W.keepIn K (.ref f14) = true)
    (a15 : PySem.W.nsIn K mainGlobals "_law_text" = some (some (.ref f15))) (l15 : K.lookup f15 = some ⟨oc15, od15, .func (PySem.W.fnOf "_law_text" "_law_text" (defArgs s_law_text) (defBody s_law_text) (defScope s_law_text) .none kV15 dc15 pm15 an15 cd15 ct15), sl15⟩) (c15 : PySem.W.codeIn K cd15 "_law_text" = true) (k15 : PySem.W.keepIn K (.ref f15) = true)
    (a16 : PySem.W.nsIn K mainGlobals "_law_rows" = some (some (.ref f16))) (l16 : K.lookup f16 = some ⟨oc16, od16, .func (PySem.W.fnOf "_law_rows" "_law_rows" (defArgs s_law_rows) (defBody s_law_rows) (defScope s_law_rows) .none kV16 dc16 pm16 an16 cd16 ct16), sl16⟩) (c16 : PySem.W.codeIn K cd16 "_law_rows" = true) (k16 : PySem.W.keepIn K (.ref f16) = true)
    (a17 : PySem.W.nsIn K mainGlobals "_law_places" = some (some (.ref f17))) (l17 : K.lookup f17 = some ⟨oc17, od17, .func (PySem.W.fnOf "_law_places" "_law_places" (defArgs s_law_places) (defBody s_law_places) (defScope s_law_places) .none kV17 dc17 pm17 an17 cd17 ct17), sl17⟩) (c17 : PySem.W.codeIn K cd17 "_law_places" = true) (k17 : PySem.W.keepIn K (.ref f17) = true)
    (a18 : PySem.W.nsIn K mainGlobals "_law_again" = some (some (.ref f18))) (l18 : K.lookup f18 = some ⟨oc18, od18, .func (PySem.W.fnOf "_law_again" "_law_again" (defArgs s_law_again) (defBody s_law_again) (defScope s_law_again) .none kV18 dc18 pm18 an18 cd18 ct18), sl18⟩) (c18 : PySem.W.codeIn K cd18 "_law_again" = true) (k18 : PySem.W.keepIn K (.ref f18) = true)
    (a19 : PySem.W.nsIn K mainGlobals "_law_word_right" = some (some (.ref f19))) (l19 : K.lookup f19 = some ⟨oc19, od19, .func (PySem.W.fnOf "_law_word_right" "_law_word_right" (defArgs s_law_word_right) (defBody s_law_word_right) (defScope s_law_word_right) .none kV19 dc19 pm19 an19 cd19 ct19), sl19⟩) (c19 : PySem.W.codeIn K cd19 "_law_word_right" = true) (k19 : PySem.W.keepIn K (.ref f19) = true)
    (a20 : PySem.W.nsIn K mainGlobals "_law_words" = some (some (.ref f20))) (l20 : K.lookup f20 = some ⟨oc20, od20, .func (PySem.W.fnOf "_law_words" "_law_words" (defArgs s_law_words) (defBody s_law_words) (defScope s_law_words) .none kV20 dc20 pm20 an20 cd20 ct20), sl20⟩) (c20 : PySem.W.codeIn K cd20 "_law_words" = true) (k20 : PySem.W.keepIn K (.ref f20) = true)
    (a21 : PySem.W.nsIn K mainGlobals "law" = some (some (.ref f21))) (l21 : K.lookup f21 = some ⟨oc21, od21, .func (PySem.W.fnOf "law" "law" (defArgs slaw) (defBody slaw) (defScope slaw) .none kV21 dc21 pm21 an21 cd21 ct21), sl21⟩) (c21 : PySem.W.codeIn K cd21 "law" = true) (k21 : PySem.W.keepIn K (.ref f21) = true)
    (pg : PySem.W.plainGet K C Str.empty = true) (hd : PySem.W.hasDictIn K C = true) (po : PySem.W.plainOver K C = true) (sa : PySem.W.findIn K (.ref C) "__setattr__" = some (some (.builtin "object.__setattr__"))) (mk : PySem.W.makesIn K C = true) (kc : PySem.W.keepIn K (.ref C) = true)
    (n0 : PySem.W.findIn K (.ref C) "_texts" = some none)
    (n1 : PySem.W.findIn K (.ref C) "_rows" = some none)
    (q1 : PySem.W.findIn K (.ref C) "__class__" = some (some (.builtin "object.__class__"))) (q2 : PySem.W.specialIn K (.builtin "object.__class__") "__get__" = some (some (.builtin "getset_descriptor.__get__"))) (q3 : PySem.W.takesIn K (.builtin "object.__class__") = some true) (q4 : PySem.W.mroIn K C (.type "object") = some true)
    (w1 : PySem.W.findIn K (.ref C) "__ne__" = some (some (.builtin "object.__ne__"))) (w2 : PySem.W.notFirst K C (.type "list") = true) (w3 : PySem.W.isClsIn K C = true) (w4 : PySem.W.typeIn K (.ref C) = some (.type "type")) (w5 : PySem.W.subIn K (.type "list") (.ref C) = some false)
    (z0 : PySem.W.nsIn K mainGlobals "isinstance" = some none)
    (z1 : PySem.W.nsIn K mainGlobals "int" = some none)
    (z2 : PySem.W.nsIn K mainGlobals "bool" = some none)
    (z3 : PySem.W.nsIn K mainGlobals "str" = some none)
    (z4 : PySem.W.nsIn K mainGlobals "list" = some none)
    (z5 : PySem.W.nsIn K mainGlobals "tuple" = some none)
    (z6 : PySem.W.nsIn K mainGlobals "len" = some none)
    (z7 : PySem.W.nsIn K mainGlobals "range" = some none)
    (z8 : PySem.W.nsIn K mainGlobals "abs" = some none)
    (z9 : PySem.W.nsIn K mainGlobals "max" = some none)
    (z10 : PySem.W.nsIn K mainGlobals "min" = some none)
    (z11 : PySem.W.nsIn K mainGlobals "divmod" = some none)
    (z12 : PySem.W.nsIn K mainGlobals "enumerate" = some none)
    (z13 : PySem.W.nsIn K mainGlobals "sorted" = some none)
    (z14 : PySem.W.nsIn K mainGlobals "sum" = some none)
    (z15 : PySem.W.nsIn K mainGlobals "all" = some none)
    (y0 : PySem.W.nsIn K mainGlobals "MOST_TEXTS" = some (some (.int 20 t0)))
    (y1 : PySem.W.nsIn K mainGlobals "MOST_LETTERS" = some (some (.int 400 t1)))
    : ∃ fd : FuncData, (∀ (s : Shared) (v : Value), BindsTo s fd ⟨[v], []⟩ [("_law_script", v)]) ∧ ∀ base : Heap, K.In base → base.Ns mainGlobals mg → FnOk l.prog w K mg base CX0 10 fa fd ["_law_script"] (splaw K 0) := by
  have e := hfa.symm.trans (PySem.W.mg_of X G a21)
  cases e
  have B : Bs mg := ⟨PySem.W.mg_none_of X G z0, PySem.W.mg_none_of X G z1, PySem.W.mg_none_of X G z2, PySem.W.mg_none_of X G z3, PySem.W.mg_none_of X G z4, PySem.W.mg_none_of X G z5, PySem.W.mg_none_of X G z6, PySem.W.mg_none_of X G z7, PySem.W.mg_none_of X G z8, PySem.W.mg_none_of X G z9, PySem.W.mg_none_of X G z10, PySem.W.mg_none_of X G z11, PySem.W.mg_none_of X G z12, PySem.W.mg_none_of X G z13, PySem.W.mg_none_of X G z14, PySem.W.mg_none_of X G z15⟩
  have Glb : Glo mg := ⟨⟨t0, PySem.W.mg_of X G y0⟩, ⟨t1, PySem.W.mg_of X G y1⟩⟩
  have WK : WebK K mg C := ⟨⟨pg, hd, po, sa⟩, n0, n1, PySem.W.mg_of X G aC, q1, q2, q3, q4, (by unfold PySem.W.kitOne; exact if_pos (beq_self_eq_true _)), w1, w2, kit_noL w3 w4 w5⟩
  have DFinder___init__ : DefI K C "__init__" "Finder.__init__" sFinder___init__ ["self", "texts"] := ⟨fM0, _, fun_mk (st := sFinder___init__) lM0 cM0 kM0, ⟨mk, aM0, iM0, kc⟩, (fun_mk (st := sFinder___init__) lM0 cM0 kM0).binds (ps := ["self", "texts"]) fun _ _ _ _ _ _ us hl => match us, hl with | [_, _], _ => rfl⟩
  have DFinder___eq__ : DefM K C "__eq__" "Finder.__eq__" sFinder___eq__ ["self", "other"] := ⟨fM1, _, fun_mk (st := sFinder___eq__) lM1 cM1 kM1, ⟨aM1, iM1, kM1⟩, (fun_mk (st := sFinder___eq__) lM1 cM1 kM1).binds (ps := ["self", "other"]) fun _ _ _ _ _ _ us hl => match us, hl with | [_, _], _ => rfl⟩
  have DFinder_texts : DefM K C "texts" "Finder.texts" sFinder_texts ["self"] := ⟨fM2, _, fun_mk (st := sFinder_texts) lM2 cM2 kM2, ⟨aM2, iM2, kM2⟩, (fun_mk (st := sFinder_texts) lM2 cM2 kM2).binds (ps := ["self"]) fun _ _ _ _ _ _ us hl => match us, hl with | [_], _ => rfl⟩
  have DFinder_rows : DefM K C "rows" "Finder.rows" sFinder_rows ["self"] := ⟨fM3, _, fun_mk (st := sFinder_rows) lM3 cM3 kM3, ⟨aM3, iM3, kM3⟩, (fun_mk (st := sFinder_rows) lM3 cM3 kM3).binds (ps := ["self"]) fun _ _ _ _ _ _ us hl => match us, hl with | [_], _ => rfl⟩
  have DFinder_last_letters : DefM K C "last_letters" "Finder.last_letters" sFinder_last_letters ["self"] := ⟨fM4, _, fun_mk (st := sFinder_last_letters) lM4 cM4 kM4, ⟨aM4, iM4, kM4⟩, (fun_mk (st := sFinder_last_letters) lM4 cM4 kM4).binds (ps := ["self"]) fun _ _ _ _ _ _ us hl => match us, hl with | [_], _ => rfl⟩
  have DFinder__read_from : DefM K C "_read_from" "Finder._read_from" sFinder__read_from ["self", "at"] := ⟨fM5, _, fun_mk (st := sFinder__read_from) lM5 cM5 kM5, ⟨aM5, iM5, kM5⟩, (fun_mk (st := sFinder__read_from) lM5 cM5 kM5).binds (ps := ["self", "at"]) fun _ _ _ _ _ _ us hl => match us, hl with | [_, _], _ => rfl⟩
  have DFinder__rows_ahead : DefM K C "_rows_ahead" "Finder._rows_ahead" sFinder__rows_ahead ["self", "word", "with_word"] := ⟨fM6, _, fun_mk (st := sFinder__rows_ahead) lM6 cM6 kM6, ⟨aM6, iM6, kM6⟩, (fun_mk (st := sFinder__rows_ahead) lM6 cM6 kM6).binds (ps := ["self", "word", "with_word"]) fun _ _ _ _ _ _ us hl => match us, hl with | [_, _, _], _ => rfl⟩
  have DFinder__bounds : DefM K C "_bounds" "Finder._bounds" sFinder__bounds ["self", "word"] := ⟨fM7, _, fun_mk (st := sFinder__bounds) lM7 cM7 kM7, ⟨aM7, iM7, kM7⟩, (fun_mk (st := sFinder__bounds) lM7 cM7 kM7).binds (ps := ["self", "word"]) fun _ _ _ _ _ _ us hl => match us, hl with | [_, _], _ => rfl⟩
  have DFinder_stretch_of : DefM K C "stretch_of" "Finder.stretch_of" sFinder_stretch_of ["self", "word"] := ⟨fM8, _, fun_mk (st := sFinder_stretch_of) lM8 cM8 kM8, ⟨aM8, iM8, kM8⟩, (fun_mk (st := sFinder_stretch_of) lM8 cM8 kM8).binds (ps := ["self", "word"]) fun _ _ _ _ _ _ us hl => match us, hl with | [_, _], _ => rfl⟩
  have DFinder_places_of : DefM K C "places_of" "Finder.places_of" sFinder_places_of ["self", "word"] := ⟨fM9, _, fun_mk (st := sFinder_places_of) lM9 cM9 kM9, ⟨aM9, iM9, kM9⟩, (fun_mk (st := sFinder_places_of) lM9 cM9 kM9).binds (ps := ["self", "word"]) fun _ _ _ _ _ _ us hl => match us, hl with | [_, _], _ => rfl⟩
  have DFinder_how_often : DefM K C "how_often" "Finder.how_often" sFinder_how_often ["self", "word"] := ⟨fM10, _, fun_mk (st := sFinder_how_often) lM10 cM10 kM10, ⟨aM10, iM10, kM10⟩, (fun_mk (st := sFinder_how_often) lM10 cM10 kM10).binds (ps := ["self", "word"]) fun _ _ _ _ _ _ us hl => match us, hl with | [_, _], _ => rfl⟩
  have DFinder_longest_again : DefM K C "longest_again" "Finder.longest_again" sFinder_longest_again ["self"] := ⟨fM11, _, fun_mk (st := sFinder_longest_again) lM11 cM11 kM11, ⟨aM11, iM11, kM11⟩, (fun_mk (st := sFinder_longest_again) lM11 cM11 kM11).binds (ps := ["self"]) fun _ _ _ _ _ _ us hl => match us, hl with | [_], _ => rfl⟩
  have Dis_integer : Def K mg "is_integer" sis_integer ["value"] := def_mk X G a0 l0 c0 k0 fun _ _ _ _ _ _ us hl => match us, hl with | [_], _ => rfl
  have Dis_between : Def K mg "is_between" sis_between ["value", "least", "most"] := def_mk X G a1 l1 c1 k1 fun _ _ _ _ _ _ us hl => match us, hl with | [_, _, _], _ => rfl
  have Dis_listed : Def K mg "is_listed" sis_listed ["value"] := def_mk X G a2 l2 c2 k2 fun _ _ _ _ _ _ us hl => match us, hl with | [_], _ => rfl
  have Dis_letter : Def K mg "is_letter" sis_letter ["sign"] := def_mk X G a3 l3 c3 k3 fun _ _ _ _ _ _ us hl => match us, hl with | [_], _ => rfl
  have Dis_text : Def K mg "is_text" sis_text ["value"] := def_mk X G a4 l4 c4 k4 fun _ _ _ _ _ _ us hl => match us, hl with | [_], _ => rfl
  have Dis_ring : Def K mg "is_ring" sis_ring ["value"] := def_mk X G a5 l5 c5 k5 fun _ _ _ _ _ _ us hl => match us, hl with | [_], _ => rfl
  have Dneed_word : Def K mg "need_word" sneed_word ["word"] := def_mk X G a6 l6 c6 k6 fun _ _ _ _ _ _ us hl => match us, hl with | [_], _ => rfl
  have D_need_texts : Def K mg "_need_texts" s_need_texts ["texts"] := def_mk X G a7 l7 c7 k7 fun _ _ _ _ _ _ us hl => match us, hl with | [_], _ => rfl
  have D_places_in : Def K mg "_places_in" s_places_in ["texts"] := def_mk X G a8 l8 c8 k8 fun _ _ _ _ _ _ us hl => match us, hl with | [_], _ => rfl
  have Dplain_places : Def K mg "plain_places" splain_places ["texts", "word"] := def_mk X G a9 l9 c9 k9 fun _ _ _ _ _ _ us hl => match us, hl with | [_, _], _ => rfl
  have D_in_common : Def K mg "_in_common" s_in_common ["one", "other"] := def_mk X G a10 l10 c10 k10 fun _ _ _ _ _ _ us hl => match us, hl with | [_, _], _ => rfl
  have D_sorted_places : Def K mg "_sorted_places" s_sorted_places ["texts"] := def_mk X G a11 l11 c11 k11 fun _ _ _ _ _ _ us hl => match us, hl with | [_], _ => rfl
  have D_law_pot : Def K mg "_law_pot" s_law_pot ["_law_script", "_law_k"] := def_mk X G a12 l12 c12 k12 fun _ _ _ _ _ _ us hl => match us, hl with | [_, _], _ => rfl
  have D_law_draw : Def K mg "_law_draw" s_law_draw ["_law_pot_here", "_law_size"] := def_mk X G a13 l13 c13 k13 fun _ _ _ _ _ _ us hl => match us, hl with | [_, _], _ => rfl
  have D_law_pick : Def K mg "_law_pick" s_law_pick ["_law_pot_here", "_law_some"] := def_mk X G a14 l14 c14 k14 fun _ _ _ _ _ _ us hl => match us, hl with | [_, _], _ => rfl
  have D_law_text : Def K mg "_law_text" s_law_text ["_law_pot_here", "_law_most"] := def_mk X G a15 l15 c15 k15 fun _ _ _ _ _ _ us hl => match us, hl with | [_, _], _ => rfl
  have D_law_rows : Def K mg "_law_rows" s_law_rows ["_law_texts"] := def_mk X G a16 l16 c16 k16 fun _ _ _ _ _ _ us hl => match us, hl with | [_], _ => rfl
  have D_law_places : Def K mg "_law_places" s_law_places ["_law_texts", "_law_word"] := def_mk X G a17 l17 c17 k17 fun _ _ _ _ _ _ us hl => match us, hl with | [_, _], _ => rfl
  have D_law_again : Def K mg "_law_again" s_law_again ["_law_texts"] := def_mk X G a18 l18 c18 k18 fun _ _ _ _ _ _ us hl => match us, hl with | [_], _ => rfl
  have D_law_word_right : Def K mg "_law_word_right" s_law_word_right ["_law_finder", "_law_texts", "_law_word"] := def_mk X G a19 l19 c19 k19 fun _ _ _ _ _ _ us hl => match us, hl with | [_, _, _], _ => rfl
  have D_law_words : Def K mg "_law_words" s_law_words ["_law_pot_here", "_law_texts"] := def_mk X G a20 l20 c20 k20 fun _ _ _ _ _ _ us hl => match us, hl with | [_, _], _ => rfl
  have Dlaw : Def K mg "law" slaw ["_law_script"] := def_mk X G a21 l21 c21 k21 fun _ _ _ _ _ _ us hl => match us, hl with | [_], _ => rfl
  refine ⟨PySem.W.fnOf "law" "law" (defArgs slaw) (defBody slaw) (defScope slaw) .none kV21 dc21 pm21 an21 cd21 ct21, fun s v => .of_eq rfl, fun base _ _ => ?_⟩
  have H_law_pot := ok_law_pot (P := l.prog) (w := w) (base := base) D_law_pot B Glb WK
  have H_law_draw := ok_law_draw (P := l.prog) (w := w) (base := base) D_law_draw B Glb WK
  have H_law_pick := ok_law_pick (P := l.prog) (w := w) (base := base) D_law_pick B Glb WK H_law_draw
  have H_law_text := ok_law_text (P := l.prog) (w := w) (base := base) D_law_text B Glb WK H_law_draw H_law_pick
  have H_law_words := ok_law_words (P := l.prog) (w := w) (base := base) D_law_words B Glb WK H_law_pick H_law_text H_law_draw
  have H_law_rows := ok_law_rows (P := l.prog) (w := w) (base := base) D_law_rows B Glb WK
  have H_law_again := ok_law_again (P := l.prog) (w := w) (base := base) D_law_again B Glb WK
  have H_law_places := ok_law_places (P := l.prog) (w := w) (base := base) D_law_places B Glb WK
  have His_listed := okis_listed (P := l.prog) (w := w) (base := base) Dis_listed B Glb WK
  have His_integer := okis_integer (P := l.prog) (w := w) (base := base) Dis_integer B Glb WK
  have His_between := okis_between (P := l.prog) (w := w) (base := base) Dis_between B Glb WK His_integer
  have His_letter := okis_letter (P := l.prog) (w := w) (base := base) Dis_letter B Glb WK
  have His_text := okis_text (P := l.prog) (w := w) (base := base) Dis_text B Glb WK His_letter
  have H_need_texts := ok_need_texts (P := l.prog) (w := w) (base := base) D_need_texts B Glb WK His_listed His_between His_text
  have His_ring := okis_ring (P := l.prog) (w := w) (base := base) Dis_ring B Glb WK His_text
  have Hneed_word := okneed_word (P := l.prog) (w := w) (base := base) Dneed_word B Glb WK His_ring
  have H_places_in := ok_places_in (P := l.prog) (w := w) (base := base) D_places_in B Glb WK
  have Hplain_places := okplain_places (P := l.prog) (w := w) (base := base) Dplain_places B Glb WK H_need_texts Hneed_word H_places_in
  have HFinder__read_from := okFinder__read_from (P := l.prog) (w := w) (base := base) DFinder__read_from B Glb WK
  have HFinder__rows_ahead := okFinder__rows_ahead (P := l.prog) (w := w) (base := base) DFinder__rows_ahead B Glb WK HFinder__read_from
  have HFinder__bounds := okFinder__bounds (P := l.prog) (w := w) (base := base) DFinder__bounds B Glb WK Hneed_word HFinder__rows_ahead
  have HFinder_stretch_of := okFinder_stretch_of (P := l.prog) (w := w) (base := base) DFinder_stretch_of B Glb WK HFinder__bounds
  have HFinder_places_of := okFinder_places_of (P := l.prog) (w := w) (base := base) DFinder_places_of B Glb WK HFinder__bounds
  have HFinder_how_often := okFinder_how_often (P := l.prog) (w := w) (base := base) DFinder_how_often B Glb WK HFinder__bounds
  have H_law_word_right := ok_law_word_right (P := l.prog) (w := w) (base := base) D_law_word_right B Glb WK H_law_places Hplain_places H_law_rows HFinder_stretch_of HFinder_places_of HFinder_how_often
  have HFinder___eq__ := okFinder___eq__ (P := l.prog) (w := w) (base := base) DFinder___eq__ B Glb WK
  have H_sorted_places := ok_sorted_places (P := l.prog) (w := w) (base := base) D_sorted_places B Glb WK H_places_in
  have HFinder___init__ := okFinder___init__ (P := l.prog) (w := w) (base := base) DFinder___init__ B Glb WK H_need_texts H_sorted_places
  have HFinder_last_letters := okFinder_last_letters (P := l.prog) (w := w) (base := base) DFinder_last_letters B Glb WK
  have HFinder_rows := okFinder_rows (P := l.prog) (w := w) (base := base) DFinder_rows B Glb WK
  have HFinder_texts := okFinder_texts (P := l.prog) (w := w) (base := base) DFinder_texts B Glb WK
  have H_in_common := ok_in_common (P := l.prog) (w := w) (base := base) D_in_common B Glb WK
  have HFinder_longest_again := okFinder_longest_again (P := l.prog) (w := w) (base := base) DFinder_longest_again B Glb WK H_in_common HFinder__read_from
  have Hlaw := oklaw (P := l.prog) (w := w) (base := base) Dlaw B Glb WK H_law_pot H_law_words H_law_draw H_law_rows H_law_text H_law_again H_law_word_right HFinder___eq__ HFinder___init__ HFinder_last_letters HFinder_rows HFinder_texts HFinder_longest_again
  obtain ⟨f, fd, O, m, k, b, F⟩ := Hlaw
  have e2 := m.symm.trans hfa
  cases e2
  rw [fd_is F l21] at O
  exact O
theorem walk {l : PySem.W.OpenLaw} {q : Program} {loose : List Str} {XP : (Str → Option Value) → Heap → Prop} {YP : World → Heap → Prop} {d : DefRec} {K : Params → PySem.W.Frag} (hn : l.most = some 63) (hdf : d.params.defaults = [])
    (hY : ∀ (w : World) (h : Heap), YP w h → (K w.params).In h)
    (F : ∀ (w : World) (mg : Str → Option Value) (fa : Addr) (h : Heap), (K w.params).In h → h.Ns mainGlobals mg → mg d.name = some (.ref fa) →
      ∃ fd : FuncData, (∀ (s : Shared) (u : Value), BindsTo s fd ⟨[u], []⟩ [("_law_script", u)]) ∧ ∀ base : Heap, (K w.params).In base → base.Ns mainGlobals mg → FnOk l.prog w (K w.params) mg base CX0 10 fa fd ["_law_script"] (splaw (K w.params) 0)) :
    PySem.W.WalkO q loose XP YP l.row.toRowW d [] (fun f vs => PySem.call f vs) :=
  L2.walk_of (n := 63) (k := 10) (x := "_law_script") (CX := fun _ => CX0) (sp := fun w => splaw (K w.params) 0) hn (by decide) hdf ⟨rfl, by decide, by decide⟩ hY F (fun _ _ a ns hl _ hS => ⟨a, ns, rfl, hS, hl, fun _ => rfl⟩) fun _ _ _ _ _ z => z
end My
open PySem PySem.W PyProof.Rows
set_option maxRecDepth 100000 in
set_option maxHeartbeats 0 in
theorem PySem.Challenge.cw_suretexts_k86_whole_words_found_by_halvi_holds : PySem.Challenge.rw_suretexts_k86_whole_words_found_by_halvi.Holds := by
  w_on; o_law; k_head; (case hw => w_witness2)
  k_fill
  refine My.walk (l := PySem.Challenge.rw_suretexts_k86_whole_words_found_by_halvi) rfl rfl (fun w h Y => PySem.W.kIn_of Y) ?F
  case F =>
    intro w mg fa h KX G hmg
    refine' My.all_mk KX G hmg ?aC ?aM0 ?iM0 ?lM0 ?cM0 ?kM0 ?aM1 ?iM1 ?lM1 ?cM1 ?kM1 ?aM2 ?iM2 ?lM2 ?cM2 ?kM2 ?aM3 ?iM3 ?lM3 ?cM3 ?kM3 ?aM4 ?iM4 ?lM4 ?cM4 ?kM4 ?aM5 ?iM5 ?lM5 ?cM5 ?kM5 ?aM6 ?iM6 ?lM6 ?cM6 ?kM6 ?aM7 ?iM7 ?lM7 ?cM7 ?kM7 ?aM8 ?iM8 ?lM8 ?cM8 ?kM8 ?aM9 ?iM9 ?lM9 ?cM9 ?kM9 ?aM10 ?iM10 ?lM10 ?cM10 ?kM10 ?aM11 ?iM11 ?lM11 ?cM11 ?kM11 ?a0 ?l0 ?c0 ?k0 ?a1 ?l1 ?c1 ?k1 ?a2 ?l2 ?c2 ?k2 ?a3 ?l3 ?c3 ?k3 ?a4 ?l4 ?c4 ?k4 ?a5 ?l5 ?c5 ?k5 ?a6 ?l6 ?c6 ?k6 ?a7 ?l7 ?c7 ?k7 ?a8 ?l8 ?c8 ?k8 ?a9 ?l9 ?c9 ?k9 ?a10 ?l10 ?c10 ?k10 ?a11 ?l11 ?c11 ?k11 ?a12 ?l12 ?c12 ?k12 ?a13 ?l13 ?c13 ?k13 ?a14 ?l14 ?c14 ?k14 ?a15 ?l15 ?c15 ?k15 ?a16 ?l16 ?c16 ?k16 ?a17 ?l17 ?c17 ?k17 ?a18 ?l18 ?c18 ?k18 ?a19 ?l19 ?c19 ?k19 ?a20 ?l20 ?c20 ?k20 ?a21 ?l21 ?c21 ?k21 ?pg ?hd ?po ?sa ?mk ?kc ?n0 ?n1 ?q1 ?q2 ?q3 ?q4 ?w1 ?w2 ?w3 ?w4 ?w5 ?z0 ?z1 ?z2 ?z3 ?z4 ?z5 ?z6 ?z7 ?z8 ?z9 ?z10 ?z11 ?z12 ?z13 ?z14 ?z15 ?y0 ?y1
    (case aC => k_is)
    (case aM0 => k_is)
    (case iM0 => k_is)
    (case lM0 => k_is)
    (case cM0 => k_is)
    (case kM0 => k_is)
    (case aM1 => k_is)
    (case iM1 => k_is)
    (case lM1 => k_is)
    (case cM1 => k_is)
    (case kM1 => k_is)
    (case aM2 => k_is)
    (case iM2 => k_is)
    (case lM2 => k_is)
    (case cM2 => k_is)
    (case kM2 => k_is)
    (case aM3 => k_is)
    (case iM3 => k_is)
    (case lM3 => k_is)
    (case cM3 => k_is)
    (case kM3 => k_is)
    (case aM4 => k_is)
    (case iM4 => k_is)
    (case lM4 => k_is)
    (case cM4 => k_is)
    (case kM4 => k_is)
    (case aM5 => k_is)
    (case iM5 => k_is)
    (case lM5 => k_is)
    (case cM5 => k_is)
    (case kM5 => k_is)
    (case aM6 => k_is)
    (case iM6 => k_is)
    (case lM6 => k_is)
    (case cM6 => k_is)
    (case kM6 => k_is)
    (case aM7 => k_is)
    (case iM7 => k_is)
    (case lM7 => k_is)
    (case cM7 => k_is)
    (case kM7 => k_is)
    (case aM8 => k_is)
    (case iM8 => k_is)
    (case lM8 => k_is)
    (case cM8 => k_is)
    (case kM8 => k_is)
    (case aM9 => k_is)
    (case iM9 => k_is)
    (case lM9 => k_is)
    (case cM9 => k_is)
    (case kM9 => k_is)
    (case aM10 => k_is)
    (case iM10 => k_is)
    (case lM10 => k_is)
    (case cM10 => k_is)
    (case kM10 => k_is)
    (case aM11 => k_is)
    (case iM11 => k_is)
    (case lM11 => k_is)
    (case cM11 => k_is)
    (case kM11 => k_is)
    (case a0 => k_is)
    (case l0 => k_is)
    (case c0 => k_is)
    (case k0 => k_is)
    (case a1 => k_is)
    (case l1 => k_is)
    (case c1 => k_is)
    (case k1 => k_is)
    (case a2 => k_is)
    (case l2 => k_is)
    (case c2 => k_is)
    (case k2 => k_is)
    (case a3 => k_is)
    (case l3 => k_is)
    (case c3 => k_is)
    (case k3 => k_is)
    (case a4 => k_is)
    (case l4 => k_is)
    (case c4 => k_is)
    (case k4 => k_is)
    (case a5 => k_is)
    (case l5 => k_is)
    (case c5 => k_is)
    (case k5 => k_is)
    (case a6 => k_is)
    (case l6 => k_is)
    (case c6 => k_is)
    (case k6 => k_is)
    (case a7 => k_is)
    (case l7 => k_is)
    (case c7 => k_is)
    (case k7 => k_is)
    (case a8 => k_is)
    (case l8 => k_is)
    (case c8 => k_is)
    (case k8 => k_is)
    (case a9 => k_is)
    (case l9 => k_is)
    (case c9 => k_is)
    (case k9 => k_is)
    (case a10 => k_is)
    (case l10 => k_is)
    (case c10 => k_is)
    (case k10 => k_is)
    (case a11 => k_is)
    (case l11 => k_is)
    (case c11 => k_is)
    (case k11 => k_is)
    (case a12 => k_is)
    (case l12 => k_is)
    (case c12 => k_is)
    (case k12 => k_is)
    (case a13 => k_is)
    (case l13 => k_is)
    (case c13 => k_is)
    (case k13 => k_is)
    (case a14 => k_is)
    (case l14 => k_is)
    (case c14 => k_is)
    (case k14 => k_is)
    (case a15 => k_is)
    (case l15 => k_is)
    (case c15 => k_is)
    (case k15 => k_is)
    (case a16 => k_is)
    (case l16 => k_is)
    (case c16 => k_is)
    (case k16 => k_is)
    (case a17 => k_is)
    (case l17 => k_is)
    (case c17 => k_is)
    (case k17 => k_is)
    (case a18 => k_is)
    (case l18 => k_is)
    (case c18 => k_is)
    (case k18 => k_is)
    (case a19 => k_is)
    (case l19 => k_is)
    (case c19 => k_is)
    (case k19 => k_is)
    (case a20 => k_is)
    (case l20 => k_is)
    (case c20 => k_is)
    (case k20 => k_is)
    (case a21 => k_is)
    (case l21 => k_is)
    (case c21 => k_is)
    (case k21 => k_is)
    (case pg => k_is)
    (case hd => k_is)
    (case po => k_is)
    (case sa => k_is)
    (case mk => k_is)
    (case kc => k_is)
    (case n0 => k_is)
    (case n1 => k_is)
    (case q1 => k_is)
    (case q2 => k_is)
    (case q3 => k_is)
    (case q4 => k_is)
    (case w1 => k_is)
    (case w2 => k_is)
    (case w3 => k_is)
    (case w4 => k_is)
    (case w5 => k_is)
    (case z0 => k_is)
    (case z1 => k_is)
    (case z2 => k_is)
    (case z3 => k_is)
    (case z4 => k_is)
    (case z5 => k_is)
    (case z6 => k_is)
    (case z7 => k_is)
    (case z8 => k_is)
    (case z9 => k_is)
    (case z10 => k_is)
    (case z11 => k_is)
    (case z12 => k_is)
    (case z13 => k_is)
    (case z14 => k_is)
    (case z15 => k_is)
    (case y0 => k_is)
    (case y1 => k_is)
