import PyProof.Rows.All
import Wide.All
import OpenK.AllK
import Wide.FinOn
import HandS.ForMost
import HandS.IsInst
import HandS.SortInts
import HandS.Walk
import HandS.Property
import HandS.Style
import PyProof.ListRange
import HandS.Conv
import HandS.OwnEq
import PyProof.InstNe
import KE.GoesMore
import KE.GoesEnum
import HandS.Iter
import HandS.DictTup
import KE.SortData
import KE.KDictWalk
import KE.DataMinMax
import PyProof.Rows.StrStep
import HandS.Deep
import HandS.Set
import HandS.Strs
import HandS.SetFor
import HandS.Zip
import HandS.Dict
import KE.KDictDisplayH
import PyProof.DictTable
import HandS.DictComp
import HandS.TupSets
import KE.KDictPairs
import PySem.Challenge.RW_suretexts_k32_whole_sure_by_windows
set_option Elab.async false
set_option maxRecDepth 100000
set_option linter.all false
namespace My
/-! ### reading round and round -/
def rd (l : List Nat) (p n : Nat) : List Nat := (List.range n).map fun k => l.getD ((p + k) % l.length) 0
theorem rd_len (l : List Nat) (p n : Nat) : (rd l p n).length = n := by simp [rd]
theorem rd_zero (l : List Nat) (p : Nat) : rd l p 0 = [] := rfl
theorem rd_succ (l : List Nat) (p n : Nat) : rd l p (n + 1) = rd l p n ++ [l.getD ((p + n) % l.length) 0] := by
  simp [rd, List.range_succ]
theorem rd_get (l : List Nat) (p n k : Nat) (h : k < n) : (rd l p n)[k]? = some (l.getD ((p + k) % l.length) 0) := by
  simp [rd, h]
theorem rd_drop (l : List Nat) (p n k : Nat) : (rd l p n).drop k = rd l (p + k) (n - k) := by
  apply List.ext_getElem?
  intro i
  rw [List.getElem?_drop]
  by_cases h : k + i < n
  · rw [rd_get _ _ _ _ h, rd_get _ _ _ _ (by omega), Nat.add_assoc]
  · rw [List.getElem?_eq_none (by rw [rd_len]; omega), List.getElem?_eq_none (by rw [rd_len]; omega)]
theorem rd_mod (l : List Nat) (p n : Nat) : rd l (p % l.length) n = rd l p n := by
  unfold rd
  apply List.map_congr_left
  intro k _
  rw [Nat.mod_add_mod]
theorem rd_self (l : List Nat) : rd l 0 l.length = l := by
  apply List.ext_getElem?
  intro i
  by_cases h : i < l.length
  · rw [rd_get _ _ _ _ h, Nat.zero_add, Nat.mod_eq_of_lt h, List.getElem?_eq_getElem h, List.getD_eq_getElem?_getD, List.getElem?_eq_getElem h]
    rfl
  · rw [List.getElem?_eq_none (by rw [rd_len]; omega), List.getElem?_eq_none (by omega)]
/-- turned -/
theorem rd_turn (l : List Nat) (p : Nat) (h : p < l.length) : rd l p l.length = l.drop p ++ l.take p := by
  apply List.ext_getElem?
  intro i
  by_cases hi : i < l.length
  · rw [rd_get _ _ _ _ hi]
    by_cases h2 : i < l.length - p
    · rw [List.getElem?_append_left (by rw [List.length_drop]; exact h2), List.getElem?_drop, Nat.mod_eq_of_lt (by omega), List.getElem?_eq_getElem (by omega), List.getD_eq_getElem?_getD, List.getElem?_eq_getElem (by omega)]
      rfl
    · rw [List.getElem?_append_right (by rw [List.length_drop]; omega), List.length_drop, List.getElem?_take_of_lt (by omega)]
      have e : (p + i) % l.length = i - (l.length - p) := by
        rw [Nat.mod_eq_sub_mod (by omega), Nat.mod_eq_of_lt (by omega)]
        omega
      rw [e, List.getElem?_eq_getElem (by omega), List.getD_eq_getElem?_getD, List.getElem?_eq_getElem (by omega)]
      rfl
  · rw [List.getElem?_eq_none (by rw [rd_len]; omega), List.getElem?_eq_none (by rw [List.length_append, List.length_drop, List.length_take]; omega)]
/-- reading from a turned ring -/
theorem rd_turned (l : List Nat) (b p n : Nat) (hl : 0 < l.length) : rd (rd l b l.length) p n = rd l (b + p) n := by
  unfold rd
  apply List.map_congr_left
  intro k _
  have e : ((List.range l.length).map fun k => l.getD ((b + k) % l.length) 0).length = l.length := by simp
  rw [e]
  have h2 : (p + k) % l.length < l.length := Nat.mod_lt _ hl
  rw [List.getD_eq_getElem?_getD, List.getElem?_map, List.getElem?_range h2]
  show l.getD ((b + (p + k) % l.length) % l.length) 0 = _
  rw [Nat.add_mod_mod, Nat.add_assoc]

/-! ### beginnings that are endings -/
def Pre (w t : List Nat) (k : Nat) : Prop := k ≤ w.length ∧ w.take k <:+ t
def Longest (w t : List Nat) (k : Nat) : Prop := Pre w t k ∧ ∀ k', Pre w t k' → k' ≤ k
def IsLB (p : List Nat) (b : Nat) : Prop := b < p.length ∧ p.take b <:+ p ∧ ∀ b', b' < p.length → p.take b' <:+ p → b' ≤ b
def At (w t : List Nat) (c k : Nat) : Prop := Pre w t k ∧ ∀ k', Pre w t k' → w[k']? = some c → k' ≤ k
theorem suff_one {a t : List Nat} {x c : Nat} : a ++ [x] <:+ t ++ [c] ↔ a <:+ t ∧ x = c := by
  constructor
  · rintro ⟨u, hu⟩
    rw [← List.append_assoc] at hu
    have h := List.append_inj' hu rfl
    exact ⟨⟨u, h.1⟩, by simpa using h.2⟩
  · rintro ⟨⟨u, hu⟩, rfl⟩
    exact ⟨u, by rw [← hu, List.append_assoc]⟩
theorem pre_succ {w t : List Nat} {c k : Nat} : Pre w (t ++ [c]) (k + 1) ↔ Pre w t k ∧ w[k]? = some c := by
  unfold Pre
  constructor
  · rintro ⟨h1, h2⟩
    have hk : k < w.length := by omega
    rw [List.take_succ_eq_append_getElem hk, suff_one] at h2
    exact ⟨⟨by omega, h2.1⟩, by rw [List.getElem?_eq_getElem hk, h2.2]⟩
  · rintro ⟨⟨h1, h2⟩, h3⟩
    have hk : k < w.length := by
      rw [List.getElem?_eq_some_iff] at h3
      exact h3.1
    rw [List.take_succ_eq_append_getElem hk, suff_one]
    rw [List.getElem?_eq_getElem hk] at h3
    exact ⟨by omega, h2, Option.some.inj h3⟩
theorem pre_zero (w t : List Nat) : Pre w t 0 := ⟨Nat.zero_le _, by simp⟩
theorem at_start {w t : List Nat} {c k : Nat} (h : Longest w t k) : At w t c k := ⟨h.1, fun k' h' _ => h.2 k' h'⟩
theorem at_fall {w t : List Nat} {c k b : Nat} (h : At w t c k) (hne : w[k]? ≠ some c) (hb : IsLB (w.take k) b) : At w t c b := by
  obtain ⟨h1, h2⟩ := h
  obtain ⟨b1, b2, b3⟩ := hb
  have lk : (w.take k).length = k := by rw [List.length_take]; have := h1.1; omega
  rw [lk] at b1 b3
  have tk : ∀ j, j ≤ k → (w.take k).take j = w.take j := fun j hj => by rw [List.take_take, Nat.min_eq_left hj]
  refine ⟨⟨by have := h1.1; omega, ?_⟩, fun k' p' e' => ?_⟩
  · rw [← tk b (by omega)]
    exact b2.trans h1.2
  · have l1 := h2 k' p' e'
    have l2 : k' ≠ k := by rintro rfl; exact hne e'
    have l3 : k' < k := by omega
    refine b3 k' l3 ?_
    rw [tk k' (by omega)]
    refine List.suffix_of_suffix_length_le p'.2 h1.2 ?_
    rw [List.length_take, List.length_take]
    have := h1.1
    omega
theorem at_hit {w t : List Nat} {c k : Nat} (h : At w t c k) (he : w[k]? = some c) : Longest w (t ++ [c]) (k + 1) := by
  refine ⟨pre_succ.mpr ⟨h.1, he⟩, fun k' p' => ?_⟩
  cases k' with
  | zero => omega
  | succ j =>
    have q := pre_succ.mp p'
    have := h.2 j q.1 q.2
    omega
theorem at_miss {w t : List Nat} {c : Nat} (h : At w t c 0) (he : w[0]? ≠ some c) : Longest w (t ++ [c]) 0 := by
  refine ⟨pre_zero _ _, fun k' p' => ?_⟩
  cases k' with
  | zero => omega
  | succ j =>
    have q := pre_succ.mp p'
    have l := h.2 j q.1 q.2
    have e : j = 0 := by omega
    subst e
    exact absurd q.2 he
theorem longest_nil (w : List Nat) : Longest w [] 0 := by
  refine ⟨pre_zero _ _, fun k' p' => ?_⟩
  have h := List.suffix_nil.mp p'.2
  have h2 : (w.take k').length = 0 := by rw [h]; rfl
  rw [List.length_take] at h2
  have := p'.1
  omega
theorem longest_le {w t : List Nat} {k : Nat} (h : Longest w t k) : k ≤ t.length := by
  have h1 := h.1.2.length_le
  rw [List.length_take] at h1
  have := h.1.1
  omega
/-- the longest beginning that ends the letters behind the first one is the longest border -/
theorem lb_of_longest {w : List Nat} {i k : Nat} (hi : i < w.length) (h : Longest w ((w.drop 1).take i) k) : IsLB (w.take (i + 1)) k := by
  have hk := longest_le h
  have ht : ((w.drop 1).take i).length = i := by rw [List.length_take, List.length_drop]; omega
  rw [ht] at hk
  have hl : (w.take (i + 1)).length = i + 1 := by rw [List.length_take]; omega
  have tk : ∀ j, j ≤ i + 1 → (w.take (i + 1)).take j = w.take j := fun j hj => by rw [List.take_take, Nat.min_eq_left hj]
  obtain ⟨a, r, rfl⟩ : ∃ a r, w = a :: r := by
    cases w with
    | nil => simp at hi
    | cons a r => exact ⟨a, r, rfl⟩
  have e : (a :: r).take (i + 1) = a :: ((a :: r).drop 1).take i := by simp
  refine ⟨by omega, ?_, fun b' hb' hs => ?_⟩
  · rw [tk k (by omega), e]
    exact h.1.2.trans (List.suffix_cons _ _)
  · rw [hl] at hb'
    refine h.2 b' ⟨by omega, ?_⟩
    rw [tk b' (by omega), e, List.suffix_cons_iff] at hs
    rcases hs with hs | hs
    · have hq := congrArg List.length hs
      rw [List.length_take, ← e, hl] at hq
      omega
    · exact hs
theorem lb_one {w : List Nat} (h : 0 < w.length) : IsLB (w.take 1) 0 := lb_of_longest h (by simpa using longest_nil w)
theorem lb_unique {p : List Nat} {a b : Nat} (h1 : IsLB p a) (h2 : IsLB p b) : a = b := by
  have := h1.2.2 b h2.1 h2.2.1
  have := h2.2.2 a h1.1 h1.2.1
  omega
/-- the list of the longest borders -/
def Bords (w : List Nat) (L : List Nat) : Prop := L.length = w.length ∧ ∀ j, j < w.length → ∃ b, L[j]? = some b ∧ IsLB (w.take (j + 1)) b
theorem bords_unique {w A B : List Nat} (h1 : Bords w A) (h2 : Bords w B) : A = B := by
  apply List.ext_getElem?
  intro i
  by_cases h : i < w.length
  · obtain ⟨a, ea, la⟩ := h1.2 i h
    obtain ⟨b, eb, lb⟩ := h2.2 i h
    rw [ea, eb, lb_unique la lb]
  · rw [List.getElem?_eq_none (by rw [h1.1]; omega), List.getElem?_eq_none (by rw [h2.1]; omega)]
/-- some first ones of them -/
def BordsTo (w : List Nat) (n : Nat) (L : List Nat) : Prop := L.length = n ∧ ∀ j, j < n → ∃ b, L[j]? = some b ∧ IsLB (w.take (j + 1)) b
theorem bordsTo_one {w : List Nat} (h : 0 < w.length) : BordsTo w 1 [0] := by
  refine ⟨rfl, fun j hj => ?_⟩
  have e : j = 0 := by omega
  subst e
  exact ⟨0, rfl, lb_one h⟩
theorem bordsTo_succ {w L : List Nat} {i k : Nat} (hi : i < w.length) (hB : BordsTo w i L) (h : Longest w ((w.drop 1).take i) k) : BordsTo w (i + 1) (L ++ [k]) := by
  refine ⟨by rw [List.length_append, hB.1]; rfl, fun j hj => ?_⟩
  by_cases hji : j < i
  · obtain ⟨b, e, l⟩ := hB.2 j hji
    exact ⟨b, by rw [List.getElem?_append_left (by rw [hB.1]; exact hji)]; exact e, l⟩
  · have e : j = i := by omega
    subst e
    refine ⟨k, ?_, lb_of_longest hi h⟩
    rw [List.getElem?_append_right (by rw [hB.1]; omega), hB.1, Nat.sub_self]
    rfl
theorem bordsTo_at {w L : List Nat} {n k : Nat} (hB : BordsTo w n L) (h0 : 0 < k) (hk : k ≤ n) : ∃ b, L[k - 1]? = some b ∧ IsLB (w.take k) b ∧ b < k := by
  obtain ⟨b, e, l⟩ := hB.2 (k - 1) (by omega)
  rw [show k - 1 + 1 = k by omega] at l
  refine ⟨b, e, l, ?_⟩
  have := l.1
  rw [List.length_take] at this
  omega
theorem bords_of {w L : List Nat} : BordsTo w w.length L ↔ Bords w L := Iff.rfl

/-! ### a word begins at a place -/
def due (l w : List Nat) : List Nat := (List.range l.length).filter fun p => rd l p w.length == w
theorem mem_due {l w : List Nat} {p : Nat} : p ∈ due l w ↔ p < l.length ∧ rd l p w.length = w := by
  simp [due]
/-- of the first n letters read -/
def dueTo (l w : List Nat) (n : Nat) : List Nat := (List.range n).filter fun p => rd l p w.length == w
theorem dueTo_all (l w : List Nat) : dueTo l w l.length = due l w := rfl
theorem dueTo_succ_yes {l w : List Nat} {n : Nat} (h : rd l n w.length = w) : dueTo l w (n + 1) = dueTo l w n ++ [n] := by
  simp [dueTo, List.range_succ, List.filter_append, h]
theorem dueTo_succ_no {l w : List Nat} {n : Nat} (h : ¬ rd l n w.length = w) : dueTo l w (n + 1) = dueTo l w n := by
  simp [dueTo, List.range_succ, List.filter_append, h]
/-- the whole word was just read -/
theorem longest_full {l w : List Nat} {n k : Nat} (h : Longest w (rd l 0 n) k) : k = w.length ↔ w.length ≤ n ∧ rd l (n - w.length) w.length = w := by
  have key : w <:+ rd l 0 n ↔ w.length ≤ n ∧ rd l (n - w.length) w.length = w := by
    constructor
    · intro hs
      have hl := hs.length_le
      rw [rd_len] at hl
      refine ⟨hl, ?_⟩
      have e := List.suffix_iff_eq_drop.mp hs
      rw [rd_len, rd_drop, Nat.zero_add, show n - (n - w.length) = w.length by omega] at e
      exact e.symm
    · rintro ⟨hl, e⟩
      rw [List.suffix_iff_eq_drop, rd_len, rd_drop, Nat.zero_add, show n - (n - w.length) = w.length by omega]
      exact e.symm
  rw [← key]
  constructor
  · rintro rfl
    have := h.1.2
    rw [List.take_length] at this
    exact this
  · intro hs
    have h1 := h.1.1
    have h2 := h.2 w.length ⟨Nat.le_refl _, by rw [List.take_length]; exact hs⟩
    omega

/-! ### the period -/
theorem getD_lt {l : List Nat} {i : Nat} (h : i < l.length) : l[i]? = some (l.getD i 0) := by
  rw [List.getD_eq_getElem?_getD, List.getElem?_eq_getElem h]
  rfl
theorem line_period {l : List Nat} {b : Nat} (h : IsLB l b) (i : Nat) (hi : i + (l.length - b) < l.length) : l.getD (i + (l.length - b)) 0 = l.getD i 0 := by
  have hb := h.1
  have e := List.suffix_iff_eq_drop.mp h.2.1
  have hl : (l.take b).length = b := by rw [List.length_take]; omega
  rw [hl] at e
  have e2 := congrArg (fun z : List Nat => z[i]?) e
  simp only [List.getElem?_take, List.getElem?_drop] at e2
  rw [if_pos (by omega)] at e2
  rw [List.getD_eq_getElem?_getD, List.getD_eq_getElem?_getD, e2, Nat.add_comm]
theorem line_mult {l : List Nat} {s : Nat} (h : ∀ i, i + s < l.length → l.getD (i + s) 0 = l.getD i 0) : ∀ (m i : Nat), i + m * s < l.length → l.getD (i + m * s) 0 = l.getD i 0
  | 0, i, _ => by simp
  | m + 1, i, hi => by
    have e : i + (m + 1) * s = (i + m * s) + s := by rw [Nat.succ_mul]; omega
    rw [e] at hi ⊢
    rw [h _ hi]
    exact line_mult h m i (by omega)
theorem round_period {l : List Nat} {s : Nat} (_hs : 0 < s) (hsl : s ≤ l.length) (hd : l.length % s = 0) (h : ∀ i, i + s < l.length → l.getD (i + s) 0 = l.getD i 0) (i : Nat) (hi : i < l.length) : l.getD ((i + s) % l.length) 0 = l.getD i 0 := by
  by_cases hlt : i + s < l.length
  · rw [Nat.mod_eq_of_lt hlt]
    exact h i hlt
  · have e1 : (i + s) % l.length = i + s - l.length := by
      rw [Nat.mod_eq_sub_mod (by omega), Nat.mod_eq_of_lt (by omega)]
    rw [e1]
    obtain ⟨q, hq⟩ : ∃ q, l.length = s * q := ⟨l.length / s, by rw [Nat.mul_div_cancel' (Nat.dvd_of_mod_eq_zero hd)]⟩
    have hq0 : 0 < q := by
      rcases Nat.eq_zero_or_pos q with z | z
      · subst z; omega
      · exact z
    obtain ⟨r, rfl⟩ : ∃ r, q = r + 1 := ⟨q - 1, by omega⟩
    have e2 : l.length = r * s + s := by rw [hq, Nat.mul_succ, Nat.mul_comm]
    have e3 : i = (i + s - l.length) + r * s := by omega
    have := line_mult h r (i + s - l.length) (by omega)
    rw [← e3] at this
    exact this.symm
/-- the told period -/
def per (l : List Nat) (b : Nat) : Nat := if l.length % (l.length - b) = 0 then l.length - b else l.length
theorem per_turns {l : List Nat} {b : Nat} (h : IsLB l b) (i : Nat) (hi : i < l.length) : l.getD ((i + per l b) % l.length) 0 = l.getD i 0 := by
  have hb := h.1
  unfold per
  split
  · exact round_period (by omega) (by omega) (by assumption) (fun j hj => line_period h j hj) i hi
  · rw [Nat.add_mod_right, Nat.mod_eq_of_lt hi]
theorem rd_per {l : List Nat} {b : Nat} (h : IsLB l b) (p n : Nat) : rd l (p + per l b) n = rd l p n := by
  have hb := h.1
  unfold rd
  apply List.map_congr_left
  intro k _
  rw [show p + per l b + k = (p + k) + per l b by omega, ← Nat.mod_add_mod]
  rw [per_turns h ((p + k) % l.length) (Nat.mod_lt _ (by omega))]
theorem per_pos {l : List Nat} {b : Nat} (h : IsLB l b) : 0 < per l b ∧ per l b ≤ l.length := by
  have hb := h.1
  unfold per
  split <;> omega

/-! ### rising lists of the same numbers are one list -/
theorem rising_ext : ∀ {a b : List Int}, a.Pairwise (· < ·) → b.Pairwise (· < ·) → (∀ x, x ∈ a ↔ x ∈ b) → a = b
  | [], [], _, _, _ => rfl
  | [], y :: ys, _, _, h => by have := (h y).mpr (by simp); simp at this
  | x :: xs, [], _, _, h => by have := (h x).mp (by simp); simp at this
  | x :: xs, y :: ys, ha, hb, h => by
    rw [List.pairwise_cons] at ha hb
    have e : x = y := by
      have h1 := (h x).mp (by simp)
      have h2 := (h y).mpr (by simp)
      rw [List.mem_cons] at h1 h2
      rcases h1 with h1 | h1
      · exact h1
      · rcases h2 with h2 | h2
        · exact h2.symm
        · have := ha.1 y h2
          have := hb.1 x h1
          omega
    subst e
    congr 1
    refine rising_ext ha.2 hb.2 fun z => ?_
    constructor
    · intro hz
      have := (h z).mp (List.mem_cons_of_mem _ hz)
      rw [List.mem_cons] at this
      rcases this with rfl | this
      · have := ha.1 _ hz; omega
      · exact this
    · intro hz
      have := (h z).mpr (List.mem_cons_of_mem _ hz)
      rw [List.mem_cons] at this
      rcases this with rfl | this
      · have := hb.1 _ hz; omega
      · exact this
theorem rising_of {s : List Int} (h : s.Pairwise (· ≤ ·)) (n : s.Nodup) : s.Pairwise (· < ·) := by
  have := h.and n
  exact this.imp fun ⟨h1, h2⟩ => by omega
/-- sorted, and the same numbers, none twice: that is it -/
theorem sorted_is {s m d : List Int} (hp : List.Perm s m) (hs : s.Pairwise (· ≤ ·)) (hn : m.Nodup) (hd : d.Pairwise (· < ·)) (h : ∀ x, x ∈ m ↔ x ∈ d) : s = d := by
  refine rising_ext (rising_of hs (hp.nodup_iff.mpr hn)) hd fun x => ?_
  rw [hp.mem_iff]
  exact h x
theorem due_rising (l w : List Nat) : ((due l w).map fun n : Nat => (n : Int)).Pairwise (· < ·) := by
  rw [List.pairwise_map]
  refine List.Pairwise.imp (fun {a b} (h : a < b) => by omega) ?_
  exact List.Pairwise.filter _ List.pairwise_lt_range
end My
namespace My
open PySem L2 PyProof.Rows
/-- a text by its letters -/
abbrev T (l : List Nat) : V := .str ⟨l.toArray⟩
section
variable {X : Cx}
theorem mul_flat (l : List Nat) (n : Nat) : ((List.replicate n l.toArray).foldl (· ++ ·) (#[] : Array Nat)) = (List.replicate n l).flatten.toArray := by
  have h : ∀ (m : Nat) (acc : List Nat), (List.replicate m l.toArray).foldl (· ++ ·) acc.toArray = (acc ++ (List.replicate m l).flatten).toArray := by
    intro m
    induction m with
    | zero => intro acc; simp
    | succ m ih =>
      intro acc
      rw [List.replicate_succ, List.foldl_cons]
      have e : acc.toArray ++ l.toArray = (acc ++ l).toArray := by simp
      rw [e, ih, List.replicate_succ, List.flatten_cons, List.append_assoc]
  have := h n []
  simpa using this
theorem op_mul_str : OpR X (binaryOp .Mult) (fun x y H Q => ∃ l n, x = T l ∧ y = .int (n : Nat) ∧ 1 ≤ n ∧ n ≤ 1000 ∧ l.length ≤ 1000 ∧ Q (T (List.replicate n l).flatten) H) := by
  intro pins s σ H x y v u Q I rx ry h
  obtain ⟨l, n, rfl, rfl, h1, h2, h3, q⟩ := h
  obtain ⟨t, rfl⟩ := rx
  obtain ⟨t', rfl⟩ := ry
  have hlen : (⟨l.toArray⟩ : Str).length = l.length := by simp [Str.length]
  have ok : MulOk ⟨l.toArray⟩ (n : Int) := by
    refine ⟨?_, fun _ _ => ?_, fun _ _ => ?_⟩
    · have a1 : decide ((n : Int) < -(2 ^ 63 : Int)) = false := decide_eq_false (by omega)
      have a2 : decide ((n : Int) ≥ 2 ^ 63) = false := decide_eq_false (by omega)
      rw [a1, a2]
      rfl
    · rw [hlen]
      have : (1000000 : Int) ≤ (2 ^ 63 - 1) / (n : Int) := by
        rw [Int.le_ediv_iff_mul_le (by omega)]
        omega
      omega
    · rw [hlen]
      have e : (n : Int).toNat = n := by omega
      rw [e]
      have : l.length * n ≤ 1000 * 1000 := Nat.mul_le_mul h3 h2
      have z : (1000000 : Nat) ≤ sizeLine := by decide
      simp [Builtin.Str.tooLong]
      omega
  refine SB.mul ok fun t'' k => ?_
  have em : Txt.mul ⟨l.toArray⟩ (n : Int) = ⟨(List.replicate n l).flatten.toArray⟩ := by
    unfold Txt.mul
    rw [if_neg (by omega)]
    split
    · rename_i c
      rw [hlen] at c
      simp at c
      rcases c with c | c
      · have : n = 1 := by omega
        subst this
        simp
      · subst c
        simp
    · have e : (n : Int).toNat = n := by omega
      rw [e]
      exact congrArg Str.mk (mul_flat l n)
  rw [em]
  exact ⟨.str _, H, I.tok _, ⟨_, rfl⟩, q⟩
theorem call_repr_bl : CallR X (.builtin "repr") (fun xs H Q => ∃ b, xs = [.bl b] ∧ Q (.str (if b then "True" else "False")) H) := by
  intro pins s σ H xs us Q I r h
  obtain ⟨b, rfl, q⟩ := h
  obtain ⟨u, rfl, e⟩ := vals1 r
  cases e
  exact PySem.P.repr_of_bool ⟨.str _, H, I.tok _, ⟨_, rfl⟩, q⟩
/-- a module's constant that is an int -/
theorem pe_globI {x : Str} {n : Int} {pos : Pos} (h : ∃ t, X.mg x = some (.int n t)) (hg : Gl X x := by rfl) (hd : (x == ("__debug__" : Str)) = false := by decide) : PE X (.Name x pos) (tC (.int n)) := by
  obtain ⟨t, e⟩ := h
  exact pe_glob (v := .int n) hg e ⟨t, rfl⟩ hd
variable {CX : CXT} {k : Nat} {f : Addr} {fd : FuncData} {ps ks : List Str} {sp : Sp} {E : XK} {x : Str} {p pos : Pos} {kws : List Keyword} {tk : TA} {g : List Value → List Value → List Value} {gV : List V → List V → List V}
/-- f(a=.., b=..) -/
theorem pe_callKK (F : FnOk X.prog X.w X.K X.mg X.base CX k f fd ps sp) (hr : Room k X.A) (hg : Gl X x) (hm : X.mg x = some (.ref f)) (hk : PySem.W.keepIn X.K (.ref f) = true) (hb : KBinds X.K fd ps ks g gV) (hx : Passes CX X E)
    (hkw : PK X kws tk) (hall : (backToKw pos (keywordEach kws X.env)).all (·.1.isSome) = true := by rfl) (hks : (backToKw pos (keywordEach kws X.env)).filterMap (·.1) = ks := by rfl)
    (hdb : (x == ("__debug__" : Str)) = false := by decide)
    (hpl : ((backTo pos (starEach [] X.env)).any (·.1) || (backToKw pos (keywordEach kws X.env)).any (·.1.isNone)) = false := by rfl) :
    PE X (.Call (.Name x p) [] kws pos) (tCallK sp gV E tNil tk) := by
  refine ⟨fun pins s σ H Q I h => ?_⟩
  refine wpAny_Call_Name_kw (ld_glob I hg hm ?_ hdb)
  refine PySem.W.callWith_KW0 (h₀ := X.base) I.ok.mod.kin hk hall (thn (hkw.run pos pins s σ H _ I h) fun ws s2 ⟨zs, H2, I2, rz, q2⟩ => ⟨I2.kIn, ?_⟩) hpl
  rw [hks]
  exact run_fnk F hr hb hx I2 .nil rz q2
end
/-! ### a def that stands, and one that keeps a promise -/
def Def (K : PySem.W.Frag) (mg : Str → Option Value) (x : Str) (st : Stmt) (ps : List Str) : Prop := ∃ (f : Addr) (fd : FuncData), Fun K x x st f fd ∧ mg x = some (.ref f) ∧ Binds K fd ps []
section
variable {P : Program} {w : World} {K : PySem.W.Frag} {mg : Str → Option Value} {base : Heap}
def Good (P : Program) (w : World) (K : PySem.W.Frag) (mg : Str → Option Value) (base : Heap) (x : Str) (st : Stmt) (ps : List Str) (k : Nat) (sp : Sp) : Prop := ∃ (f : Addr) (fd : FuncData), FnOk P w K mg base CX0 k f fd ps sp ∧ mg x = some (.ref f) ∧ PySem.W.keepIn K (.ref f) = true ∧ Binds K fd ps [] ∧ Fun K x x st f fd
theorem Def.good {x : Str} {st : Stmt} {ps : List Str} {k : Nat} {sp : Sp} (D : Def K mg x st ps) (h : ∀ f fd, Fun K x x st f fd → FnOk P w K mg base CX0 k f fd ps sp) : Good P w K mg base x st ps k sp := by
  obtain ⟨f, fd, F, m, b⟩ := D
  exact ⟨f, fd, h f fd F, m, F.kp, b, F⟩
theorem def_mk {h : Heap} (X : K.In h) (G : h.Ns mainGlobals mg) {x : Str} {st : Stmt} {ps : List Str} {f : Addr} {oc : Value} {od an : Option Addr} {osl : Array (Option Value)} {kV doc pm cdv ct : Value} (a : PySem.W.nsIn K mainGlobals x = some (some (.ref f)))
    (l : K.lookup f = some ⟨oc, od, .func (PySem.W.fnOf x x (defArgs st) (defBody st) (defScope st) .none kV doc pm an cdv ct), osl⟩) (c : PySem.W.codeIn K cdv x = true) (k : PySem.W.keepIn K (.ref f) = true)
    (hb : ∀ (kV doc pm : Value) (an : Option Addr) (cdv ct : Value) (us : List Value), us.length = ps.length → bindArgs (PySem.W.fnOf x x (defArgs st) (defBody st) (defScope st) .none kV doc pm an cdv ct) ⟨us, []⟩ = pure (ps.zip us)) : Def K mg x st ps :=
  ⟨f, _, fun_mk l c k, PySem.W.mg_of X G a, (fun_mk l c k).binds hb⟩
theorem fun_kbinds {x qual : Str} {st : Stmt} {f : Addr} {fd : FuncData} {ps ks : List Str} (F : Fun K x qual st f fd) (g : List Value → List Value → List Value) (gV : List V → List V → List V)
    (hrel : ∀ {vs : List V} {us : List Value} {zs : List V} {ws : List Value}, Vals vs us → Vals zs ws → Vals (gV vs zs) (g us ws))
    (h : ∀ (kV doc pm : Value) (an : Option Addr) (cdv ct : Value) (us ws : List Value), (g us ws).length = ps.length → bindArgs (PySem.W.fnOf x qual (defArgs st) (defBody st) (defScope st) .none kV doc pm an cdv ct) ⟨us, ks.zip ws⟩ = pure (ps.zip (g us ws))) : KBinds K fd ps ks g gV := by
  obtain ⟨oc, od, kV, doc, pm, an, cdv, ct, osl, rfl, lk, hcd⟩ := F.ex
  exact ⟨fun s us ws X hl => .of_eq (h kV doc pm an cdv ct us ws hl), hrel⟩
/-- two keywords, in the parameters' order, or turned; one -/
def g12 {α : Type} : List α → List α → List α | [], [a, b] => [a, b] | _, _ => []
def g21 {α : Type} : List α → List α → List α | [], [a, b] => [b, a] | _, _ => []
def g1 {α : Type} : List α → List α → List α | [], [a] => [a] | _, _ => []
theorem g12_inv {α : Type} {us ws : List α} (h : (g12 us ws).length = 2) : us = [] ∧ ∃ a b, ws = [a, b] := by
  match us, ws, h with
  | [], [a, b], _ => exact ⟨rfl, a, b, rfl⟩
  | [], [], h => exact absurd h (by simp [g12, g21, g1])
  | [], [_], h => exact absurd h (by simp [g12])
  | [], _ :: _ :: _ :: _, h => exact absurd h (by simp [g12])
  | _ :: _, _, h => exact absurd h (by simp [g12])
theorem g21_inv {α : Type} {us ws : List α} (h : (g21 us ws).length = 2) : us = [] ∧ ∃ a b, ws = [a, b] := by
  match us, ws, h with
  | [], [a, b], _ => exact ⟨rfl, a, b, rfl⟩
  | [], [], h => exact absurd h (by simp [g12, g21, g1])
  | [], [_], h => exact absurd h (by simp [g21])
  | [], _ :: _ :: _ :: _, h => exact absurd h (by simp [g21])
  | _ :: _, _, h => exact absurd h (by simp [g21])
theorem g1_inv {α : Type} {us ws : List α} (h : (g1 us ws).length = 1) : us = [] ∧ ∃ a, ws = [a] := by
  match us, ws, h with
  | [], [a], _ => exact ⟨rfl, a, rfl⟩
  | [], [], h => exact absurd h (by simp [g12, g21, g1])
  | [], _ :: _ :: _, h => exact absurd h (by simp [g1])
  | _ :: _, _, h => exact absurd h (by simp [g1])
theorem rel12 {vs : List V} {us : List Value} {zs : List V} {ws : List Value} (a : Vals vs us) (b : Vals zs ws) : Vals (g12 vs zs) (g12 us ws) := by
  cases a with
  | nil =>
    cases b with
    | nil => exact .nil
    | cons r b =>
      cases b with
      | nil => exact .nil
      | cons r2 b =>
        cases b with
        | nil => exact .cons r (.cons r2 .nil)
        | cons r3 b => exact .nil
  | cons r a => exact .nil
theorem rel21 {vs : List V} {us : List Value} {zs : List V} {ws : List Value} (a : Vals vs us) (b : Vals zs ws) : Vals (g21 vs zs) (g21 us ws) := by
  cases a with
  | nil =>
    cases b with
    | nil => exact .nil
    | cons r b =>
      cases b with
      | nil => exact .nil
      | cons r2 b =>
        cases b with
        | nil => exact .cons r2 (.cons r .nil)
        | cons r3 b => exact .nil
  | cons r a => exact .nil
theorem rel1 {vs : List V} {us : List Value} {zs : List V} {ws : List Value} (a : Vals vs us) (b : Vals zs ws) : Vals (g1 vs zs) (g1 us ws) := by
  cases a with
  | nil =>
    cases b with
    | nil => exact .nil
    | cons r b =>
      cases b with
      | nil => exact .cons r .nil
      | cons r3 b => exact .nil
  | cons r a => exact .nil
end
end My
namespace My
open PySem L2 PyProof.Rows
/-! ### methods, properties, __init__ of a class at C -/
section
variable {P : Program} {w : World} {K : PySem.W.Frag} {mg : Str → Option Value} {base : Heap} {C : Addr}
def DefM (K : PySem.W.Frag) (C : Addr) (x qual : Str) (st : Stmt) (ps : List Str) : Prop := ∃ (f : Addr) (fd : FuncData), Fun K x qual st f fd ∧ Meth K C x f ∧ Binds K fd ps []
def DefP (K : PySem.W.Frag) (C : Addr) (x qual : Str) (st : Stmt) (ps : List Str) : Prop := ∃ (p f : Addr) (fd : FuncData), Fun K x qual st f fd ∧ PropOf K C x p f ∧ Binds K fd ps []
def DefI (K : PySem.W.Frag) (C : Addr) (x qual : Str) (st : Stmt) (ps : List Str) : Prop := ∃ (f : Addr) (fd : FuncData), Fun K x qual st f fd ∧ Mk K C f ∧ Binds K fd ps []
def GoodM (P : Program) (w : World) (K : PySem.W.Frag) (mg : Str → Option Value) (base : Heap) (C : Addr) (x qual : Str) (st : Stmt) (ps : List Str) (k : Nat) (sp : Sp) : Prop := ∃ (f : Addr) (fd : FuncData), FnOk P w K mg base CX0 k f fd ps sp ∧ Meth K C x f ∧ Binds K fd ps [] ∧ Fun K x qual st f fd
def GoodP (P : Program) (w : World) (K : PySem.W.Frag) (mg : Str → Option Value) (base : Heap) (C : Addr) (x _qual : Str) (_st : Stmt) (ps : List Str) (k : Nat) (sp : Sp) : Prop := ∃ (p f : Addr) (fd : FuncData), FnOk P w K mg base CX0 k f fd ps sp ∧ PropOf K C x p f ∧ Binds K fd ps []
def GoodI (P : Program) (w : World) (K : PySem.W.Frag) (mg : Str → Option Value) (base : Heap) (C : Addr) (x _qual : Str) (_st : Stmt) (ps : List Str) (k : Nat) (sp : Sp) : Prop := ∃ (f : Addr) (fd : FuncData), FnOk P w K mg base CX0 k f fd ps sp ∧ Mk K C f ∧ Binds K fd ps []
theorem DefM.good {x qual : Str} {st : Stmt} {ps : List Str} {k : Nat} {sp : Sp} (D : DefM K C x qual st ps) (h : ∀ f fd, Fun K x qual st f fd → FnOk P w K mg base CX0 k f fd ps sp) : GoodM P w K mg base C x qual st ps k sp := by
  obtain ⟨f, fd, F, m, b⟩ := D
  exact ⟨f, fd, h f fd F, m, b, F⟩
theorem DefP.good {x qual : Str} {st : Stmt} {ps : List Str} {k : Nat} {sp : Sp} (D : DefP K C x qual st ps) (h : ∀ f fd, Fun K x qual st f fd → FnOk P w K mg base CX0 k f fd ps sp) : GoodP P w K mg base C x qual st ps k sp := by
  obtain ⟨p, f, fd, F, m, b⟩ := D
  exact ⟨p, f, fd, h f fd F, m, b⟩
theorem DefI.good {x qual : Str} {st : Stmt} {ps : List Str} {k : Nat} {sp : Sp} (D : DefI K C x qual st ps) (h : ∀ f fd, Fun K x qual st f fd → FnOk P w K mg base CX0 k f fd ps sp) : GoodI P w K mg base C x qual st ps k sp := by
  obtain ⟨f, fd, F, m, b⟩ := D
  exact ⟨f, fd, h f fd F, m, b⟩
end
def g123 {α : Type} : List α → List α → List α | [], [a, b, c] => [a, b, c] | _, _ => []
theorem g123_inv {α : Type} {us ws : List α} (h : (g123 us ws).length = 3) : us = [] ∧ ∃ a b c, ws = [a, b, c] := by
  unfold g123 at h
  split at h
  · exact ⟨rfl, _, _, _, rfl⟩
  · simp at h
theorem rel123 {vs : List V} {us : List Value} {zs : List V} {ws : List Value} (a : Vals vs us) (b : Vals zs ws) : Vals (g123 vs zs) (g123 us ws) := by
  cases a with
  | cons h t => exact .nil
  | nil => cases b with
    | nil => exact .nil
    | cons h1 t => cases t with
      | nil => exact .nil
      | cons h2 t => cases t with
        | nil => exact .nil
        | cons h3 t => cases t with
          | nil => exact .cons h1 (.cons h2 (.cons h3 .nil))
          | cons h4 t => exact .nil
/-- self, then one keyword -/
def gm1 {α : Type} : List α → List α → List α | [a], [b] => [a, b] | _, _ => []
theorem gm1_inv {α : Type} {us ws : List α} (h : (gm1 us ws).length = 2) : ∃ a b, us = [a] ∧ ws = [b] := by
  unfold gm1 at h
  split at h
  · exact ⟨_, _, rfl, rfl⟩
  · simp at h
theorem relm1 {vs : List V} {us : List Value} {zs : List V} {ws : List Value} (a : Vals vs us) (b : Vals zs ws) : Vals (gm1 vs zs) (gm1 us ws) := by
  cases a with
  | nil => exact .nil
  | cons h t => cases t with
    | cons h2 t => exact .nil
    | nil => cases b with
      | nil => exact .nil
      | cons h1 t => cases t with
        | nil => exact .cons h (.cons h1 .nil)
        | cons h2 t => exact .nil
/-! ### a list or a tuple, gone through -/
section
variable {X : Cx}
theorem pi_or {tg e : Expr} {w1 w2 : TI} (h1 : PI X tg e w1) (h2 : PI X tg e w2) : PI X tg e (fun σ H R => w1 σ H R ∨ w2 σ H R) := by
  constructor
  intro pins s σ H R I h
  rcases h with h | h
  · exact h1.run pins s σ H R I h
  · exact h2.run pins s σ H R I h
end
end My
/-! list(range(n)) -/
namespace My
open PySem PySem.Spec PyProof.Rows L2
section
variable {X : Cx}
theorem cr_range1 : CallR X (.type "range") (fun vs H Q => ∃ j, vs = [V.int j] ∧ ∀ p, H p = none → Q (.ref p) (upd H p (.rng 0 j))) := by
  intro pins s σ H vs us Q I r h
  obtain ⟨j, rfl, q⟩ := h
  obtain ⟨u1, rfl, ri⟩ := vals1 r
  obtain ⟨t, rfl⟩ := ri
  refine call_range_1 ⟨.ref s.heap.objs.size, upd H s.heap.objs.size (.rng 0 j), I.laid (t' := s.toks + 1 + 1) (fun b o e => Heap.get?_push_of_some _ e) (Nat.le_refl _) ?_, rfl, q _ (I.hok.fresh (Nat.le_refl _))⟩
  exact ⟨s.toks, t, s.toks + 1, Heap.get?_push_size _ rfl⟩
theorem call_listRng (hc : X.calm = true) : CallR X (.type "list") (fun xs H Q => ∃ (p : Addr) (n : Nat), xs = [.ref p] ∧ H p = some (.rng 0 (n : Int)) ∧ n ≤ 1000 ∧ ∀ q, H q = none → Q (.ref q) (upd H q (.lst ((List.range n).map fun i : Nat => V.int (i : Int))))) := by
  intro pins s σ H xs us Q I r h
  obtain ⟨p, n, e, hk, hn, q⟩ := h
  subst e
  obtain ⟨u, eu, rx⟩ := vals1 r
  subst eu
  obtain rfl : u = Value.ref p := rx
  obtain ⟨t1, t2, t3, ho⟩ := (show ObjOk X.prog X.w H s.heap p (.rng 0 (n : Int)) from I.hok p _ hk)
  refine call_list_range (n := n) (I.ok.hd hc) ho (small_one (by omega) (by omega) (by omega) (by omega)) (by rw [rangeSize_one]; split <;> omega) (by omega) fun h' tk items cap hkeep hS hacc => ?_
  refine ⟨.ref s.heap.objs.size, upd H s.heap.objs.size (.lst ((List.range n).map fun i : Nat => V.int (i : Int))), I.laid hkeep (Nat.le_refl _) (show ObjOk X.prog X.w _ _ _ (.lst ((List.range n).map fun i : Nat => V.int (i : Int))) from ⟨?_, items.toList, cap, ?_, ?_⟩), rfl, q _ (I.hok.fresh (Nat.le_refl _))⟩
  · rw [List.length_map, List.length_range]; exact Nat.le_trans hn (by decide)
  · have el : items.toList.length = n := by rw [Array.length_toList]; exact hacc.1
    refine vals_of_at (by rw [List.length_map, List.length_range, el]) fun j x z h1 h2 => ?_
    obtain ⟨t, e⟩ := hacc.2 j z (by rw [← Array.getElem?_toList]; exact h2)
    have hj : j < n := by rw [← el]; exact (List.getElem?_eq_some_iff.mp h2).1
    rw [List.getElem?_map, List.getElem?_range hj] at h1
    cases h1
    exact ⟨t, by rw [e]; simp⟩
  · rw [Array.toArray_toList]; exact hS
end
end My
namespace My
open PySem L2 PyProof.Rows
/-! ### == by an own __eq__, whatever it answers -/
section
variable {X : Cx}
theorem op_eqOwn {CX : CXT} {k : Nat} {C f : Addr} {fd : FuncData} {ps : List Str} {sp : Sp} {E : XK} (F : FnOk X.prog X.w X.K X.mg X.base CX k f fd ps sp) (hr : Room k X.A)
    (hs : PySem.W.findIn X.K (.ref C) "__eq__" = some (some (.ref f))) (hf : PySem.W.isFn X.K (.ref f) = true) (hb : Binds X.K fd ps []) (hx : Passes CX X E) :
    OpR X (compareOp .Eq) (fun x y H Q => ∃ a b dx dy fs gs, x = .ref a ∧ y = .ref b ∧ H a = some (.ins C dx fs) ∧ H b = some (.ins C dy gs) ∧ sp [x, y] H (fun v H' => ∃ c, v = .bl c ∧ Q (.bl c) H') E) := by
  intro pins s σ H x y v u Q I rx ry h
  obtain ⟨a, b, dx, dy, fs, gs, rfl, rfl, ha, hb', hsp⟩ := h
  cases rx
  cases ry
  show wpAny (model X.prog X.w) X.A (richCompare .Eq (.ref a) (.ref b)) (EP X pins σ Q) X.xe s
  obtain ⟨_, J, _⟩ := ins_get I.hok ha
  obtain ⟨_, J', _⟩ := ins_get I.hok hb'
  obtain ⟨_, J, _⟩ := J.look
  obtain ⟨_, J', _⟩ := J'.look
  obtain ⟨m, hF⟩ := I.fr
  refine PySem.W.cmp_K (op := .Eq) (tb := .ref C) hr.units0 hF I.ok.mod.kin J J'.type (by simp [PySem.W.notFirst]) hs hf ?_
  have vals : Vals [V.ref a, V.ref b] [Value.ref a, Value.ref b] := .cons rfl (.cons rfl .nil)
  have e0 : Env0 X.prog X.w X.K X.mg X.base X.A X.stack s H := I.env0
  have hl := F.len _ _ _ _ hsp
  refine wpAny_call (codeAny_mono (F.run X.A X.stack s H ⟨[.ref a, .ref b], []⟩ [.ref a, .ref b] [.ref a, .ref b] _ E hr e0 (by
    have bd := hb s [.ref a, .ref b] I.kIn (by simpa using hl)
    simpa using bd) vals hsp) fun r s' hq => ?_)
  cases r with
  | error e => exact hx pins σ H s e s' I hq
  | ok fl =>
    cases fl with
    | ret w =>
      obtain ⟨z, H', I', rz, c, ez, qz⟩ := I.after hq
      subst ez
      cases rz
      exact ⟨.bl c, H', I', rfl, qz⟩
    | next => exact False.elim hq
    | brk => exact False.elim hq
    | cont => exact False.elim hq
end
end My
namespace My
open PySem L2 PyProof.Rows PySem.W
/-! ### != of instances with an own __eq__ and the object's __ne__ -/
section
variable {prog : Program} {w : World} {A : Around} {E : Value → Shared → Prop} {s : Shared} {K : PySem.W.Frag} {x y C L f : Addr} {h₀ : Heap} {m : Str → Option Value} {ox : Obj} {od : Option Obj}
theorem check_ne {Q : Unit → Shared → Prop} (X : K.In s.heap) (I : PySem.W.InstAt s.heap x ox C od) (hm : PySem.W.mroIn K C (.type "object") = some true) (hq : Q () s) :
    wpAny (model prog w) A (checkBuiltinCall "object.__ne__" ⟨[.ref x, .ref y], []⟩) Q E s := by
  have L1 := PySem.W.looks_mroIn (M := model prog w) X hm
  simp only [checkBuiltinCall, F.cmpKind_ne, F.cmpSplit_ne]
  refine wpAny_bind ?_
  unfold isInstance
  refine wpAny_bind (I.type.here (L1.here ?_))
  simp only [Bool.not_true, Bool.false_eq_true, if_false]
  exact wpAny_pure hq
theorem entry_ne {Q : Fin → Shared → Prop} (hu : A.units < cLine) (X : K.In s.heap) (I : PySem.W.InstAt s.heap x ox C od) (hs : PySem.W.findIn K (.ref C) "__eq__" = some (some (.ref f))) (hf : PySem.W.isFn K (.ref f) = true)
    (hcall : wpAny (model prog w) A (call (.ref f) [.ref x, .ref y]) (fun v s' => ∃ b, v = .bool b ∧ Q (.done (.ret (.bool (!b)))) s') E s) :
    wpAny (model prog w) A (Builtin.«object.__ne__» ⟨[.ref x, .ref y], []⟩) Q E s := by
  unfold Builtin.«object.__ne__»
  repeat (first
    | with_reducible refine wpAny_cRoomFor hu ?_
    | (refine wpAny_bind (m := callSpecialIfBound? (.ref x) (Str.ofString "__eq__") [.ref y])
        (PySem.W.ifBound_K X I hs hf (wpAny_mono hcall (fun r s' hr => by
          obtain ⟨b, rfl, hq⟩ := hr
          repeat (first | exact hq | exact wpAny_pure hq | exact wpAny_truthy_bool hq | (refine wpAny_bind (m := truthy (.bool _)) (wpAny_truthy_bool ?_)) | wp_step)) fun _ _ e => e)))
    | wp_step)
theorem try_ne {Q : Option Value → Shared → Prop} (hu : A.units + 1 < cLine) (X : K.In s.heap) (I : PySem.W.InstAt s.heap x ox C od) (hm : PySem.W.mroIn K C (.type "object") = some true) (hn : PySem.W.findIn K (.ref C) "__ne__" = some (some (.builtin "object.__ne__")))
    (hs : PySem.W.findIn K (.ref C) "__eq__" = some (some (.ref f))) (hf : PySem.W.isFn K (.ref f) = true)
    (hcall : wpAny (model prog w) A.in1 (call (.ref f) [.ref x, .ref y]) (fun v s' => ∃ b, v = .bool b ∧ Q (some (.bool (!b))) s') E s) :
    wpAny (model prog w) A (tryCompare (.ref x) "__ne__" (.ref y)) Q E s := by
  have S := F.cmp_object.ne
  have one : wpAny (model prog w) A (callSpecialIfBound? (.ref x) "__ne__" [.ref y]) (fun r s' => ∃ b, r = some (.bool b) ∧ Q (some (.bool b)) s') E s := by
    simp only [callSpecialIfBound?, bindSpecialIfBound?]
    refine wpAny_holding (wpAny_bind (wpAny_bind (wpAny_bind (I.type.here ((PySem.W.looks_findIn X hn).here ?_)))))
    simp only [S.bind]
    refine wpAny_bind (wpAny_askSetting (wpAny_ite ?_))
    have fin : wpAny (model prog w) A (call (.builtin "object.__ne__") ([.ref x] ++ [.ref y]) >>= fun v => pure (some v)) (fun r s' => ∃ b, r = some (.bool b) ∧ Q (some (.bool b)) s') E s := by
      refine wpAny_bind (wpAny_call (codeAny_call_builtin S.plain F.cmpEntry_ne (check_ne X I hm (entry_ne (A := A.in1) hu X I hs hf (wpAny_mono hcall (fun v s' hv => ?_) fun _ _ e => e)))))
      obtain ⟨b, rfl, hq⟩ := hv
      exact ⟨b, rfl, wpAny_pure ⟨_, rfl, hq⟩⟩
    split
    · exact wpAny_bind (wpAny_pure (wpAny_pure fin))
    · exact wpAny_tryCatch (wpAny_bind (wpAny_pure (wpAny_pure fin)))
  unfold tryCompare
  refine wpAny_bind (wpAny_mono one (fun v s' hv => ?_) fun _ _ e => e)
  obtain ⟨b, rfl, hq⟩ := hv
  exact wpAny_pure hq
theorem ne_own {Q : Value → Shared → Prop} {oy : Obj} {odY : Option Obj} (hu : A.units + 1 < cLine) (X : K.In s.heap) (I : PySem.W.InstAt s.heap x ox C od) (J : PySem.W.InstAt s.heap y oy C odY) (hm : PySem.W.mroIn K C (.type "object") = some true) (hn : PySem.W.findIn K (.ref C) "__ne__" = some (some (.builtin "object.__ne__")))
    (hs : PySem.W.findIn K (.ref C) "__eq__" = some (some (.ref f))) (hf : PySem.W.isFn K (.ref f) = true)
    (hcall : wpAny (model prog w) A.in1 (call (.ref f) [.ref x, .ref y]) (fun v s' => ∃ b, v = .bool b ∧ Q (.bool (!b)) s') E s) :
    wpAny (model prog w) A (richCompare .NotEq (.ref x) (.ref y)) Q E s := by
  unfold richCompare
  simp only [oneThing_ref]
  refine wpAny_holding ?_
  refine wpAny_bind (wpAny_cRoomFor (Nat.lt_of_succ_lt hu) ?_)
  rw [cmpInfo_NotEq]
  dsimp only
  refine wpAny_bind (I.type.here (wpAny_bind (J.type.here ?_)))
  rw [show (Value.ref C != Value.ref C) = false from by simp]
  simp only [Bool.false_eq_true, if_false]
  refine wpAny_bind (wpAny_pure ?_)
  simp only [Bool.false_eq_true, if_false]
  refine wpAny_bind (try_ne hu X I hm hn hs hf (wpAny_mono hcall (fun v s' hv => ?_) fun _ _ e => e))
  obtain ⟨b, rfl, hq⟩ := hv
  exact ⟨b, rfl, wpAny_pure hq⟩
end
section
variable {X : Cx}
theorem op_neOwn {CX : CXT} {k : Nat} {C f : Addr} {fd : FuncData} {ps : List Str} {sp : Sp} {E : XK} (F : FnOk X.prog X.w X.K X.mg X.base CX k f fd ps sp) (hr : Room (k + 1) X.A) (hm : PySem.W.mroIn X.K C (.type "object") = some true) (hn : PySem.W.findIn X.K (.ref C) "__ne__" = some (some (.builtin "object.__ne__")))
    (hs : PySem.W.findIn X.K (.ref C) "__eq__" = some (some (.ref f))) (hf : PySem.W.isFn X.K (.ref f) = true) (hb : Binds X.K fd ps []) (hx : Passes CX X E) :
    OpR X (compareOp .NotEq) (fun x y H Q => ∃ a b dx dy fs gs, x = .ref a ∧ y = .ref b ∧ H a = some (.ins C dx fs) ∧ H b = some (.ins C dy gs) ∧ sp [x, y] H (fun v H' => ∃ c, v = .bl c ∧ Q (.bl (!c)) H') E) := by
  intro pins s σ H x y v u Q I rx ry h
  obtain ⟨a, b, dx, dy, fs, gs, rfl, rfl, ha, hb', hsp⟩ := h
  cases rx
  cases ry
  show wpAny (model X.prog X.w) X.A (richCompare .NotEq (.ref a) (.ref b)) (EP X pins σ Q) X.xe s
  obtain ⟨_, J, _⟩ := ins_get I.hok ha
  obtain ⟨_, J', _⟩ := ins_get I.hok hb'
  obtain ⟨_, J, _⟩ := J.look
  obtain ⟨_, J', _⟩ := J'.look
  have hu : X.A.units + 1 < cLine := hu_of hr
  refine ne_own hu I.kIn J J' hm hn hs hf ?_
  have vals : Vals [V.ref a, V.ref b] [Value.ref a, Value.ref b] := .cons rfl (.cons rfl .nil)
  have e0 : Env0 X.prog X.w X.K X.mg X.base X.A.in1 X.stack s H := I.env0.in1
  have hl := F.len _ _ _ _ hsp
  refine wpAny_call (codeAny_mono (F.run X.A.in1 X.stack s H ⟨[.ref a, .ref b], []⟩ [.ref a, .ref b] [.ref a, .ref b] _ E hr.in1 e0 (by
    have bd := hb s [.ref a, .ref b] I.kIn (by simpa using hl)
    simpa using bd) vals hsp) fun r s' hq => ?_)
  cases r with
  | error e => exact hx pins σ H s e s' I hq
  | ok fl =>
    cases fl with
    | ret w =>
      obtain ⟨z, H', I', rz, c, ez, qz⟩ := I.after hq
      subst ez
      cases rz
      exact ⟨c, rfl, .bl (!c), H', I', rfl, qz⟩
    | next => exact False.elim hq
    | brk => exact False.elim hq
    | cont => exact False.elim hq
/-- == of an instance with an own __eq__ and a dict -/
theorem op_eqDict {CX : CXT} {k : Nat} {C f : Addr} {fd : FuncData} {ps : List Str} {sp : Sp} {E : XK} (F : FnOk X.prog X.w X.K X.mg X.base CX k f fd ps sp) (hr : Room k X.A)
    (hs : PySem.W.findIn X.K (.ref C) "__eq__" = some (some (.ref f))) (hf : PySem.W.isFn X.K (.ref f) = true) (hnf : PySem.W.notFirst X.K C (.type "dict") = true) (hb : Binds X.K fd ps []) (hx : Passes CX X E) :
    OpR X (compareOp .Eq) (fun x y H Q => ∃ a d dx fs kvs, x = .ref a ∧ y = .ref d ∧ H a = some (.ins C dx fs) ∧ H d = some (.dK kvs) ∧ sp [x, y] H (fun v H' => ∃ c, v = .bl c ∧ Q (.bl c) H') E) := by
  intro pins s σ H x y v u Q I rx ry h
  obtain ⟨a, b, dx, fs, kvs, rfl, rfl, ha, hb', hsp⟩ := h
  cases rx
  cases ry
  show wpAny (model X.prog X.w) X.A (richCompare .Eq (.ref a) (.ref b)) (EP X pins σ Q) X.xe s
  obtain ⟨_, J, _⟩ := ins_get I.hok ha
  obtain ⟨_, J, _⟩ := J.look
  obtain ⟨_, _, _, _, ob, es, ep, e, ⟨hcls, _⟩, _⟩ := (show ObjOk X.prog X.w H s.heap b (.dK kvs) from I.hok b _ hb')
  have hty : PySem.W.Looks (model X.prog X.w) s.heap (typeOf (.ref b)) (.type "dict") := hcls ▸ (PySem.W.Looks.ld e).andThen .now
  obtain ⟨m, hF⟩ := I.fr
  refine PySem.W.cmp_K (op := .Eq) (tb := .type "dict") hr.units0 hF I.ok.mod.kin J hty hnf hs hf ?_
  have vals : Vals [V.ref a, V.ref b] [Value.ref a, Value.ref b] := .cons rfl (.cons rfl .nil)
  have e0 : Env0 X.prog X.w X.K X.mg X.base X.A X.stack s H := I.env0
  have hl := F.len _ _ _ _ hsp
  refine wpAny_call (codeAny_mono (F.run X.A X.stack s H ⟨[.ref a, .ref b], []⟩ [.ref a, .ref b] [.ref a, .ref b] _ E hr e0 (by
    have bd := hb s [.ref a, .ref b] I.kIn (by simpa using hl)
    simpa using bd) vals hsp) fun r s' hq => ?_)
  cases r with
  | error e => exact hx pins σ H s e s' I hq
  | ok fl =>
    cases fl with
    | ret w =>
      obtain ⟨z, H', I', rz, c, ez, qz⟩ := I.after hq
      subst ez
      cases rz
      exact ⟨.bl c, H', I', rfl, qz⟩
    | next => exact False.elim hq
    | brk => exact False.elim hq
    | cont => exact False.elim hq
def tMethKK (C : Addr) (m : Str) (sp : Sp) (gV : List V → List V → List V) (E : XK) (ta : TE) (tk : TA) : TE := fun σ H Q => ta σ H fun x H1 => ∃ a dx fs, x = .ref a ∧ H1 a = some (.ins C dx fs) ∧ fs.lookup m = none ∧ tk σ H1 fun zs H2 => sp (gV [x] zs) H2 Q E
/-- o.m(a=.., b=..) -/
theorem pe_methKK {CX : CXT} {k : Nat} {f C : Addr} {fd : FuncData} {ps ks : List Str} {sp : Sp} {E : XK} {m : Str} {pos apos : Pos} {o : Expr} {kws : List Keyword} {ta : TE} {tk : TA} {g : List Value → List Value → List Value} {gV : List V → List V → List V} {pl : Sem Bool} (he : PE X o ta) (c : Cls X.K C) (hm : Meth X.K C m f) (F : FnOk X.prog X.w X.K X.mg X.base CX k f fd ps sp) (hr : Room k X.A) (hb : KBinds X.K fd ps ks g gV) (hx : Passes CX X E)
    (hkw : PK X kws tk) (hall : (backToKw pos (keywordEach kws X.env)).all (·.1.isSome) = true := by rfl) (hks : (backToKw pos (keywordEach kws X.env)).filterMap (·.1) = ks := by rfl)
    (hpl : ((backTo pos (starEach [] X.env)).any (·.1) || (backToKw pos (keywordEach kws X.env)).any (·.1.isNone)) = false := by rfl)
    (ht : eval (.Call (.Attribute o m apos) [] kws pos) X.env = (do
      let ov ← eval o X.env
      standAt apos.atName
      let (f, first) ← holding [ov] (getMethod ov m pl)
      callWith pos f first (backTo pos (starEach [] X.env)) (backToKw pos (keywordEach kws X.env))) := by rfl) :
    PE X (.Call (.Attribute o m apos) [] kws pos) (tMethKK C m sp gV E ta tk) := by
  refine ⟨fun pins s σ H Q I h => ?_⟩
  refine PySem.W.methodCall_KW (pl := pl) (thn (he.run pins s σ H _ I h) fun u s1 ⟨x, H1, I1, rx, a, dx, fs, ex, ea, l, q⟩ => ?_) ht
  subst ex
  obtain rfl : u = Value.ref a := rx
  refine getmeth_ok I1 ea c hm l ?_
  refine PySem.W.callWith_KW0 (first := [.ref a]) (h₀ := X.base) I.ok.mod.kin hm.kp hall (thn (hkw.run pos pins s1 σ H1 _ I1 q) fun ws s2 ⟨zs, H2, I2, rz, q2⟩ => ⟨I2.kIn, ?_⟩) hpl
  rw [hks]
  exact run_fnk (us := [.ref a]) (vs := [.ref a]) F hr hb hx I2 (.cons rfl .nil) rz q2
end
end My
/-! enumerate(t), t a tuple -/
namespace My
open PySem PySem.Spec PyProof.Rows L2
open AutoSeq1 (wpAny_loadPart')
theorem enum_new_tup (q : Addr) (ys : Array Value) (m : Nat) (dc : Option Addr) (sl : Array (Option Value)) :
    Meets (Builtin.«enumerate.__new__» ⟨[.type "enumerate", .ref q], []⟩) (fun _ R s => s.heap.get? q = some { cls := .type "tuple", dict := dc, data := .seq ys m, slots := sl } ∧
      R (.ok (.ret (.ref (s.heap.push { cls := .type "tuple_iterator", data := .fields #[.ref q, .int 0 0] }).objs.size)))
        { s with heap := (s.heap.push { cls := .type "tuple_iterator", data := .fields #[.ref q, .int 0 0] }).push { cls := .type "enumerate", data := .fields #[.none, .bool false, .ref s.heap.objs.size, rawInt 0, .none, .none] } }) :=
  .of_wp fun prog w A R s k => by
    obtain ⟨hh, g, dr, tk, os⟩ := s
    obtain ⟨kq, k⟩ := k
    have hsub := sub_enumerate
    have hT : Heap.IsTuple (Shared.heap ⟨hh, g, dr, tk, os⟩) q ys := ⟨_, kq, rfl, m, rfl⟩
    wp_walk using wpAny_loadPart' kq
    refine wpAny_stack_any fun _ => wpAny_pure ?_
    split
    · rename_i c _ _ _ _ _
      cases (c == Value.type "enumerate") <;>
        (wp_walk using wpAny_loadPart' kq, wpAny_pyIter_tuple hT
         exact ⟨_, rfl, k⟩)
    · wp_walk using wpAny_loadPart' kq, wpAny_pyIter_tuple hT
      exact ⟨_, rfl, k⟩
section
variable {prog : Program} {w : World} {A : Around} {E : Value → Shared → Prop} {s : Shared}
theorem call_enum_tup {q : Addr} {ys : Array Value} {Q : Value → Shared → Prop} (hT : s.heap.IsTuple q ys)
    (k : ∀ h', IsEnum h' (s.heap.objs.size + 1) s.heap.objs.size 0 .none → h'.IsTupleIter s.heap.objs.size q 0 → h'.objs.size = s.heap.objs.size + 2 →
      (∀ b o, s.heap.get? b = some o → h'.get? b = some o) → Q (.ref (s.heap.objs.size + 1)) { s with heap := h' }) :
    wpAny (model prog w) A (call (.type "enumerate") [.ref q]) Q E s := by
  obtain ⟨⟨cl, dc, dt, sl⟩, kq, ec, m, ed⟩ := hT
  cases (show cl = .type "tuple" from ec)
  cases (show dt = .seq ys m from ed)
  refine callType_new F.called_enumerate (by decide) (F.typeCall_enumerate_1 _) (F.newCall_enumerate_1 _) (fun obj => F.args_object_init_2 obj _) F.entry_enumerate_new
    (enum_new_tup q ys m dc sl) ⟨kq, ?_⟩
  have z1 : (s.heap.push { cls := .type "tuple_iterator", data := .fields #[.ref q, .int 0 0] }).objs.size = s.heap.objs.size + 1 := Heap.size_push ..
  show _ ∧ _
  rw [z1]
  have he : IsEnum ((s.heap.push { cls := .type "tuple_iterator", data := .fields #[.ref q, .int 0 0] }).push
      { cls := .type "enumerate", data := .fields #[.none, .bool false, .ref s.heap.objs.size, rawInt 0, .none, .none] }) (s.heap.objs.size + 1) s.heap.objs.size 0 .none := by
    have z2 := Heap.get?_push_size (s.heap.push { cls := .type "tuple_iterator", data := .fields #[.ref q, .int 0 0] })
      (o := { cls := .type "enumerate", data := .fields #[.none, .bool false, .ref s.heap.objs.size, rawInt 0, .none, .none] }) rfl
    rwa [z1] at z2
  exact ⟨⟨_, he, rfl⟩, k _ he ⟨_, Heap.get?_push_of_some _ (Heap.get?_push_size _ rfl), rfl, rfl⟩ (by rw [Heap.size_push, z1]) fun b o x => Heap.get?_push_of_some _ (Heap.get?_push_of_some _ x)⟩
end
/-- the tuple at a, each item in a new pair -/
def Ity (K : PySem.W.Frag) (a : Addr) : It :=
  ⟨fun i H => ∃ (xs : List V) (x : V), SqT K H a xs ∧ xs[i]? = some x, fun i H v H' => ∃ T x, v = .ref T ∧ H T = none ∧ H' = upd H T (.tup [.int (i : Nat), x]) ∧ ∀ xs, SqT K H a xs → xs[i]? = some x, fun i H => ∃ xs : List V, SqT K H a xs ∧ xs.length = i⟩
theorem walk_enumT {K : PySem.W.Frag} {a : Addr} {xs : List V} : Walk (Ity K a) xs.length (fun H => SqT K H a xs) (YPair (fun i => some (.int (i : Nat))) (fun i => xs[i]?)) := by
  refine ⟨fun i _ hi q => ⟨xs, xs[i], q, List.getElem?_eq_getElem hi⟩, fun _ q => ⟨xs, q, rfl⟩, fun i H v H' _ q y => ?_⟩
  obtain ⟨T, x, y1, y2, y3, y4⟩ := y
  exact ⟨T, .int (i : Nat), x, y1, y2, y3, rfl, y4 xs q⟩
theorem turn_enumT {P : Program} {w : World} {K : PySem.W.Frag} {elts : List Expr} {kk : Nat} {tpos : Pos} (a e it : Addr) (nai : a ≠ it) (nea : e ≠ a) :
    Turn P w K (.Tuple elts kk tpos) (Ity K a) [e, it] e (fun i h => (∃ old, IsEnum h e it ((i : Nat) : Int) old) ∧ h.IsTupleIter it a i ∧ e ≠ it) where
  mem := by simp
  obj := fun i h st b hb => by
    obtain ⟨⟨old, he⟩, ⟨o, ho, hc, hd⟩, _⟩ := st
    rcases (show b = e ∨ b = it by simpa using hb) with z | z
    · subst z; exact ⟨_, he, fun v q => nomatch q⟩
    · subst z; exact ⟨o, ho, fun v q => by rw [hd] at q; cases q⟩
  keep := fun i h h' st k => let ⟨⟨old, he⟩, hi, hne⟩ := st; ⟨⟨old, k e (by simp) _ he⟩, hi.at fun o q => k it (by simp) o q, hne⟩
  item := by
    intro X hP hw hK hc i pins s σ H E I hf st hg
    subst hP hw hK
    obtain ⟨⟨old, he⟩, hit, hne⟩ := st
    obtain ⟨xs, x, hq, hx⟩ := hg
    obtain ⟨its, rv, p, hz⟩ := I.tuple hq
    obtain ⟨u, hu, ru⟩ := rv.get hx
    have le : e < s.heap.objs.size := Heap.lt_size he
    have li : it < s.heap.objs.size := by obtain ⟨_, q, _⟩ := hit; exact Heap.lt_size q
    have small : i < its.toArray.size := by
      have := (List.getElem?_eq_some_iff.mp hu).1
      simpa using this
    refine wpAny_pyNext_enum_itemD (Draws.tuple (A := X.A.in1) (I.ok.hd hc) it a nai its.toArray) he ⟨hit, (show s.heap.IsTuple a its.toArray from p)⟩ small hne (by simp [hne, nea]) fun x' h' tk hx' ho hst hT hsz hk => ?_
    have ex : x' = u := by
      have : its[i]? = some x' := by simpa using hx'
      rw [hu] at this
      exact (Option.some.inj this).symm
    subst ex
    obtain ⟨hst1, hst2⟩ := hst
    refine ⟨_, rfl, wpAny_letOwnedTupleGo_enum (s := { s with heap := h', toks := tk + 1 }) ho fun h2 he2 sb => ?_⟩
    have gT : h2.get? s.heap.objs.size = some { cls := .type "tuple", data := .seq #[.int i tk, x'] } := (sb.2 _ (Nat.ne_of_gt le)).trans hT
    have okT : ObjOk X.prog X.w (upd H s.heap.objs.size (.tup [.int (i : Nat), x])) h2 s.heap.objs.size (.tup [.int (i : Nat), x]) :=
      ⟨by show 2 ≤ sizeLine; decide, [.int i tk, x'], .cons ⟨_, rfl⟩ (.cons ru .nil), ⟨_, gT, rfl, _, rfl⟩⟩
    have I2 : Inv X pins σ (upd H s.heap.objs.size (.tup [.int (i : Nat), x])) { s with heap := h2, toks := tk + 1 } :=
      I.turnedNew (t' := tk + 1) (ch := [e, it]) (fun b ob hb q => (sb.2 b (fun z => hb (by simp [z]))).trans (hk b ob (fun z => hb (by simp [z])) (fun z => hb (by simp [z])) q)) hf (Nat.le_refl _) okT
    refine ⟨.ref s.heap.objs.size, _, I2, rfl, ⟨_, x, rfl, I.hok.fresh (Nat.le_refl _), rfl, fun ys hy => by rw [I.tuple_inj hy hq]; exact hx⟩, ⟨⟨x', ?_⟩, hst1.at fun o q => (sb.2 it (Ne.symm hne)).trans q, hne⟩, fun b hb => ?_⟩
    · rw [show ((i + 1 : Nat) : Int) = (i : Int) + 1 by omega]
      exact he2
    · have lb : b < s.heap.objs.size := by
        rcases (show b = e ∨ b = it by simpa using hb) with z | z
        · rw [z]; exact le
        · rw [z]; exact li
      rw [upd_ne (Nat.ne_of_lt lb)]
      exact (hf b hb).1
  done := by
    intro X hP hw hK hc i pins s σ H E I hf st hg
    subst hP hw hK
    obtain ⟨⟨old, he⟩, hit, hne⟩ := st
    obtain ⟨xs, hq, hx⟩ := hg
    obtain ⟨its, rv, p, hz⟩ := I.tuple hq
    obtain ⟨f0, f1, f2, f3, f4, f5⟩ := hf it (by simp)
    have hl := rv.length
    have hsz : i = its.toArray.size := by
      rw [List.size_toArray]
      omega
    rw [hsz] at hit
    exact wpAny_pyNext_enum_endD (Draws.tuple (A := X.A.in1) (I.ok.hd hc) it a nai its.toArray) he ⟨hit, (show s.heap.IsTuple a its.toArray from p)⟩ fun h' eb => ⟨rfl, I.turned (t' := s.toks) (fun b o hb e => eb b o hb e) f0 f1 f3 f4 f5⟩
  self := fun A i s Q E st h => let ⟨⟨_, he⟩, _⟩ := st; wpAny_pyIter_enum he h
def iEnumT (K : PySem.W.Frag) (ta : TA) : TI := fun σ H R => ta σ H fun vs H1 => ∃ a xs, vs = [.ref a] ∧ SqT K H1 a xs ∧ R (Ity K a) H1
theorem pi_enumT {X : Cx} {e : Expr} {ta : TA} {p pos tpos : Pos} {elts : List Expr} {kk : Nat} (hg : Gl X "enumerate") (hm : X.mg "enumerate" = none) (ha : PA X [e] ta) (hs : starEach [e] X.env = [(false, eval e X.env)] := by rfl) :
    PI X (.Tuple elts kk tpos) (.Call (.Name "enumerate" p) [e] [] pos) (iEnumT X.K ta) := by
  constructor
  intro pins s σ H R I h
  refine Call_ (ld_blt I hg hm boot_enumerate (PyProof.Rows.callWith_type1 (thn (ha.run pos pins s σ H _ I h) fun us s1 ⟨vs, H1, I1, r1, q1⟩ => ?_) hs rfl))
  obtain ⟨a, xs, rfl, hq, q⟩ := q1
  obtain rfl := Vals.ref1 r1
  obtain ⟨its, rv, p', hz⟩ := I1.tuple hq
  have la : a < s1.heap.objs.size := by obtain ⟨_, z, _⟩ := p'; exact Heap.lt_size z
  refine call_enum_tup (show s1.heap.IsTuple a its.toArray from p') fun h' he hit hsz hk => wpAny_pyIter_enum he ?_
  have I2 : Inv X pins σ H1 { s1 with heap := h' } := I1.kept (t' := s1.toks) hk
  refine ⟨s1.heap.objs.size + 1, [s1.heap.objs.size + 1, s1.heap.objs.size], _, _, H1, rfl, I2, turn_enumT a (s1.heap.objs.size + 1) s1.heap.objs.size (Nat.ne_of_lt la) (Nat.ne_of_gt (Nat.lt_succ_of_lt la)), ⟨⟨.none, he⟩, hit, Nat.succ_ne_self _⟩, fun b hb => ?_, q⟩
  have hle : s1.heap.objs.size ≤ b := by
    rcases (show b = s1.heap.objs.size + 1 ∨ b = s1.heap.objs.size by simpa using hb) with z | z
    · rw [z]; exact Nat.le_succ _
    · rw [z]; exact Nat.le_refl _
  exact I1.fpOk hle (I1.hok.fresh hle)
end My
namespace My
open PySem PySem.W L2 L2.DX PyProof.Rows
/-! ### d.items() of a dict by texts, sorted -/
section
variable {X : Cx}
def rItemsK : V → List V → Hp → VK → Prop := fun x xs H Q => ∃ (a : Addr) (kvs : List (Key × V)), x = .ref a ∧ xs = [] ∧ H a = some (.dK kvs) ∧ ∀ p, H p = none → Q (.ref p) (upd H p (itemsO p a))
theorem mt_itemsK : MtR X "dict.items" rItemsK := by
  intro pins s σ H x xs v us Q I rx rxs h
  obtain ⟨d, kvs, rfl, rfl, hd0, q⟩ := h
  cases rx
  cases rxs
  obtain ⟨_, hd, vs, rel, dof⟩ := dk_of I.hok hd0
  obtain ⟨es, ep, raw, _, _⟩ := PySem.Heap.DictOf.raw dof
  exact DT.callItems (es := es) (ep := ep) hd raw ⟨.ref s.heap.objs.size, upd H s.heap.objs.size (itemsO s.heap.objs.size d), I.laid (t' := s.toks) (fun b u e => Heap.get?_push_of_some _ e) (Nat.le_refl _) (itemsO_ok (Heap.get?_push_size _ rfl)), rfl, q _ (I.hok.fresh (Nat.le_refl _))⟩
/-- an entry: a text and a number -/
abbrev entSI (e : Str × Int) : Key × V := (Sum.inr e.1, .int e.2)
abbrev encSI (e : Str × Int) : PyData := .tuple [.str e.1, .int e.2]
theorem kv_at : ∀ {kvs : List (Key × V)} {vs : List (Key × Value)}, KV kvs vs → ∀ {j : Nat} {p : Key × V}, kvs[j]? = some p → ∃ q, vs[j]? = some q ∧ p.1 = q.1 ∧ RelV p.2 q.2
  | _, _, .nil, _, _, h => by simp at h
  | _, _, .cons r _, 0, _, h => by
    cases h
    exact ⟨_, rfl, r⟩
  | _, _, .cons _ t, j + 1, p, h => by
    obtain ⟨q, h1, h2⟩ := kv_at t (j := j) (by simpa using h)
    exact ⟨q, by simpa using h1, h2⟩
theorem eachIs_of {α β : Type} {R : α → β → Prop} : ∀ {as : List α} {bs : List β}, as.length = bs.length → (∀ (j : Nat) (a : α) (b : β), as[j]? = some a → bs[j]? = some b → R a b) → PySem.W.EachIs R as bs
  | [], [], _, _ => .nil
  | [], _ :: _, h, _ => by simp at h
  | _ :: _, [], h, _ => by simp at h
  | a :: as, b :: bs, h, k => .cons (k 0 a b rfl rfl) (eachIs_of (by simpa using h) fun j x y hx hy => k (j + 1) x y (by simpa using hx) (by simpa using hy))
theorem encSI_alike (kvs : List (Str × Int)) : AllAlike (kvs.map encSI) := by
  intro d hd d' hd'
  obtain ⟨e, _, rfl⟩ := List.mem_map.mp hd
  obtain ⟨e', _, rfl⟩ := List.mem_map.mp hd'
  rfl
theorem encSI_sortable (kvs : List (Str × Int)) : Sortable (kvs.map encSI) := .tuples fun b => ⟨_, _, rfl⟩
theorem eachIs_refs {β : Type} {as : List Addr} {bs : List β} : ∀ {out : List Value} {cs : List β}, PySem.W.EachIs (fun v b => ∃ (j : Nat) (x : Addr), v = Value.ref x ∧ as[j]? = some x ∧ bs[j]? = some b) out cs →
    ∃ ts : List Addr, out = ts.map Value.ref ∧ Paired (fun (x : Addr) (b : β) => ∃ j : Nat, as[j]? = some x ∧ bs[j]? = some b) ts cs
  | _, _, .nil => ⟨[], rfl, .nil⟩
  | _, _, .cons h t => by
    obtain ⟨j, x, rfl, h1, h2⟩ := h
    obtain ⟨ts, rfl, hp⟩ := eachIs_refs t
    exact ⟨x :: ts, rfl, .cons ⟨j, h1, h2⟩ hp⟩
theorem paired_imp {α β : Type} {F G : α → β → Prop} (h : ∀ a b, F a b → G a b) : ∀ {l1 : List α} {l2 : List β}, Paired F l1 l2 → Paired G l1 l2
  | _, _, .nil => .nil
  | _, _, .cons a r => .cons (h _ _ a) (paired_imp h r)
theorem vals_refs : ∀ ts : List Addr, Vals (ts.map V.ref) (ts.map Value.ref)
  | [] => .nil
  | _ :: r => .cons rfl (vals_refs r)
/-- the told list is new, its pairs too -/
def rSortItK : List V → Hp → VK → Prop := fun vs H Q => ∃ (p a : Addr) (kvs : List (Str × Int)), vs = [.ref p] ∧ H p = some (itemsO p a) ∧ H a = some (.dK (kvs.map entSI)) ∧ kvs.length ≤ 100000 ∧
  ∀ (H' : Hp) (l : Addr) (ts : List Addr), (∀ b o, H b = some o → H' b = some o) → H l = none → H' l = some (.lst (ts.map V.ref)) → Paired (fun t (e : Str × Int) => H' t = some (.tup [.str e.1, .int e.2])) ts (kvs.mergeSort (dataLe false encSI)) → Q (.ref l) H'
theorem cr_sortItK (hc : X.calm = true) (hu : X.A.units + 64 < cLine) : CallR X (.builtin "sorted") rSortItK := by
  intro pins s σ H xs us Q I r h
  obtain ⟨p, a, kvs, rfl, hp, ha, hlen, q⟩ := h
  obtain rfl := Vals.ref1 r
  have vw : s.heap.IsItemsView p a := by
    have z : ObjOk X.prog X.w H s.heap p (itemsO p a) := I.hok p _ hp
    exact z.1
  obtain ⟨_, hd, vs, rel, dof⟩ := dk_of I.hok ha
  obtain ⟨es, ep, raw, hsz, hent⟩ := PySem.Heap.DictOf.raw dof
  have l1 : vs.length = kvs.length := by
    have := Paired.length rel
    rw [List.length_map] at this
    exact this.symm
  have small : kvs.length ≤ sizeLine := Nat.le_trans hlen (by decide)
  refine DT.sortedI (es := es) (ep := ep) (I.ok.hd hc) vw raw (by rw [hsz, l1]; exact small) fun h' tk as kpt hlt hl mde => ?_
  have lak : as.length = kvs.length := by rw [hl, hsz, l1]
  have nod : as.Nodup := List.Pairwise.imp (fun h => Nat.ne_of_lt h) mde.rise
  have pr : ∀ (j : Nat) (b : Addr), as[j]? = some b → ∃ (e : Str × Int) (t t' : Tok), kvs[j]? = some e ∧ h'.get? b = some { cls := .type "tuple", data := .seq #[Value.str e.1 t, Value.int e.2 t'] } := fun j b ej => by
    obtain ⟨en, ee, gh⟩ := mde.pairs j b ej
    have hj2 : j < es.size := (Array.getElem?_eq_some_iff.mp ee).1
    have hj3 : j < kvs.length := by rw [← l1, ← hsz]; exact hj2
    obtain ⟨⟨k, v⟩, g1, g2, g3⟩ := kv_at rel (j := j) (p := entSI kvs[j]) (by rw [List.getElem?_map, List.getElem?_eq_getElem hj3]; rfl)
    obtain ⟨m1, m2⟩ := hent j hj2 k v g1
    have e1 : es[j] = en := (Array.getElem?_eq_some_iff.mp ee).2
    rw [e1] at m1 m2
    have g2' : k = Sum.inr kvs[j].1 := g2.symm
    subst g2'
    obtain ⟨t', ev⟩ : ∃ t', v = Value.int kvs[j].2 t' := g3
    rcases keyIs_shape (show keyIs (Sum.inr kvs[j].1) en.key = true from m1) with ⟨i, t, z, _⟩ | ⟨x, t, z, ek⟩
    · cases z
    · have ex : kvs[j].1 = x := Sum.inr.inj z
      refine ⟨kvs[j], t, t', List.getElem?_eq_getElem hj3, ?_⟩
      rw [gh, ek, m2, ev, ex]
  have gl : (h'.push { cls := .type "list", data := .seq (as.map Value.ref).toArray }).get? h'.objs.size = some (seqObj "list" (as.map Value.ref).toArray 0) := Heap.get?_push_size _ rfl
  have far : ∀ b o, h'.get? b = some o → b ≠ h'.objs.size := fun b o e => Nat.ne_of_lt (Heap.lt_size e)
  have kp : ∀ b o, h'.get? b = some o → (h'.push { cls := .type "list", data := .seq (as.map Value.ref).toArray }).get? b = some o := fun b o e => Heap.get?_push_of_some _ e
  generalize h'.push { cls := .type "list", data := .seq (as.map Value.ref).toArray } = h2 at gl kp ⊢
  have at_ : ∀ (j : Nat) (v : Value) (e : Str × Int), (as.map Value.ref)[j]? = some v → kvs[j]? = some e → ∃ b, v = .ref b ∧ as[j]? = some b := fun j v e hv _ => by
    rw [List.getElem?_map] at hv
    cases z : as[j]? with
    | none => rw [z] at hv; cases hv
    | some b => rw [z] at hv; exact ⟨b, (Option.some.inj hv).symm, rfl⟩
  refine list_sort_data (s := { s with heap := h2, toks := tk }) (R := fun v e => ∃ (j : Nat) (x : Addr), v = Value.ref x ∧ as[j]? = some x ∧ kvs[j]? = some e) (enc := encSI) (bs := kvs) gl (eachIs_of (by rw [List.length_map]; exact lak) fun j v e hv ee => ?_) (eachIs_of (by rw [List.length_map]; exact lak) fun j v e hv ee => ?_) (encSI_alike kvs) (encSI_sortable kvs) small (fun b _ => ?_) fun out ho1 ho2 => ?_
  · obtain ⟨b, e1, e2⟩ := at_ j v e hv ee
    exact ⟨j, b, e1, e2, ee⟩
  · obtain ⟨b, rfl, e2⟩ := at_ j v e hv ee
    obtain ⟨e', t, t', g1, g2⟩ := pr j b e2
    rw [ee] at g1
    cases g1
    exact ⟨[] ++ ([] ++ []), .tuple (kp _ _ g2) rfl rfl (.cons (.str _ _) (.cons (.int _ _) .nil)), by simp⟩
  · show X.A.units + 1 + 1 + 1 < cLine
    omega
  obtain ⟨ts, rfl, hts⟩ := eachIs_refs ho2
  show EP X pins σ Q (.ref h'.objs.size) { s with heap := sortedHeap h2 h'.objs.size (as.map Value.ref) (ts.map Value.ref).toArray, toks := tk }
  have kF : ∀ b o, b ≠ h'.objs.size → h2.get? b = some o → (sortedHeap h2 h'.objs.size (as.map Value.ref) (ts.map Value.ref).toArray).get? b = some o := fun b o hb e => (PyProof.Rows.sortedHeap_old hb (Heap.lt_size e)).trans e
  have kS : ∀ b o, s.heap.get? b = some o → (sortedHeap h2 h'.objs.size (as.map Value.ref) (ts.map Value.ref).toArray).get? b = some o := fun b o e => kF b o (far _ _ (kpt b o e)) (kp b o (kpt b o e))
  obtain ⟨eF, heF⟩ := PyProof.Rows.sortedHeap_at (vs := as.map Value.ref) (out := (ts.map Value.ref).toArray) gl
  generalize sortedHeap h2 h'.objs.size (as.map Value.ref) (ts.map Value.ref).toArray = hz at kF kS heF ⊢
  have free0 : H h'.objs.size = none := I.hok.fresh (Nat.le_of_lt hlt)
  have htl : (ts.map V.ref).length ≤ sizeLine := by
    rw [List.length_map] at ho1 ⊢
    rw [ho1]
    exact small
  have I2 : Inv X pins σ (upd H h'.objs.size (.lst (ts.map V.ref))) { s with heap := hz, toks := tk } :=
    (I.kept (t' := tk) kS).take (h' := hz) (t' := tk) (fun b ob _ e => e) (I.fpOk (Nat.le_of_lt hlt) free0) ⟨htl, ts.map Value.ref, eF, vals_refs ts, heF⟩
  obtain ⟨H2, I3, g, qt⟩ := takeT (P := fun b vs => ∃ (j : Nat) (e : Str × Int), as[j]? = some b ∧ kvs[j]? = some e ∧ vs = [.str e.1, .int e.2]) I as _ I2 nod fun b hb => by
    obtain ⟨j, ej⟩ := List.mem_iff_getElem?.mp hb
    obtain ⟨e, t, t', ee, gh⟩ := pr j b ej
    have big : s.heap.objs.size ≤ b := Nat.le_of_lt (mde.above b hb)
    refine ⟨big, by rw [upd_ne (far _ _ gh)]; exact I.hok.fresh big, [.str e.1, .int e.2], ⟨j, e, ej, ee, rfl⟩, fun H3 => ⟨(by show 2 ≤ sizeLine; decide), [Value.str e.1 t, Value.int e.2 t'], .cons ⟨t, rfl⟩ (.cons ⟨t', rfl⟩ .nil), ⟨_, kF _ _ (far _ _ gh) (kp _ _ gh), rfl, 0, rfl⟩⟩⟩
  refine ⟨.ref h'.objs.size, H2, I3, rfl, q H2 h'.objs.size ts (fun b o e => g b o (by rw [upd_ne (ne_of_none e free0)]; exact e)) free0 (g _ _ upd_same) (paired_imp (fun x e hx => ?_) hts)⟩
  obtain ⟨i, i1, i2⟩ := hx
  obtain ⟨vs', ⟨j, e', j1, j2, ev⟩, hH⟩ := qt x (List.mem_of_getElem? i1)
  have eqi : i = j := (List.getElem?_inj (List.getElem?_eq_some_iff.mp i1).1 nod).mp (i1.trans j1.symm)
  subst eqi
  rw [i2] at j2
  cases j2
  rw [ev] at hH
  exact hH
end
end My
namespace My
open PySem PySem.W L2 L2.DX PyProof.Rows
section
variable {X : Cx}
theorem dp_at {K : PySem.W.Frag} {H : Hp} : ∀ {ys : List V} {ds : List PyData}, DpAll K H ys ds → ∀ {j : Nat} {y : V} {d : PyData}, ys[j]? = some y → ds[j]? = some d → Dp K H y d
  | _, _, .nil, _, _, _, h, _ => by simp at h
  | _, _, .cons p _, 0, _, _, h, k => by
    cases h
    cases k
    exact p
  | _, _, .cons _ t, j + 1, _, _, h, k => dp_at t (j := j) (by simpa using h) (by simpa using k)
theorem dp_len {K : PySem.W.Frag} {H : Hp} : ∀ {ys : List V} {ds : List PyData}, DpAll K H ys ds → ys.length = ds.length
  | _, _, .nil => rfl
  | _, _, .cons _ t => congrArg Nat.succ (dp_len t)
theorem vals_at : ∀ {ys : List V} {us : List Value}, Vals ys us → ∀ {j : Nat} {u : Value}, us[j]? = some u → ∃ y, ys[j]? = some y ∧ RelV y u
  | _, _, .nil, _, _, h => by simp at h
  | _, _, .cons r _, 0, _, h => by
    cases h
    exact ⟨_, rfl, r⟩
  | _, _, .cons _ t, j + 1, _, h => by
    obtain ⟨y, h1, h2⟩ := vals_at t (j := j) (by simpa using h)
    exact ⟨y, by simpa using h1, h2⟩
theorem out_vals {ys : List V} {ds : List PyData} : ∀ {out : List Value} {cs : List PyData}, PySem.W.EachIs (fun v d => ∃ (j : Nat) (y : V), ys[j]? = some y ∧ ds[j]? = some d ∧ RelV y v) out cs →
    ∃ zs : List V, Vals zs out ∧ Paired (fun (z : V) (d : PyData) => ∃ j : Nat, ys[j]? = some z ∧ ds[j]? = some d) zs cs
  | _, _, .nil => ⟨[], .nil, .nil⟩
  | _, _, .cons h t => by
    obtain ⟨j, y, h1, h2, h3⟩ := h
    obtain ⟨zs, g1, g2⟩ := out_vals t
    exact ⟨y :: zs, .cons h3 g1, .cons ⟨j, h1, h2⟩ g2⟩
theorem vals_len : ∀ {ys : List V} {us : List Value}, Vals ys us → ys.length = us.length
  | _, _, .nil => rfl
  | _, _, .cons _ t => congrArg Nat.succ (vals_len t)
/-- sorted(xs), data of one shape: the items are set in sequence by what they are -/
def rSortD (K : PySem.W.Frag) : List V → Hp → VK → Prop := fun vs H Q => ∃ (a : Addr) (ys : List V) (ds : List PyData), vs = [.ref a] ∧ SqL K H a ys ∧ DpAll K H ys ds ∧ AllAlike ds ∧ Sortable ds ∧ (∀ d ∈ ds, d.depth ≤ 8) ∧ ys.length ≤ 100000 ∧
  ∀ (zs : List V) (p : Addr), Paired (fun (z : V) (d : PyData) => ∃ j : Nat, ys[j]? = some z ∧ ds[j]? = some d) zs (ds.mergeSort (dataLe false id)) → H p = none → Q (.ref p) (upd H p (.lst zs))
theorem cr_sortD (hu : X.A.units + 64 < cLine) : CallR X (.builtin "sorted") (rSortD X.K) := by
  intro pins s σ H xs us Q I r h
  obtain ⟨a, ys, ds, rfl, hs, hd, hal, hk, hdp, hlen, q⟩ := h
  obtain rfl := Vals.ref1 r
  obtain ⟨its, rv, pl, _⟩ := I.list hs
  have li : its.length = ds.length := by rw [← vals_len rv]; exact dp_len hd
  have small : ds.length ≤ sizeLine := by rw [← dp_len hd]; exact Nat.le_trans hlen (by decide)
  refine sorted_data (R := fun v d => ∃ (j : Nat) (y : V), ys[j]? = some y ∧ ds[j]? = some d ∧ RelV y v) (enc := id) (bs := ds) pl.isList (eachIs_of li fun j v d hv he => ?_) (eachIs_of li fun j v d hv he => ?_) (by rw [List.map_id]; exact hal) (by rw [List.map_id]; exact hk) small (fun d hdm => ?_) fun out ho1 ho2 => ?_
  · obtain ⟨y, g1, g2⟩ := vals_at rv hv
    exact ⟨j, y, g1, he, g2⟩
  · obtain ⟨y, g1, g2⟩ := vals_at rv hv
    exact Dp.reads I d y v (dp_at hd g1 he) g2
  · have := hdp d hdm
    show X.A.units + 2 + d.depth < cLine
    omega
  obtain ⟨zs, hz, hp⟩ := out_vals ho2
  obtain ⟨eF, heF⟩ := PyProof.Rows.sortedAll_at s.heap its out.toArray
  have hzl : zs.length ≤ sizeLine := by rw [vals_len hz, ho1]; exact small
  exact ⟨.ref (s.heap.objs.size + 1), upd H (s.heap.objs.size + 1) (.lst zs), I.laid (t' := s.toks) (fun _ _ => PyProof.Rows.sortedAll_old) (Nat.le_succ _) ⟨hzl, out, eF, hz, heF⟩, rfl, q zs _ hp (I.hok.fresh (Nat.le_succ _))⟩
end
end My
namespace My
open PySem L2 PyProof.Rows
theorem bl_is1 {x : Bool} {Q : VK} {H : Hp} (h : x = true) (q : Q (.bl true) H) : Q (.bl x) H := by
  rw [h]
  exact q
/-! ### a list that nobody asks for any more is forgotten -/
section
variable {X : Cx} {pins : List (Addr × Obj)} {σ : L2.St} {H1 H2 : Hp} {s : Shared} {D : Addr} {xs : List V}
theorem inv_drop (I : Inv X pins σ H1 s) (e : H1 = upd H2 D (.lst xs)) (n : H2 D = none) : Inv X pins σ H2 s := by
  subst e
  have off : ∀ b, upd H2 D (.lst xs) b = none → H2 b = none := fun b h => by
    by_cases hb : b = D
    · rw [hb]; exact n
    · rw [upd_ne hb] at h; exact h
  have back : ∀ b o, o ≠ HO.lst xs → upd H2 D (.lst xs) b = some o → H2 b = some o := fun b o ho h => by
    by_cases hb : b = D
    · subst hb
      rw [upd_same] at h
      exact absurd (Option.some.inj h).symm ho
    · rw [upd_ne hb] at h; exact h
  refine ⟨I.ok, I.os, I.bare, ?_, I.loc, I.cell, off _ I.free, fun x c h => off _ (I.freeC x c h), fun p hp => ?_, ?_, I.len⟩
  · have u := I.base
    refine ⟨u.keep, u.slot, fun b o h1 h2 h3 => off _ (u.free b o h1 h2 h3), u.there, fun b ys h => back _ _ (by intro z; cases z) (u.tups b ys h), fun b o v h => back _ _ (by intro z; cases z) (u.frzs b o v h), fun b ps h => ?_⟩
    obtain ⟨more, h⟩ := u.tbls b ps h
    exact ⟨more, back _ _ (by intro z; cases z) h⟩
  · obtain ⟨a, b, c⟩ := I.pin p hp
    exact ⟨a, off _ b, c⟩
  · intro a o h
    have ha : a ≠ D := fun z => by rw [z, n] at h; cases h
    refine (I.hok a o (by rw [upd_ne ha]; exact h)).stay (fun _ _ _ z => z) (fun b h => back _ _ (by intro z; cases z) h) (fun b ys h => back _ _ (by intro z; cases z) h)
theorem pe_drop {e : Expr} {te : TE} (he : PE X e te) : PE X e (fun σ H Q => te σ H fun v H1 => ∃ D xs H2, H1 = upd H2 D (.lst xs) ∧ H2 D = none ∧ Q v H2) := by
  refine ⟨fun pins s σ H Q I h => ?_⟩
  exact wpAny_mono (he.run pins s σ H _ I h) (fun u s1 ⟨v, H1, I1, r, D, xs, H2, e, n, q⟩ => ⟨v, H2, inv_drop I1 e n, r, q⟩) fun _ _ h => h
theorem ix_seqK {K : PySem.W.Frag} (h : X.K = K) : IxR X (rIx K) := h ▸ ix_seq
end
end My
namespace My
open PySem L2 PyProof.Rows
/-! ### contracts of defs that are called where nothing is being shown -/
structure FnG (P : Program) (w : World) (K : PySem.W.Frag) (mg : Str → Option Value) (base : Heap) (k : Nat) (f : Addr) (fd : FuncData) (ps : List Str) (sp : Sp) : Prop where
  len : ∀ vs H Q E, sp vs H Q E → vs.length = ps.length
  run : ∀ (A : Around) (outer : List Env) (s : Shared) (H : Hp) (args : Args) (us : List Value) (vs : List V) (Q : VK) (E : XK), Room k A → A.guards = some [] → Env0 P w K mg base A outer s H → BindsTo s fd args (ps.zip us) → Vals vs us → sp vs H Q E →
    codeAny (model P w) A (.call (.ref f) args) (CR CX0 outer P w H s Q E) s
section
variable {P : Program} {w : World} {K : PySem.W.Frag} {mg : Str → Option Value} {base : Heap}
theorem FnG.ofOk {k : Nat} {f : Addr} {fd : FuncData} {ps : List Str} {sp : Sp} (F : FnOk P w K mg base CX0 k f fd ps sp) : FnG P w K mg base k f fd ps sp :=
  ⟨F.len, fun A outer s H args us vs Q E hr _ he hb hv hs => F.run A outer s H args us vs Q E hr he hb hv hs⟩
theorem FnG.ofBody {x qual : Str} {st : Stmt} {f : Addr} {fd : FuncData} {N ps : List Str} {k : Nat} {sp : Sp} (F : Fun K x qual st f fd) (S : FnScope N ps (defScope st)) (len : ∀ vs H Q E, sp vs H Q E → vs.length = ps.length)
    (body : ∀ (cdv : Value) (A : Around) (outer : List Env) (s : Shared) (H : Hp) (vs : List V) (Q : VK) (E : XK), Room k (A.deeper (envOfC qual (defScope st) s.heap.objs.size f cdv)) → A.guards = some [] → sp vs H Q E →
      ∃ t, PSs (cxOf CX0 P w K mg base N qual (defScope st) f cdv A outer s H E).nox (defBody st) t ∧ t { nx := fun _ H' => Q .non H', rt := Q } (start N vs) H) : FnG P w K mg base (k + 1) f fd ps sp := by
  obtain ⟨oc, od, kV, doc, pm, an, cdv, ct, osl, rfl, lk, hcd⟩ := F.ex
  constructor
  · exact len
  intro A outer s H args us vs Q E room quiet env bound rel want
  have many := len _ _ _ _ want
  have inK : K.In s.heap := env.mod.kin.keeps (fun b o e => (env.bs b o e).1)
  have unlimited : s.heap.NoLimit := env.mod.nolimit.keeps (fun b o e => (env.bs b o e).1)
  have kinds : ∀ y ∈ ps.zip us, (defScope st).names.lookup y.1 = some .local ∨ ((defScope st).names.lookup y.1 = some .cell ∧ ((cellsFrom (s.heap.objs.size + 1) (defScope st).names []).lookup y.1).isSome = true) := by
    rintro ⟨n, v⟩ hy
    exact (S.par n (List.of_mem_zip hy).1).imp id (fun q => ⟨q, PySem.W.cellsFrom_some _ _ _ (.inl q)⟩)
  refine codeAny_call_function room.depth (inK _ _ lk) rfl S.co S.gen rfl (PySem.W.codeRec_of inK hcd) (bound _ _ _ _ (wpAny_newFunctionEnv_cells S.kind kinds ?_))
  rintro env' rfl s1 x
  obtain ⟨t, ht, hq⟩ := body cdv A outer s H vs Q E (room.deeper _) quiet want
  have I := inv_start (CX := CX0) (E := E) S room.hd env many rel x
  refine ⟨unlimited.keeps x.toInCall.keep, codeAny_func (wpAny_mono (ht.nox.run [] s1 (start N vs) H _ I hq) ?_ (fun _ _ h => h))⟩
  intro fl s' hs
  cases fl with
  | ret u =>
    obtain ⟨v, σ', H', J, rv, q⟩ := hs
    exact ⟨v, H', J.os, J.bare, J.base, J.hok, rv, q⟩
  | next =>
    obtain ⟨σ', H', J, q⟩ := hs
    exact ⟨V.non, H', J.os, J.bare, J.base, J.hok, (rfl : RelV V.non Value.none), q⟩
  | brk => exact hs.elim fun _ h => h.elim fun _ h => h.2.elim
  | cont => exact hs.elim fun _ h => h.elim fun _ h => h.2.elim
end
section
variable {X : Cx} {k : Nat} {f : Addr} {fd : FuncData} {ps ks : List Str} {sp : Sp} {ds : List Value} {x : Str} {p pos : Pos} {e : Expr} {es : List Expr} {kws : List Keyword} {t tk : TA} {g : List Value → List Value → List Value} {gV : List V → List V → List V}
theorem run_fnG {pins : List (Addr × Obj)} {σ : L2.St} {H : Hp} {s : Shared} {Q : VK} {us ws : List Value} {vs zs : List V} (F : FnG X.prog X.w X.K X.mg X.base k f fd ps sp) (hr : Room k X.A) (quiet : X.A.guards = some []) (hb : KBinds X.K fd ps ks g gV)
    (I : Inv X pins σ H s) (r : Vals vs us) (rz : Vals zs ws) (h : sp (gV vs zs) H Q E0) : wpAny (model X.prog X.w) X.A (call (.ref f) us (ks.zip ws)) (EP X pins σ Q) X.xe s := by
  have r2 := hb.rel r rz
  have many : (g us ws).length = ps.length := r2.length.symm.trans (F.len _ _ _ _ h)
  refine wpAny_call (codeAny_mono (F.run X.A X.stack s H _ _ _ Q E0 hr quiet I.env0 (hb.to s us ws I.kIn many) r2 h) ?_)
  rintro (e | fl) s' hq
  · exact False.elim hq
  cases fl with
  | ret u => exact I.after hq
  | next | brk | cont => exact hq.elim
/-- arguments by place alone -/
theorem KBinds.none {K : PySem.W.Frag} {fd : FuncData} {ps : List Str} (b : Binds K fd ps []) : KBinds K fd ps [] (fun us _ => us) (fun vs _ => vs) := by
  refine ⟨fun s us ws X hl => ?_, fun r _ => r⟩
  have := b s us X (by rw [List.append_nil]; exact hl)
  rw [List.append_nil] at this
  exact this
theorem pe_callG (F : FnG X.prog X.w X.K X.mg X.base k f fd ps sp) (hr : Room k X.A) (quiet : X.A.guards = some []) (hg : Gl X x) (hm : X.mg x = some (.ref f)) (hk : PySem.W.keepIn X.K (.ref f) = true) (hb : Binds X.K fd ps [])
    (ha : PA X (e :: es) t) (hdb : (x == ("__debug__" : Str)) = false := by decide) (he : starEach (e :: es) X.env = (false, eval e X.env) :: starEach es X.env := by rfl) (hpl : (backTo pos (starEach es X.env)).any (·.1) = false := by rfl) :
    PE X (.Call (.Name x p) (e :: es) [] pos) (tCall sp [] E0 t) := by
  constructor
  intro pins s σ H Q I h
  refine wpAny_Call_Name_kw (ld_glob I hg hm (PySem.W.callWith_K (h₀ := X.base) I.ok.mod.kin hk (thn (ha.run pos pins s σ H _ I h) ?_) he hpl) hdb)
  rintro us s1 ⟨vs, H1, I1, r, q⟩
  refine ⟨I1.kIn, ?_⟩
  have q' : sp vs H1 Q E0 := by
    have q2 : sp (vs ++ []) H1 Q E0 := q
    rwa [List.append_nil] at q2
  exact run_fnG (ws := []) (zs := []) F hr quiet (KBinds.none hb) I1 r .nil q'
end
/-! ### a law whose promise is kept where nothing is being shown -/
theorem quiet_caller : callerA.guards = some [] := rfl
/-- from an abstract heap in which at most the script is told -/
theorem law_from {P : Program} {w : World} {K : PySem.W.Frag} {mg mb : Str → Option Value} {k : Nat} {fa a : Addr} {fd : FuncData} {x : Str} {sp : Sp} {s₁ : Shared} {vs : List Value} {H : Hp}
    (inK : K.In s₁.heap) (main : s₁.heap.Ns mainGlobals mg) (bui : s₁.heap.Ns builtinsNs mb) (same : ∀ x : Str, x ≠ "__name__" → mb x = bootBuiltins x) (lim : s₁.heap.NoLimit) (gens : s₁.gens = #[])
    (at_a : s₁.heap.get? a = some { cls := .type "list", data := .seq vs.toArray }) (room : Room k callerA)
    (F : ∀ base : Heap, K.In base → base.Ns mainGlobals mg → FnG P w K mg base k fa fd [x] sp) (bound : ∀ (s : Shared) (u : Value), BindsTo s fd ⟨[u], []⟩ [(x, u)])
    (only : Only H) (hok : HOk P w H s₁.heap) (isA : ∀ b, H b ≠ none → b = a) (notK : H a ≠ none → K.lookup a = none) (want : sp [.ref a] H (fun v _ => v = .bl true) fun _ _ _ => False) :
    codeAny (model P w) callerA (.call (.ref fa) ⟨[.ref a], []⟩) (fun r s' => r = .ok (.ret (.bool true)) ∧ OldK s₁.heap s'.heap ∧ s'.os = s₁.os ∧ AllBare s'.gens) s₁ := by
  have free : ∀ b, b ≠ a → H b = none := by
    intro b hb
    cases q : H b with
    | none => rfl
    | some u => exact absurd (isA b (fun z => by rw [z] at q; cases q)) hb
  have shown : ∀ {b : Addr} {o : Obj}, s₁.heap.get? b = some o → H b = none → (hidT s₁.heap H).get? b = some o := fun e n => hidT_get e n
  have names : ∀ {b : Addr} {m : Str → Option Value}, s₁.heap.Ns b m → (hidT s₁.heap H).Ns b m := by
    rintro b m ⟨o, es, ep, e, d, r⟩
    refine ⟨o, es, ep, shown e (free b ?_), d, r⟩
    rintro rfl
    rw [at_a] at e
    cases e
    exact nomatch d
  have inHid : K.In (hidT s₁.heap H) := by
    intro b o e
    refine shown (inK b o e) ?_
    cases q : H b with
    | none => rfl
    | some u =>
      have ne : H b ≠ none := fun z => by rw [z] at q; cases q
      have eb := isA b ne
      subst eb
      rw [notK ne] at e
      cases e
  obtain ⟨mc, l1, l2⟩ := lim
  have env : Env0 P w K mg (hidT s₁.heap H) callerA [] s₁ H := {
    frames := rfl
    mod := ⟨inHid, names main, ⟨mb, names bui, same⟩, ⟨mc, names l1, l2⟩⟩
    bs := fun _ _ e => of_hidT e
    bsz := Nat.le_of_eq (hidT_size _ _)
    funs := trivial
    frf := fun b hb => nomatch (show b ∈ ([] : List Addr) from hb)
    hok := hok
    bare := .of_eq gens }
  refine codeAny_mono ((F _ inHid (names main)).run callerA [] s₁ H ⟨[.ref a], []⟩ [.ref a] [.ref a] _ _ room quiet_caller env (bound s₁ (.ref a)) (.cons rfl .nil) want) ?_
  rintro (e | fl) s' h
  · exact False.elim h
  cases fl with
  | next | brk | cont => exact False.elim h
  | ret u =>
    obtain ⟨v, H', os, bare, un, hok', rel, q⟩ := h
    cases (show v = .bl true from q)
    cases (show u = Value.bool true from rel)
    refine ⟨rfl, .of_keep ?_, os, bare⟩
    intro b o e
    rcases only b with z | ⟨ob, xs, z⟩
    · exact un.keep b o e z (fun m => nomatch (show b ∈ ([] : List Addr) from m)) (fun m => nomatch m)
    · have z2 := un.frzs b ob _ z
      have e1 := (hok b _ z).1
      rw [e] at e1
      cases e1
      exact (hok' b _ z2).1
theorem law_callG {P : Program} {w : World} {K : PySem.W.Frag} {mg mb : Str → Option Value} {k : Nat} {fa a : Addr} {fd : FuncData} {x : Str} {sp : Sp} {s₁ : Shared} {vs : List Value} {ns : List Int}
    (inK : K.In s₁.heap) (main : s₁.heap.Ns mainGlobals mg) (bui : s₁.heap.Ns builtinsNs mb) (same : ∀ x : Str, x ≠ "__name__" → mb x = bootBuiltins x) (lim : s₁.heap.NoLimit) (gens : s₁.gens = #[])
    (at_a : s₁.heap.get? a = some { cls := .type "list", data := .seq vs.toArray }) (hints : IntsAre vs ns) (short : ns.length ≤ sizeLine) (room : Room k callerA)
    (F : ∀ base : Heap, K.In base → base.Ns mainGlobals mg → FnG P w K mg base k fa fd [x] sp) (bound : ∀ (s : Shared) (u : Value), BindsTo s fd ⟨[u], []⟩ [(x, u)])
    (want : ∀ H : Hp, Only H → SqL K H a (ns.map V.int) → sp [.ref a] H (fun v _ => v = .bl true) fun _ _ _ => False) :
    codeAny (model P w) callerA (.call (.ref fa) ⟨[.ref a], []⟩) (fun r s' => r = .ok (.ret (.bool true)) ∧ OldK s₁.heap s'.heap ∧ s'.os = s₁.os ∧ AllBare s'.gens) s₁ := by
  have rel := vals_ints hints
  have many := hints.length
  have go := fun (H : Hp) (o : Only H) hok isA notK w => law_from (mb := mb) inK main bui same lim gens at_a room F bound (H := H) o hok isA notK w
  cases hk : K.lookup a with
  | some o =>
    have e := inK a o hk
    rw [at_a] at e
    cases e
    have nobody : Only (fun _ => none) := fun _ => .inl rfl
    refine go _ nobody (fun b u z => nomatch (show (none : Option HO) = some u from z)) (fun b z => absurd rfl z) (fun z => absurd rfl z) (want _ nobody (.inr ⟨_, vs.toArray, _, hk, rfl, rfl, rfl, ?_, ?_⟩))
    · rw [List.size_toArray, many]
      exact short
    · simpa using rel
  | none =>
    have key : ∃ H : Hp, H = fun b => if b = a then some (.frz { cls := .type "list", data := .seq vs.toArray } (.lst (ns.map V.int))) else none := ⟨_, rfl⟩
    obtain ⟨H, eH⟩ := key
    have there : H a = some (.frz { cls := .type "list", data := .seq vs.toArray } (.lst (ns.map V.int))) := by rw [eH]; exact if_pos rfl
    have else_ : ∀ b, b ≠ a → H b = none := fun b hb => by rw [eH]; exact if_neg hb
    have only : Only H := fun b => by
      by_cases hb : b = a
      · rw [hb]; exact .inr ⟨_, _, there⟩
      · exact .inl (else_ b hb)
    refine go H only (fun b u z => ?_) (fun b z => ?_) (fun _ => hk) (want H only (.inl (.inr ⟨_, there⟩)))
    · by_cases hb : b = a
      · subst hb
        rw [there] at z
        cases z
        exact ⟨at_a, by rw [List.length_map]; exact short, vs, _, rel, at_a⟩
      · rw [else_ b hb] at z
        cases z
    · by_cases hb : b = a
      · exact hb
      · exact absurd (else_ b hb) z
theorem walk_ofG {l : PySem.W.OpenLaw} {n k : Nat} {q : Program} {loose : List Str} {XP : (Str → Option Value) → Heap → Prop} {YP : World → Heap → Prop} {d : DefRec} {K : Params → PySem.W.Frag} {sp : World → Sp} {x : Str}
    (hn : l.most = some n) (hn2 : n ≤ sizeLine) (hdf : d.params.defaults = []) (room : Room k callerA) (hY : ∀ (w : World) (h : Heap), YP w h → (K w.params).In h)
    (F : ∀ (w : World) (mg : Str → Option Value) (fa : Addr) (h : Heap), (K w.params).In h → h.Ns mainGlobals mg → mg d.name = some (.ref fa) →
      ∃ fd : FuncData, (∀ (s : Shared) (u : Value), BindsTo s fd ⟨[u], []⟩ [(x, u)]) ∧ ∀ base : Heap, (K w.params).In base → base.Ns mainGlobals mg → FnG l.prog w (K w.params) mg base k fa fd [x] (sp w))
    (want : ∀ (w : World) (H : Hp) (a : Addr) (ns : List Int), ns.length ≤ n → Only H → SqL (K w.params) H a (ns.map V.int) → sp w [.ref a] H (fun v _ => v = .bl true) fun _ _ _ => False) :
    PySem.W.WalkO q loose XP YP l.row.toRowW d [] (fun f vs => PySem.call f vs) := by
  apply Att.attach_call hn hdf
  intro w s₀ s₁ mg mb fa o pm cd doc a vs ns G Y ho hd hcd hmg hobj hints hlen hg
  have inK := hY w _ Y
  obtain ⟨fd, bound, hF⟩ := F w mg fa _ inK G.T.g hmg
  exact law_callG inK G.T.g G.T.b G.T.builtins G.T.nolimit hg hobj hints (Nat.le_trans hlen hn2) room hF bound (fun H hO hS => want w H a ns hlen hO hS)
/-! ### repr of a list -/
section
variable {X : Cx}
theorem call_repr_data (quiet : X.A.guards = some []) (hu : X.A.units + 70 < cLine) : CallR X (.builtin "repr") (fun xs H Q => ∃ a d, xs = [.ref a] ∧ Dp X.K H (.ref a) d ∧ d.showable = true ∧ d.hasDict = false ∧ d.depth ≤ 60 ∧ d.shown.length ≤ sizeLine ∧ Q (.str d.shown) H) := by
  intro pins s σ H xs us Q I r h
  obtain ⟨a, d, rfl, hd, hs, hnd, hdp, hz, q⟩ := h
  obtain ⟨u, rfl, e⟩ := vals1 r
  cases e
  obtain ⟨as, rd⟩ := Dp.reads I d _ _ hd (rfl : RelV (.ref a) (.ref a))
  exact repr_of_reads' rd hs (PyData.noDict_hsm hnd) quiet (by omega) (fun _ _ e => e) (fun h' u tk hk => ⟨.str _, H, I.kept hk, ⟨_, rfl⟩, q⟩) hz
end
end My
namespace My
open PySem L2 PyProof.Rows
/-! ### the rules within a comprehension -/
section
variable {X : Cx} {K : PySem.W.Frag}
theorem ix_listK (h : X.K = K) : IxR X (rIxL K) := h ▸ ix_list
theorem ix_tupK (h : X.K = K) : IxR X (rIxT K) := h ▸ ix_tup
theorem pi_listK {tg l : Expr} {tl : TE} (h : X.K = K) (hl : PE X l tl) : PI X tg l (iList K tl) := h ▸ pi_list hl
theorem call_len_seqK (h : X.K = K) : CallR X (.builtin "len") (fun xs H Q => ∃ p ys, xs = [V.ref p] ∧ (SqL K H p ys ∨ SqT K H p ys) ∧ Q (.int (ys.length : Int)) H) := h ▸ call_len_seq
theorem op_in_seqK (h : X.K = K) : OpR X (compareOp .In) (rIn K false) := h ▸ op_in_seq
theorem op_notIn_seqK (h : X.K = K) : OpR X (compareOp .NotIn) (rIn K true) := h ▸ op_notIn_seq
end
theorem mt_indexK {X : Cx} {K : PySem.W.Frag} (h : X.K = K) : MtR X "list.index" (rIndex K) := h ▸ mt_index
theorem pe_bmK {X : Cx} {K : PySem.W.Frag} {o e : Expr} {es : List Expr} {to : TE} {t : TA} {name : Str} {apos cpos : Pos} {T id : String} {r : V → List V → Hp → VK → Prop} (h : X.K = K) (pa : PlainAttrs T) (slot : Slot T name id) (hty : typeOf (.builtin id) = pure (.type "method_descriptor")) (hm : MtR X id r) (ho : PE X o to) (ha : PA X (e :: es) t)
    (hbase : attributeBase o name X.env (eval o X.env) = eval o X.env := by rfl)
    (hfew : ((backTo cpos (starEach (e :: es) X.env)).all (fun x => !x.1) && (backToKw cpos (keywordEach [] X.env)).all (fun x => x.1.isSome)
      && decide ((e :: es).length + ([] : List Keyword).length + (if ([] : List Keyword).isEmpty then 0 else 1) < 30)) = true := by rfl)
    (hline : (apos.endLine == cpos.line) = true := by rfl) (hs : starEach (e :: es) X.env = (false, eval e X.env) :: starEach es X.env := by rfl) (hplain : (backTo cpos (starEach es X.env)).any (·.1) = false := by rfl) :
    PE X (.Call (.Attribute o name apos) (e :: es) [] cpos) (tBM K T r to t) := h ▸ pe_bm pa slot hty hm ho ha hbase hfew hline hs hplain
/-- a field, read within a comprehension -/
theorem pe_fldK {X : Cx} {K : PySem.W.Frag} {e : Expr} {ta : TE} {f : Str} {pos : Pos} (h : X.K = K) (he : PE X e ta) (hb : attributeBase e f X.env (eval e X.env) = eval e X.env := by rfl) : PE X (.Attribute e f pos) (tFld K ta f) := h ▸ pe_fld he hb
theorem pe_fldA {X : Cx} {e : Expr} {ta : TE} {f : Str} {pos : Pos} (he : PE X e ta) (hb : attributeBase e f X.env (eval e X.env) = eval e X.env := by rfl) : PE X (.Attribute e f pos) (tFld X.K ta f) := pe_fld he hb
/-! ### defs that may show a value (repr) -/
theorem hu70 {k : Nat} {A : Around} (h : Room k A) : A.units + 70 < cLine := by
  have := h.un
  omega
theorem u65 {k : Nat} {A : Around} (h : Room k A) : A.units + 65 < cLine := by
  have := h.un
  omega
section
variable {P : Program} {w : World} {K : PySem.W.Frag} {mg : Str → Option Value} {base : Heap}
def GoodG (P : Program) (w : World) (K : PySem.W.Frag) (mg : Str → Option Value) (base : Heap) (x : Str) (st : Stmt) (ps : List Str) (k : Nat) (sp : Sp) : Prop := ∃ (f : Addr) (fd : FuncData), FnG P w K mg base k f fd ps sp ∧ mg x = some (.ref f) ∧ PySem.W.keepIn K (.ref f) = true ∧ Binds K fd ps [] ∧ Fun K x x st f fd
theorem Def.goodG {x : Str} {st : Stmt} {ps : List Str} {k : Nat} {sp : Sp} (D : Def K mg x st ps) (h : ∀ f fd, Fun K x x st f fd → FnG P w K mg base k f fd ps sp) : GoodG P w K mg base x st ps k sp := by
  obtain ⟨f, fd, F, m, b⟩ := D
  exact ⟨f, fd, h f fd F, m, F.kp, b, F⟩
end
end My
set_option maxHeartbeats 4000000
/-! set(texts), sorted(set(texts)), len(set(texts)) -/
namespace My
open PySem PySem.Spec PyProof.Rows L2
/-- the text of an entry -/
def txtOf (e : Int × Value) : Str := match e.2 with | .str k _ => k | _ => Str.empty
def GoodT (w : World) (e : Int × Value) : Prop := ∃ k tk, e.2 = Value.str k tk ∧ e.1 = hashStr w k
/-- a set of texts: S its members, n their number -/
def SetTx (w : World) (h : Heap) (a : Addr) (S : Str → Bool) (n : Nat) : Prop :=
  ∃ o es ep t, h.get? a = some o ∧ o.ExactSet ∧ o.data = .set es ep t ∧ (∀ e ∈ es.toList, GoodT w e) ∧ (es.toList.map txtOf).Nodup ∧ (∀ k, S k = true ↔ k ∈ es.toList.map txtOf) ∧
    (es.size < scanBound ∧ t.fits es.size = true ∧ es.size = n) ∧ Ris t.place.toList ∧ (w.params.followText "set-order" = true ∨ t.led = true)
section
variable {P : Program} {w : World} {h h' : Heap} {a : Addr} {S : Str → Bool} {n : Nat}
theorem SetTx.at (R : SetTx w h a S n) (k : ∀ o, h.get? a = some o → h'.get? a = some o) : SetTx w h' a S n := by
  obtain ⟨o, es, ep, t, ho, r⟩ := R
  exact ⟨o, es, ep, t, k o ho, r⟩
theorem SetTx.congr {S' : Str → Bool} {m : Nat} (R : SetTx w h a S n) (e : ∀ k, S' k = S k) (em : n = m) : SetTx w h a S' m := by
  rw [show S' = S from funext e, ← em]
  exact R
theorem goodT_elems {l : List (Int × Value)} (g : ∀ e ∈ l, GoodT w e) : ElemsOf (PySem.strKind P w) l := fun e he => by
  obtain ⟨k, tk, g1, g2⟩ := g e he
  exact ⟨⟨k, by rw [g1]; exact strKind_is P w k tk, g2⟩, by rw [g1]; rfl⟩
theorem goodT_is {e : Int × Value} (g : GoodT w e) (k : Str) : (PySem.strKind P w).is k e.2 = true ↔ txtOf e = k := by
  obtain ⟨k0, tk, g1, _⟩ := g
  unfold txtOf
  rw [g1]
  constructor
  · intro q
    exact (PySem.strKind P w).inj _ _ _ (strKind_is P w k0 tk) q
  · intro q
    show (PySem.strKind P w).is k (.str k0 tk) = true
    rw [show k0 = k from q]
    exact strKind_is P w k tk
theorem goodT_mem {l : List (Int × Value)} (g : ∀ e ∈ l, GoodT w e) (k : Str) : k ∈ l.map txtOf ↔ ∃ e ∈ l, (PySem.strKind P w).is k e.2 = true := by
  rw [List.mem_map]
  exact ⟨fun ⟨e, he, q⟩ => ⟨e, he, (goodT_is (g e he) k).2 q⟩, fun ⟨e, he, q⟩ => ⟨e, he, (goodT_is (P := P) (g e he) k).1 q⟩⟩
theorem SetTx.setOf (R : SetTx w h a S n) : h.SetOf (PySem.strKind P w) a S n := by
  obtain ⟨o, es, ep, t, ho, hx, hd, g, nd, hm, ⟨hb, hf, hn⟩, _⟩ := R
  exact ⟨o, es, ep, t, ho, hx, hd, goodT_elems g, fun k => (hm k).trans (goodT_mem g k), hb, hf, hn⟩
end
section
variable {P : Program} {w : World} {A : Around} {E : Value → Shared → Prop} {s : Shared} {a : Addr} {S : Str → Bool} {n : Nat}
theorem tx_tail {g : Bool → Sem Unit} (hg : ∀ (b : Bool) (s₁ : Shared) (Q' : Unit → Shared → Prop), Q' () s₁ → wpAny (model P w) A (g b) Q' E s₁)
    {o : Obj} {es : Array (Int × Value)} {ep : Nat} {t : SetTable} (ho : s.heap.get? a = some o) (hex : o.ExactSet) (hd : o.data = .set es ep t)
    {es1 : Array (Int × Value)} {t2 : SetTable} {S' : Str → Bool} (g1 : ∀ e ∈ es1.toList, GoodT w e) (nd1 : (es1.toList.map txtOf).Nodup) (m1 : ∀ k, S' k = true ↔ k ∈ es1.toList.map txtOf)
    (room : es1.size < scanBound) (fit : t2.fits es1.size = true) (ris : Ris t2.place.toList) (led : w.params.followText "set-order" = true ∨ t2.led = true) {wasDummy : Bool} {R : Option Bool → Shared → Prop}
    (hR : ∀ h', Heap.SameBut a s.heap h' → SetTx w h' a S' es1.size → R (some true) { s with heap := h' }) :
    wpAny (model P w) A (do
        storeSet a es1 t2
        if (!wasDummy && t2.tooFull) = true then do
            g (relayAll t2 es1 (SetTable.grown es1.size)).2.2
            storeSet a (relayAll t2 es1 (SetTable.grown es1.size)).1 (relayAll t2 es1 (SetTable.grown es1.size)).2.1
            pure (some true)
          else pure (some true)) R E s := by
  refine wpAny_bind (wpAny_storeSet_of ho hd ?_ (fits_of_scanBound room))
  have st1 := store_at (es' := es1) (t' := t2) ho hd
  have same1 := Heap.SameBut.update s.heap a (Obj.putSet es1 t2)
  split
  · have p3 := relayAll_perm t2 es1 (SetTable.grown es1.size)
    have f3 := relayAll_fits t2 es1 (SetTable.grown es1.size)
    have r3 := relayAll_ris t2 es1 (SetTable.grown es1.size)
    have l3 := relayAll_led t2 es1 (SetTable.grown es1.size)
    generalize relayAll t2 es1 (SetTable.grown es1.size) = Z at p3 f3 r3 l3 ⊢
    obtain ⟨es2, t3, gave⟩ := Z
    dsimp only at p3 f3 r3 l3 ⊢
    have z2 : es2.size = es1.size := by rw [← Array.length_toList, p3.length_eq, Array.length_toList]
    have b2 : es2.size < scanBound := by rw [z2]; exact room
    refine wpAny_bind (hg _ _ _ (wpAny_bind (wpAny_storeSet_of st1 rfl ?_ (fits_of_scanBound b2))))
    have st2 := store_at (es' := es2) (t' := t3) st1 rfl
    exact wpAny_pure (hR _ (same1.trans (Heap.SameBut.update _ a _)) ⟨_, es2, _, t3, st2, hex, rfl, fun e he => g1 e (p3.mem_iff.mp he), (p3.map txtOf).nodup_iff.mpr nd1, fun k => (m1 k).trans (p3.map txtOf).mem_iff.symm, ⟨b2, f3, z2⟩, r3, led.imp id fun z => by rw [l3]; exact z⟩)
  · exact wpAny_pure (hR _ same1 ⟨_, es1, _, t2, st1, hex, rfl, g1, nd1, m1, ⟨room, fit, rfl⟩, ris, led⟩)
theorem tx_add {k : Str} {tk : Tok} {Q : Bool → Shared → Prop} (R : SetTx w s.heap a S n) (room : n + 1 < scanBound)
    (hQ : ∀ h', Heap.SameBut a s.heap h' → SetTx w h' a (fun j => S j || decide (j = k)) (if S k = true then n else n + 1) → Q (!S k) { s with heap := h' }) :
    wpAny (model P w) A (setAddHashed a (.str k tk) ((PySem.strKind P w).hash k)) Q E s := by
  obtain ⟨o, es, ep, t, ho, hex, hd, g, nd, hm, ⟨hb, hf, hn⟩, hr, hl⟩ := R
  have is_k : (PySem.strKind P w).is k (.str k tk) = true := strKind_is P w k tk
  have scan : (Value.str k tk).scannable = true := rfl
  have elems : ElemsOf (PySem.strKind P w) es.toList := goodT_elems g
  unfold setAddHashed setAddHashedIn
  refine wpAny_holding (wpAny_bind (wpAny_setState_of ho hd hf ?_))
  dsimp only
  rw [byScan_of scan hb elems]
  simp only [↓reduceIte]
  unfold setAddByScan
  refine wpAny_bind (wpAny_bind (wpAny_rule ?_))
  refine wpAny_bind (wpAny_setScan_of is_k ho hd hf elems ?_)
  cases at_ : List.findIdx? (fun e => (PySem.strKind P w).is k e.2) es.toList with
  | some j =>
    dsimp only
    obtain ⟨hj, pj, _⟩ := List.findIdx?_eq_some_iff_getElem.mp at_
    have inS : S k = true := (hm k).2 ((goodT_mem (P := P) g k).2 ⟨es.toList[j], List.getElem_mem hj, pj⟩)
    refine wpAny_pure (wpAny_pure ?_)
    have q := hQ s.heap (Heap.SameBut.refl a s.heap) ⟨o, es, ep, t, ho, hex, hd, g, nd, fun i => by
      rw [Bool.or_eq_true, decide_eq_true_eq, ← hm i]
      exact ⟨fun z => z.elim id (fun e => e ▸ inS), .inl⟩, ⟨hb, hf, by rw [if_pos inS]; exact hn⟩, hr, hl⟩
    rw [inS] at q
    exact q
  | none =>
    dsimp only
    have out : k ∉ es.toList.map txtOf := fun z => by
      obtain ⟨e, he, q⟩ := (goodT_mem (P := P) g k).1 z
      have c := List.findIdx?_eq_none_iff.mp at_ e he
      rw [q] at c
      cases c
    have noS : S k = false := by
      cases q : S k with
      | false => rfl
      | true => exact absurd ((hm k).1 q) out
    have gave_ : ∀ (b : Bool) {s₁ : Shared} {Q' : Unit → Shared → Prop}, Q' () s₁ → wpAny (model P w) A (match b with | true => rule "set.scan.the-table-gave-way" | false => pure ()) Q' E s₁ :=
      fun b s₁ Q' q => by cases b <;> first | exact wpAny_pure q | exact wpAny_rule q
    have p1 := layNew_perm t es ((PySem.strKind P w).hash k) (.str k tk)
    have f1 := layNew_fits t es ((PySem.strKind P w).hash k) (.str k tk)
    have r1 := layNew_ris t es ((PySem.strKind P w).hash k) (.str k tk) hr
    have l1 := layNew_led t es ((PySem.strKind P w).hash k) (.str k tk)
    generalize layNew t es ((PySem.strKind P w).hash k) (.str k tk) = Z at p1 f1 r1 l1 ⊢
    obtain ⟨es1, t1, wasDummy, gave⟩ := Z
    dsimp only at p1 f1 r1 l1 ⊢
    rw [Array.toList_push] at p1
    have pc : es1.toList.Perm (((PySem.strKind P w).hash k, Value.str k tk) :: es.toList) := p1.trans (List.perm_append_singleton _ _)
    have pk : (es1.toList.map txtOf).Perm (k :: es.toList.map txtOf) := pc.map txtOf
    have g1 : ∀ e ∈ es1.toList, GoodT w e := fun e he => by
      rcases List.mem_cons.mp (pc.mem_iff.mp he) with z | z
      · rw [z]; exact ⟨k, tk, rfl, rfl⟩
      · exact g e z
    have nd1 : (es1.toList.map txtOf).Nodup := pk.nodup_iff.mpr (List.nodup_cons.mpr ⟨out, nd⟩)
    have m1 : ∀ i, (S i || decide (i = k)) = true ↔ i ∈ es1.toList.map txtOf := fun i => by
      rw [Bool.or_eq_true, decide_eq_true_eq, hm i, pk.mem_iff, List.mem_cons]
      exact Or.comm
    have z1 : es1.size = n + 1 := by rw [← Array.length_toList, pc.length_eq, List.length_cons, Array.length_toList, hn]
    have b1 : es1.size < scanBound := by rw [z1]; exact room
    have led1 : w.params.followText "set-order" = true ∨ t1.led = true := hl.imp id fun z => by rw [l1]; exact z
    have fin : ∀ h', Heap.SameBut a s.heap h' → SetTx w h' a (fun j => S j || decide (j = k)) es1.size → Q true { s with heap := h' } := fun h' sb r => by
      have q := hQ h' sb
      rw [noS] at q
      rw [z1] at r
      exact q r
    refine wpAny_bind (gave_ _ ?_)
    split
    · refine wpAny_bind ?_
      rw [hashByValue_scannable 8 scan]
      refine wpAny_pure ?_
      refine tx_tail ?_ ho hex hd g1 nd1 m1 b1 ?_ ?_ ?_ ?_
      · intro b s₁ Q' q; cases b <;> first | exact wpAny_pure q | exact wpAny_rule q
      · first | (split <;> first | exact f1 | exact SetTable.fits_plain_off f1) | exact f1
      · first | (split <;> exact r1) | exact r1
      · first | (split <;> exact led1) | exact led1
      · intro h' sb r; dsimp only; exact wpAny_pure (fin h' sb r)
    · refine wpAny_bind (wpAny_pure ?_)
      simp only [↓reduceIte]
      refine tx_tail ?_ ho hex hd g1 nd1 m1 b1 f1 r1 led1 ?_
      · intro b s₁ Q' q; cases b <;> first | exact wpAny_pure q | exact wpAny_rule q
      · intro h' sb r; dsimp only; exact wpAny_pure (fin h' sb r)
end
end My
set_option maxHeartbeats 4000000
namespace My
open PySem PySem.Spec PyProof.Rows L2
abbrev hasT (xs : List Str) : Str → Bool := fun k => decide (k ∈ xs)
theorem hasT_snoc (xs : List Str) (x : Str) (k : Str) : hasT (xs ++ [x]) k = (hasT xs k || decide (k = x)) := by
  unfold hasT
  by_cases c : k = x
  · simp [c]
  · simp [c]
section
variable {prog : Program} {w : World} {A : Around} {R : Result → Shared → Prop} {I : Addr} {fp wr : List Addr} {G : Array GenState → Array GenState → Prop} {n : Nat} {Pw : Nat → Value → Prop} {St : Nat → Shared → Prop}
/-- the texts of an iterator put into a set -/
theorem put_texts (W : WalksS prog w A.in1 I fp wr G n Pw St) (a : Addr) (away : a ∉ fp) (xs : List Str) (size : xs.length = n) (few : n + 1 < scanBound)
    (reads : ∀ i v, Pw i v → ∃ t x, xs[i]? = some x ∧ v = .str x t) :
    ∀ (k i m : Nat) (s : Shared), n - i = k → i ≤ n → m ≤ i → St i s → SetTx w s.heap a (hasT (xs.take i)) m →
      (∀ s' m', Moved (a :: wr) G s s' → m' ≤ n → SetTx w s'.heap a (hasT xs) m' → R (.ok (.ret .none)) s') →
      codeAny (model prog w) A (.builtin "set.update.loop" ⟨[.ref a, .ref I], []⟩) R s := by
  have apart : a ∉ wr := fun z => away (W.sub _ z)
  have wider : ∀ b ∈ wr, b ∈ a :: wr := fun b hb => List.mem_cons_of_mem _ hb
  intro k
  induction k with
  | zero =>
    intro i m s hk hi hm hst hS hR
    obtain rfl : i = n := by omega
    rw [← size, List.take_length] at hS
    refine codeAny_builtin PyProof.Rows.F.entry_set_update_loop ?_
    rw [Around.under_plainId PyProof.Rows.F.plain_set_update_loop _]
    show wpAny _ A.in1 (pyNext (.ref I) >>= _) _ _ s
    refine wpAny_bind (W.done s _ _ hst fun s' hm' => ?_)
    show wpAny _ A.in1 (ret Value.none) _ _ s'
    exact wpAny_pure (hR s' m (hm'.mono wider) hm (hS.at fun o e => hm'.heap a _ apart e))
  | succ k ih =>
    intro i m s hk hi hm hst hS hR
    have hlt : i < n := by omega
    refine codeAny_builtin PyProof.Rows.F.entry_set_update_loop ?_
    rw [Around.under_plainId PyProof.Rows.F.plain_set_update_loop _]
    show wpAny _ A.in1 (pyNext (.ref I) >>= _) _ _ s
    refine wpAny_bind (W.item i s _ _ hlt hst fun v s' hPv hst' hm' => ?_)
    obtain ⟨t, x, hx, rfl⟩ := reads i v hPv
    have hS' : SetTx w s'.heap a (hasT (xs.take i)) m := hS.at fun o e => hm'.heap a _ apart e
    show wpAny _ A.in1 (holding [Value.str x t] (setAdd a (.str x t)) >>= _) _ _ s'
    refine wpAny_bind (wpAny_holding ?_)
    unfold setAdd
    refine wpAny_holding (wpAny_bind ((PySem.strKind prog w).pyHash (k := x) (strKind_is _ _ _ _) ?_))
    refine tx_add (P := prog) (s := { s' with toks := s'.toks + 1 }) hS' (by omega) fun h' sb hS2 => ?_
    have hS3 : SetTx w h' a (hasT (xs.take (i + 1))) (if hasT (xs.take i) x = true then m else m + 1) := by
      refine hS2.congr (fun k' => ?_) rfl
      rw [show xs.take (i + 1) = xs.take i ++ [x] by rw [List.take_succ, hx]; rfl, hasT_snoc]
    refine wpAny_pure ⟨plainId_quiet PyProof.Rows.F.plain_set_update_loop _, ih (i + 1) _ _ (by omega) hlt (by split <;> omega) (W.frame _ s' _ _ hst' (Nat.le_succ _) fun b hb o e => ?_) hS3 fun s'' m'' hm'' hle hS'' => ?_⟩
    · rw [sb.2 b (fun z : b = a => away (by rw [← z]; exact hb))]; exact e
    · refine hR s'' m'' (Moved.trans W.gtrans ((hm'.mono wider).then_heap (Nat.le_succ _) fun b o hb e => ?_) hm'') hle hS''
      rw [sb.2 b (fun z : b = a => hb (by rw [z]; exact List.mem_cons_self))]; exact e
end
def newSet (w : World) : Obj := { cls := .type "set", dict := none, data := .set #[] 0 (.fresh 0 0 (!w.params.followText "set-order")) }
theorem newSet_tx (w : World) {h : Heap} : SetTx w (h.push (newSet w)) h.objs.size (fun _ => false) 0 :=
  ⟨_, #[], 0, _, Heap.get?_push_size _ rfl, ⟨rfl, rfl, rfl⟩, rfl, (fun e he => by simp at he), (by simp), (fun k => by simp), ⟨(by decide), (by rfl), rfl⟩, List.Pairwise.nil, by
    show _ ∨ (!w.params.followText "set-order") = true
    cases w.params.followText "set-order"
    · exact Or.inr rfl
    · exact Or.inl rfl⟩
section
variable {prog : Program} {w : World} {A : Around} {E : Value → Shared → Prop} {s : Shared}
theorem set_made (a : Value) {Q₁ : Value → Shared → Prop} (h : Q₁ (.ref s.heap.objs.size) { s with heap := s.heap.push (newSet w) }) :
    codeAny (model prog w) A (.call (.builtin "set.__new__") ⟨[.type "set", a], []⟩) (wants Q₁ E) s := by
  refine codeAny_of_tree ?_
  show wpAny _ A.in1 (do checkBuiltinCall "set.__new__" ⟨[.type "set", a], []⟩; again (.builtin "set.__new__" ⟨[.type "set", a], []⟩)) _ _ s
  refine wpAny_bind (wpAny_of_eq (PySem.F.newCall_set_1 a) (wpAny_pure ⟨plainId_quiet PySem.F.plain_set_new _, codeAny_builtin PySem.F.entry_set_new ?_⟩))
  rw [Around.under_plainId PySem.F.plain_set_new _]
  unfold Builtin.«set.__new__» Builtin.Frozenset.newClass
  have hsub := sub_set_self
  obtain ⟨hp, g, d, tk, os⟩ := s
  dsimp only
  wp_walk
  refine wpAny_askSetting (wpAny_pure ?_)
  dsimp only
  simp only [newObj]
  exact wpAny_bind (wpAny_alloc (wpAny_pure (wpAny_pure h)))
set_option maxHeartbeats 3200000 in
theorem set_of_list {q : Addr} {ys : Array Value} {xs : List Str} {Q : Value → Shared → Prop}
    (calm : A.handled = none) (hq : s.heap.IsList q ys) (hx : PyProof.Rows.StrsAre ys.toList xs) (few : xs.length + 1 < scanBound)
    (k : ∀ (h' : Heap) (tk m : Nat), m ≤ xs.length → SetTx w h' s.heap.objs.size (hasT xs) m →
      (∀ b o, b < s.heap.objs.size → s.heap.get? b = some o → h'.get? b = some o) → Q (.ref s.heap.objs.size) { s with heap := h', toks := tk }) :
    wpAny (model prog w) A (call (.type "set") [.ref q]) Q E s := by
  obtain ⟨c, tl, hmro⟩ := PySem.F.called_set.mro
  have hmade := PySem.F.called_set.made
  have hsub := PySem.F.called_set.sub
  refine wpAny_call (codeAny_of_tree ?_)
  show wpAny _ _ (callAny (.type "set") _) _ _ _
  refine wpAny_pure ⟨Code.quiet_builtin _ (by decide +kernel), codeAny_builtin PySem.F.entry_type_call ?_⟩
  rw [Around.under_plain (weight_type_call_type "set" [.ref q] []) rfl]
  have h1 := PySem.F.called_set.notType
  have h2 := PySem.F.called_set.canCreate
  have hct := PySem.F.typeCall_set_1 (.ref q)
  repeat (any_goals (first | assumption | wp_step))
  refine codeAny_mono (set_made (w := w) (.ref q) (E := E) (Q₁ := fun obj s₁ => obj = .ref s.heap.objs.size ∧ s₁ = { s with heap := s.heap.push (newSet w) }) ⟨rfl, rfl⟩) fun r s₁ hr => ?_
  cases r with
  | error e => exact hr
  | ok fl =>
    cases fl with
    | ret obj =>
      obtain ⟨rfl, rfl⟩ := hr
      have hS : (s.heap.push (newSet w)).get? s.heap.objs.size = some (newSet w) := Heap.get?_push_size _ rfl
      have hT : Shared.TypeIs { s with heap := s.heap.push (newSet w) } (.ref s.heap.objs.size) "set" := ⟨_, hS, rfl⟩
      have hli := PySem.F.called_set.init.lookup
      have hbi := PySem.F.called_set.init.bind (.ref s.heap.objs.size)
      repeat (any_goals (first | assumption | wp_step))
      refine codeAny_mono (codeAny_call_builtin (R := wants (fun r s₂ => r = .none ∧ ∃ h' tk m, s₂ = { s with heap := h', toks := tk } ∧ m ≤ xs.length ∧
          SetTx w h' s.heap.objs.size (hasT xs) m ∧
          (∀ b o, b < s.heap.objs.size → s.heap.get? b = some o → h'.get? b = some o)) E) PySem.F.called_set.init.plain PySem.F.entry_set_init (check_set_init_1 hT ?_)) fun r₂ s₂ hr₂ => ?_
      · obtain ⟨ol, hol, hcl, nl, hdl⟩ := hq
        obtain ⟨ocls, odict, odata, oslots⟩ := ol
        simp only at hcl hdl
        subst hcl; subst hdl
        have hol' : (s.heap.push (newSet w)).get? q = some { cls := .type "list", dict := odict, data := .seq ys nl, slots := oslots } := Heap.get?_push_of_some _ hol
        have hsls := PySem.F.sub_list_set
        have hslf := PySem.F.sub_list_frozenset
        have hne : (Value.type "list" == Value.type "dict") = false := by decide
        have hl1 : (s.heap.push (newSet w)).IsList q ys := ⟨_, hol', rfl, nl, rfl⟩
        unfold Builtin.«set.__init__» noKeywords Builtin.Frozenset.updateFrom
        generalize hPI : pyIter = PI
        wp_walk
        subst hPI
        refine wpAny_pyIter_list hl1 (wpAny_bind (wpAny_runValue ?_))
        have qS : q < s.heap.objs.size := Heap.lt_size hol
        have calm3 : A.in1.in1.in1.handled = none := by simp [calm]
        have z1 : (s.heap.push (newSet w)).objs.size = s.heap.objs.size + 1 := Heap.size_push ..
        have qI : q ≠ (s.heap.push (newSet w)).objs.size := by
          rw [z1]; exact Nat.ne_of_lt (Nat.lt_succ_of_lt qS)
        have away : s.heap.objs.size ∉ [(s.heap.push (newSet w)).objs.size, q] := by
          rw [z1]; simp only [List.mem_cons, List.mem_singleton, List.not_mem_nil, or_false, not_or]
          exact ⟨Nat.ne_of_lt (Nat.lt_succ_self _), Nat.ne_of_gt qS⟩
        have sz : xs.length = ys.size := by rw [← StrsAre.len_eq hx, Array.length_toList]
        have rd : ∀ (i : Nat) (v : Value), ys[i]? = some v → ∃ t x, xs[i]? = some x ∧ v = .str x t := fun i v hv => by
          obtain ⟨t, e⟩ := SS.strs_at hx i v (by rw [Array.getElem?_toList]; exact hv)
          have hi : i < xs.length := by rw [sz]; exact (Array.getElem?_eq_some_iff.mp hv).1
          exact ⟨t, xs[i], List.getElem?_eq_getElem hi, by rw [e, List.getD_eq_getElem?_getD, List.getElem?_eq_getElem hi]; rfl⟩
        refine put_texts ((Walks.list calm3 _ q qI ys).toS) s.heap.objs.size
          away xs sz (by omega) rd (ys.size - 0) 0 0 _ rfl (Nat.zero_le _) (Nat.zero_le _)
          ⟨⟨_, Heap.get?_push_size _ rfl, rfl, rfl⟩, (hl1.push _)⟩ ?start ?end_
        case start =>
          exact (SetTx.congr (newSet_tx w) (fun k => by simp [hasT]) rfl).at fun o e => Heap.get?_push_of_some _ e
        case end_ =>
          intro s' m hm hle hS'
          obtain ⟨h', g', d', tk', os'⟩ := s'
          cases (show g' = s.gens from hm.gens)
          cases (show d' = s.drawn from hm.drawn)
          cases (show os' = s.os from hm.os)
          show wpAny _ _ _ _ _ _
          refine wpAny_pure ?_
          show wpAny _ _ (ret Value.none) _ _ _
          refine wpAny_pure ⟨rfl, h', tk', m, rfl, by rw [sz]; exact hle, hS', fun b o hb e => ?_⟩
          have b1 : b ≠ s.heap.objs.size := Nat.ne_of_lt hb
          have b2 : b ≠ (s.heap.push (newSet w)).objs.size := by
            rw [z1]; exact Nat.ne_of_lt (Nat.lt_succ_of_lt hb)
          exact hm.heap b o (by simp only [List.mem_cons, List.mem_singleton, List.not_mem_nil, or_false, not_or]; exact ⟨b1, b2⟩) (Heap.get?_push_of_some _ (Heap.get?_push_of_some _ e))
      · cases r₂ with
        | error e => exact hr₂
        | ok fl₂ =>
          cases fl₂ with
          | ret r =>
            obtain ⟨rfl, h', tk, m, rfl, hle, hS', keep⟩ := hr₂
            repeat (any_goals (first | assumption | wp_step))
            exact k _ _ m hle hS' keep
          | _ => exact hr₂.elim
    | _ => exact hr.elim
set_option maxHeartbeats 3200000 in
theorem set_of_tuple {q : Addr} {ys : Array Value} {xs : List Str} {Q : Value → Shared → Prop}
    (calm : A.handled = none) (hq : s.heap.IsTuple q ys) (hx : PyProof.Rows.StrsAre ys.toList xs) (few : xs.length + 1 < scanBound)
    (k : ∀ (h' : Heap) (tk m : Nat), m ≤ xs.length → SetTx w h' s.heap.objs.size (hasT xs) m →
      (∀ b o, b < s.heap.objs.size → s.heap.get? b = some o → h'.get? b = some o) → Q (.ref s.heap.objs.size) { s with heap := h', toks := tk }) :
    wpAny (model prog w) A (call (.type "set") [.ref q]) Q E s := by
  obtain ⟨c, tl, hmro⟩ := PySem.F.called_set.mro
  have hmade := PySem.F.called_set.made
  have hsub := PySem.F.called_set.sub
  refine wpAny_call (codeAny_of_tree ?_)
  show wpAny _ _ (callAny (.type "set") _) _ _ _
  refine wpAny_pure ⟨Code.quiet_builtin _ (by decide +kernel), codeAny_builtin PySem.F.entry_type_call ?_⟩
  rw [Around.under_plain (weight_type_call_type "set" [.ref q] []) rfl]
  have h1 := PySem.F.called_set.notType
  have h2 := PySem.F.called_set.canCreate
  have hct := PySem.F.typeCall_set_1 (.ref q)
  repeat (any_goals (first | assumption | wp_step))
  refine codeAny_mono (set_made (w := w) (.ref q) (E := E) (Q₁ := fun obj s₁ => obj = .ref s.heap.objs.size ∧ s₁ = { s with heap := s.heap.push (newSet w) }) ⟨rfl, rfl⟩) fun r s₁ hr => ?_
  cases r with
  | error e => exact hr
  | ok fl =>
    cases fl with
    | ret obj =>
      obtain ⟨rfl, rfl⟩ := hr
      have hS : (s.heap.push (newSet w)).get? s.heap.objs.size = some (newSet w) := Heap.get?_push_size _ rfl
      have hT : Shared.TypeIs { s with heap := s.heap.push (newSet w) } (.ref s.heap.objs.size) "set" := ⟨_, hS, rfl⟩
      have hli := PySem.F.called_set.init.lookup
      have hbi := PySem.F.called_set.init.bind (.ref s.heap.objs.size)
      repeat (any_goals (first | assumption | wp_step))
      refine codeAny_mono (codeAny_call_builtin (R := wants (fun r s₂ => r = .none ∧ ∃ h' tk m, s₂ = { s with heap := h', toks := tk } ∧ m ≤ xs.length ∧
          SetTx w h' s.heap.objs.size (hasT xs) m ∧
          (∀ b o, b < s.heap.objs.size → s.heap.get? b = some o → h'.get? b = some o)) E) PySem.F.called_set.init.plain PySem.F.entry_set_init (check_set_init_1 hT ?_)) fun r₂ s₂ hr₂ => ?_
      · obtain ⟨ol, hol, hcl, nl, hdl⟩ := hq
        obtain ⟨ocls, odict, odata, oslots⟩ := ol
        simp only at hcl hdl
        subst hcl; subst hdl
        have hol' : (s.heap.push (newSet w)).get? q = some { cls := .type "tuple", dict := odict, data := .seq ys nl, slots := oslots } := Heap.get?_push_of_some _ hol
        have hsls := PySem.F.sub_tuple_set
        have hslf := PySem.F.sub_tuple_frozenset
        have hne : (Value.type "tuple" == Value.type "dict") = false := by decide
        have hl1 : (s.heap.push (newSet w)).IsTuple q ys := ⟨_, hol', rfl, nl, rfl⟩
        unfold Builtin.«set.__init__» noKeywords Builtin.Frozenset.updateFrom
        generalize hPI : pyIter = PI
        wp_walk
        subst hPI
        refine wpAny_pyIter_tuple hl1 (wpAny_bind (wpAny_runValue ?_))
        have qS : q < s.heap.objs.size := Heap.lt_size hol
        have calm3 : A.in1.in1.in1.handled = none := by simp [calm]
        have z1 : (s.heap.push (newSet w)).objs.size = s.heap.objs.size + 1 := Heap.size_push ..
        have qI : q ≠ (s.heap.push (newSet w)).objs.size := by
          rw [z1]; exact Nat.ne_of_lt (Nat.lt_succ_of_lt qS)
        have away : s.heap.objs.size ∉ [(s.heap.push (newSet w)).objs.size, q] := by
          rw [z1]; simp only [List.mem_cons, List.mem_singleton, List.not_mem_nil, or_false, not_or]
          exact ⟨Nat.ne_of_lt (Nat.lt_succ_self _), Nat.ne_of_gt qS⟩
        have sz : xs.length = ys.size := by rw [← StrsAre.len_eq hx, Array.length_toList]
        have rd : ∀ (i : Nat) (v : Value), ys[i]? = some v → ∃ t x, xs[i]? = some x ∧ v = .str x t := fun i v hv => by
          obtain ⟨t, e⟩ := SS.strs_at hx i v (by rw [Array.getElem?_toList]; exact hv)
          have hi : i < xs.length := by rw [sz]; exact (Array.getElem?_eq_some_iff.mp hv).1
          exact ⟨t, xs[i], List.getElem?_eq_getElem hi, by rw [e, List.getD_eq_getElem?_getD, List.getElem?_eq_getElem hi]; rfl⟩
        refine put_texts ((Walks.tuple calm3 _ q qI ys).toS) s.heap.objs.size
          away xs sz (by omega) rd (ys.size - 0) 0 0 _ rfl (Nat.zero_le _) (Nat.zero_le _)
          ⟨⟨_, Heap.get?_push_size _ rfl, rfl, rfl⟩, (hl1.push _)⟩ ?start ?end_
        case start =>
          exact (SetTx.congr (newSet_tx w) (fun k => by simp [hasT]) rfl).at fun o e => Heap.get?_push_of_some _ e
        case end_ =>
          intro s' m hm hle hS'
          obtain ⟨h', g', d', tk', os'⟩ := s'
          cases (show g' = s.gens from hm.gens)
          cases (show d' = s.drawn from hm.drawn)
          cases (show os' = s.os from hm.os)
          show wpAny _ _ _ _ _ _
          refine wpAny_pure ?_
          show wpAny _ _ (ret Value.none) _ _ _
          refine wpAny_pure ⟨rfl, h', tk', m, rfl, by rw [sz]; exact hle, hS', fun b o hb e => ?_⟩
          have b1 : b ≠ s.heap.objs.size := Nat.ne_of_lt hb
          have b2 : b ≠ (s.heap.push (newSet w)).objs.size := by
            rw [z1]; exact Nat.ne_of_lt (Nat.lt_succ_of_lt hb)
          exact hm.heap b o (by simp only [List.mem_cons, List.mem_singleton, List.not_mem_nil, or_false, not_or]; exact ⟨b1, b2⟩) (Heap.get?_push_of_some _ (Heap.get?_push_of_some _ e))
      · cases r₂ with
        | error e => exact hr₂
        | ok fl₂ =>
          cases fl₂ with
          | ret r =>
            obtain ⟨rfl, h', tk, m, rfl, hle, hS', keep⟩ := hr₂
            repeat (any_goals (first | assumption | wp_step))
            exact k _ _ m hle hS' keep
          | _ => exact hr₂.elim
    | _ => exact hr.elim
end
end My
namespace My
open PySem PySem.W L2 PyProof.Rows
/-! ### told lists: texts with numbers, rising by the texts -/
theorem strict_ext {α : Type} {r : α → α → Prop} (irr : ∀ a, ¬ r a a) (tr : ∀ a b c, r a b → r b c → r a c) : ∀ {a b : List α}, a.Pairwise r → b.Pairwise r → (∀ x, x ∈ a ↔ x ∈ b) → a = b
  | [], [], _, _, _ => rfl
  | [], y :: ys, _, _, h => absurd ((h y).mpr List.mem_cons_self) (by simp)
  | x :: xs, [], _, _, h => absurd ((h x).mp List.mem_cons_self) (by simp)
  | x :: xs, y :: ys, hx, hy, h => by
    have hx' := List.pairwise_cons.mp hx
    have hy' := List.pairwise_cons.mp hy
    have e : x = y := by
      rcases List.mem_cons.mp ((h x).mp List.mem_cons_self) with z | z
      · exact z
      · rcases List.mem_cons.mp ((h y).mpr List.mem_cons_self) with z2 | z2
        · exact z2.symm
        · exact absurd (tr _ _ _ (hx'.1 y z2) (hy'.1 x z)) (irr x)
    subst e
    refine congrArg (x :: ·) (strict_ext irr tr hx'.2 hy'.2 fun z => ?_)
    constructor
    · intro hz
      rcases List.mem_cons.mp ((h z).mp (List.mem_cons_of_mem _ hz)) with q | q
      · exact absurd (by rw [q] at hz; exact hx'.1 x hz) (irr x)
      · exact q
    · intro hz
      rcases List.mem_cons.mp ((h z).mpr (List.mem_cons_of_mem _ hz)) with q | q
      · exact absurd (by rw [q] at hz; exact hy'.1 x hz) (irr x)
      · exact q
def sLt (x y : Str) : Prop := x.cps.toList < y.cps.toList
instance (x y : Str) : Decidable (sLt x y) := by unfold sLt; exact inferInstance
theorem sLt_irr (x : Str) : ¬ sLt x x := List.lt_irrefl _
theorem sLt_trans {x y z : Str} (h : sLt x y) (k : sLt y z) : sLt x z := List.lt_trans h k
theorem sLt_total (x y : Str) : sLt x y ∨ x = y ∨ sLt y x := by
  by_cases h : sLt x y
  · exact .inl h
  · by_cases k : sLt y x
    · exact .inr (.inr k)
    · exact .inr (.inl (str_of_cps (List.le_antisymm (List.not_lt.mp k) (List.not_lt.mp h))))
theorem dataLt_si (x x' : Str) (y y' : Int) : dataLt (.tuple [.str x, .int y]) (.tuple [.str x', .int y']) = decide (sLt x x' ∨ (x = x' ∧ y < y')) := by
  rw [dataLt_pair (by simp [alike]) (by simp [alike]), dataLt_str, dataLt_int]
  have e1 : PyData.eqv (.str x) (.str x') = decide (x = x') := by
    by_cases h : x = x'
    · subst h; simp [PyData.eqv]
    · simp [PyData.eqv, h]
  have e2 : PyData.eqv (.int y) (.int y') = decide (y = y') := by
    by_cases h : y = y'
    · subst h; simp [PyData.eqv]
    · simp [PyData.eqv, h]
  rw [e1, e2]
  by_cases h : x = x'
  · subst h
    have n := sLt_irr x
    by_cases h2 : y = y'
    · subst h2
      simp [n]
    · simp [h2, n]
  · by_cases h3 : sLt x x'
    · have h4 := h3
      unfold sLt at h4
      simp [h, h3, h4]
    · have h4 := h3
      unfold sLt at h4
      simp [h, h3, h4]
abbrev leSI (e f : Str × Int) : Bool := decide (sLt e.1 f.1 ∨ (e.1 = f.1 ∧ e.2 ≤ f.2))
theorem dataLe_si : dataLe false encSI = leSI := by
  funext e f
  show (!dataLt (.tuple [.str f.1, .int f.2]) (.tuple [.str e.1, .int e.2])) = _
  rw [dataLt_si]
  by_cases h : sLt f.1 e.1 ∨ (f.1 = e.1 ∧ f.2 < e.2)
  · have h' : ¬ (sLt e.1 f.1 ∨ (e.1 = f.1 ∧ e.2 ≤ f.2)) := by
      rintro (z | ⟨z, z2⟩)
      · rcases h with k | ⟨k, k2⟩
        · exact sLt_irr _ (sLt_trans z k)
        · rw [k] at z; exact sLt_irr _ z
      · rcases h with k | ⟨k, k2⟩
        · rw [z] at k; exact sLt_irr _ k
        · omega
    simp [h, leSI, h']
  · have h' : sLt e.1 f.1 ∨ (e.1 = f.1 ∧ e.2 ≤ f.2) := by
      rcases sLt_total e.1 f.1 with z | z | z
      · exact .inl z
      · refine .inr ⟨z, ?_⟩
        rcases Int.lt_or_le f.2 e.2 with k | k
        · exact absurd (.inr ⟨z.symm, k⟩) h
        · exact k
      · exact absurd (.inl z) h
    simp only [decide_eq_true h', leSI, decide_eq_false h, Bool.not_false]
theorem leSI_trans (a b c : Str × Int) (h : leSI a b = true) (k : leSI b c = true) : leSI a c = true := by
  have h1 := of_decide_eq_true h
  have k1 := of_decide_eq_true k
  refine decide_eq_true ?_
  rcases h1 with z | ⟨z, z2⟩
  · rcases k1 with w | ⟨w, w2⟩
    · exact .inl (sLt_trans z w)
    · rw [w] at z; exact .inl z
  · rcases k1 with w | ⟨w, w2⟩
    · rw [← z] at w; exact .inl w
    · exact .inr ⟨z.trans w, by omega⟩
theorem leSI_total (a b : Str × Int) : (leSI a b || leSI b a) = true := by
  rw [Bool.or_eq_true]
  rcases sLt_total a.1 b.1 with z | z | z
  · exact .inl (decide_eq_true (.inl z))
  · rcases Int.le_total a.2 b.2 with k | k
    · exact .inl (decide_eq_true (.inr ⟨z, k⟩))
    · exact .inr (decide_eq_true (.inr ⟨z.symm, k⟩))
  · exact .inr (decide_eq_true (.inl z))
/-- rising by the texts -/
def Told (M : List (Str × Int)) : Prop := M.Pairwise fun e f => sLt e.1 f.1
theorem told_of {L : List (Str × Int)} (hn : (L.map Prod.fst).Nodup) : Told (L.mergeSort (dataLe false encSI)) := by
  rw [dataLe_si]
  have hp : (L.mergeSort leSI).Perm L := List.mergeSort_perm _ _
  have hs := List.pairwise_mergeSort (le := leSI) leSI_trans leSI_total L
  have hn2 : ((L.mergeSort leSI).map Prod.fst).Nodup := ((hp.map Prod.fst).nodup_iff).mpr hn
  rw [List.Nodup, List.pairwise_map] at hn2
  refine (hs.and hn2).imp fun {e f} h => ?_
  rcases of_decide_eq_true h.1 with z | z
  · exact z
  · exact absurd z.1 h.2
theorem Told.unique {M N : List (Str × Int)} (h : Told M) (k : Told N) (e : ∀ x, x ∈ M ↔ x ∈ N) : M = N :=
  strict_ext (r := fun e f : Str × Int => sLt e.1 f.1) (fun a => sLt_irr _) (fun _ _ _ => sLt_trans) h k e
/-- texts alone -/
abbrev leS (x y : Str) : Bool := decide (x.cps.toList ≤ y.cps.toList)
theorem dataLe_s : dataLe false (fun x : Str => PyData.str x) = leS := dataLe_str fun x => x
theorem leS_trans (a b c : Str) (h : leS a b = true) (k : leS b c = true) : leS a c = true := decide_eq_true (List.le_trans (of_decide_eq_true h) (of_decide_eq_true k))
theorem leS_total (a b : Str) : (leS a b || leS b a) = true := by
  rw [Bool.or_eq_true]
  rcases List.le_total a.cps.toList b.cps.toList with z | z
  · exact .inl (decide_eq_true z)
  · exact .inr (decide_eq_true z)
theorem texts_of {L : List Str} (hn : L.Nodup) : (L.mergeSort leS).Pairwise sLt := by
  have hp : (L.mergeSort leS).Perm L := List.mergeSort_perm _ _
  have hs := List.pairwise_mergeSort (le := leS) leS_trans leS_total L
  refine (hs.and ((hp.nodup_iff).mpr hn)).imp fun {x y} h => ?_
  rcases sLt_total x y with z | z | z
  · exact z
  · exact absurd z h.2
  · exact absurd z (List.not_lt.mpr (of_decide_eq_true h.1))
end My
set_option maxHeartbeats 4000000
namespace My
open PySem PySem.Spec PyProof.Rows L2
/-! ### sorted(a set of texts), len of it -/
def textIn : Value → Str | .str x _ => x | _ => Str.empty
theorem each_text : ∀ l : List Value, (∀ v ∈ l, ∃ k tk, v = Value.str k tk) → PySem.W.EachIs (fun v b => ∃ t, v = Value.str b t) l (l.map textIn)
  | [], _ => .nil
  | v :: l, h => by
    obtain ⟨k, tk, rfl⟩ := h v List.mem_cons_self
    exact .cons ⟨tk, rfl⟩ (each_text l fun u hu => h u (List.mem_cons_of_mem _ hu))
theorem vals_text : ∀ {out : List Value} {M : List Str}, PySem.W.EachIs (fun v b => ∃ t, v = Value.str b t) out M → Vals (M.map V.str) out
  | _, _, .nil => .nil
  | _, _, .cons h t => .cons (show RelV _ _ from h) (vals_text t)
section
variable {P : Program} {w : World} {A : Around} {E : Value → Shared → Prop} {s : Shared} {a : Addr} {S : Str → Bool} {n : Nat}
theorem sorted_texts {Q : Value → Shared → Prop} (R : SetTx w s.heap a S n) (calm : A.handled = none) (small : n ≤ 100000) (hu : A.units + 64 < cLine)
    (hQ : ∀ s' p (out : Array Value) (c : Nat) (M : List Str), (∀ b o, s.heap.get? b = some o → s'.heap.get? b = some o) → s'.gens = s.gens → s'.os = s.os → s.heap.objs.size ≤ p →
      s'.heap.get? p = some (seqObj "list" out c) → Vals (M.map V.str) out.toList → M.Pairwise sLt → (∀ k, k ∈ M ↔ S k = true) → M.length = n → Q (.ref p) s') :
    wpAny (model P w) A (call (.builtin "sorted") [.ref a]) Q E s := by
  obtain ⟨o, es, ep, t, ho, hex, hd, g, nd, hm, ⟨hb, hf, hn⟩, hr, hl⟩ := R
  have line : n ≤ sizeLine := Nat.le_trans small (by decide)
  refine Calls.call_function_entry kind_sorted plain_sorted entry_sorted (args_sorted1 _) ?_
  unfold Builtin.«sorted»
  refine wpAny_bind (m := checkCount "sorted" 1 1 _) (wpAny_pure ?_)
  refine wpAny_bind (collect_set (A := A.in1) calm ⟨o, ho, hex.1, hd⟩ hf hb hr hl fun s1 vs k1 hz g1 o1 pm => ?_)
  have many : vs.length = n := by rw [pm.length_eq, List.length_map, Array.length_toList]; exact hn
  have each := each_text vs fun v hv => by
    obtain ⟨e, he, q⟩ := List.mem_map.mp (pm.mem_iff.mp hv)
    obtain ⟨k, tk, h1, _⟩ := g e he
    exact ⟨k, tk, by rw [← q]; exact h1⟩
  have pk : (vs.map textIn).Perm (es.toList.map txtOf) := by
    have q := pm.map textIn
    rw [List.map_map] at q
    exact q
  have nd2 : (vs.map textIn).Nodup := pk.nodup_iff.mpr nd
  refine wpAny_bind (wpAny_newList ?_ (by rw [many]; exact line))
  have laid : (s1.heap.push (seqObj "list" vs.toArray 0)).get? s1.heap.objs.size = some (seqObj "list" vs.toArray 0) := Heap.get?_push_size _ rfl
  refine wpAny_bind (wpAny_holding (PySem.W.list_sort_data (s := { s1 with heap := s1.heap.push (seqObj "list" vs.toArray 0) }) (enc := PyData.str) (bs := vs.map textIn) laid each (each.mono fun v b ⟨t, e⟩ => ⟨[], by rw [e]; exact .str _ _, by simp⟩) ?_ ?_ ?_ ?_ fun out len outs => ?_))
  · intro d hd d' hd'
    obtain ⟨x, _, rfl⟩ := List.mem_map.mp hd
    obtain ⟨y, _, rfl⟩ := List.mem_map.mp hd'
    rfl
  · exact .others (enc := PyData.str) fun b => ⟨fun z => (by cases z), fun xs z => (by cases z)⟩
  · rw [List.length_map, many]; exact line
  · intro b _
    show A.units + 1 + 1 + 0 < cLine
    omega
  · obtain ⟨c, hc⟩ := sortedHeap_at (vs := vs) (out := out.toArray) laid
    rw [show PySem.W.dataLe false PyData.str = leS from dataLe_s] at outs
    have pn : ((vs.map textIn).mergeSort leS).Perm (es.toList.map txtOf) := (List.mergeSort_perm _ _).trans pk
    refine wpAny_pure ⟨_, rfl, hQ _ s1.heap.objs.size out.toArray c ((vs.map textIn).mergeSort leS) (fun b u e => ?_) g1 o1 hz hc (by simpa using vals_text outs) (texts_of nd2) (fun k => by rw [pn.mem_iff, ← hm k]) ?_⟩
    · have q := k1 b u e
      have hlt := Heap.lt_size q
      show (sortedHeap (s1.heap.push (seqObj "list" vs.toArray 0)) s1.heap.objs.size vs out.toArray).get? b = some u
      rw [sortedHeap_old (Nat.ne_of_lt hlt) (by rw [size_push']; exact Nat.lt_succ_of_lt hlt)]
      exact Heap.get?_push_of_some _ q
    · rw [pn.length_eq, List.length_map, Array.length_toList]; exact hn
end
/-- a set of texts in the heap -/
def TxO (w : World) (a : Addr) (S : Str → Bool) (n : Nat) : HO := .ext fun h => SetTx w h a S n
section
variable {X : Cx}
theorem txO_new {w : World} {P : Program} {H : Hp} {h : Heap} {a : Addr} {S : Str → Bool} {n : Nat} (R : SetTx w h a S n) : ObjOk P w H h a (TxO w a S n) := by
  have ⟨o, _, _, _, ho, _⟩ := R
  exact ⟨R, ⟨o, ho⟩, fun _ _ p k => SetTx.at p k⟩
theorem txO_get {pins : List (Addr × Obj)} {σ : L2.St} {H : Hp} {s : Shared} {a : Addr} {S : Str → Bool} {n : Nat} (I : Inv X pins σ H s) (ha : H a = some (TxO X.w a S n)) : SetTx X.w s.heap a S n := (I.hok a _ ha).1
/-- sorted(found) -/
def rSortTx (w : World) : List V → Hp → VK → Prop := fun vs H Q => ∃ (a : Addr) (S : Str → Bool) (n : Nat), vs = [V.ref a] ∧ H a = some (TxO w a S n) ∧ n ≤ 100000 ∧
  ∀ (M : List Str) (p : Addr), M.Pairwise sLt → (∀ k : Str, k ∈ M ↔ S k = true) → M.length = n → H p = none → Q (.ref p) (upd H p (.lst (M.map V.str)))
theorem cr_sortTx (hc : X.calm = true) (hu : X.A.units + 64 < cLine) : CallR X (.builtin "sorted") (rSortTx X.w) := by
  intro pins s σ H vs us Q I r h
  obtain ⟨a, S, n, rfl, ha, small, q⟩ := h
  have R := txO_get I ha
  rw [Vals.ref1 r]
  refine sorted_texts R (I.ok.hd hc) small hu fun s' p out c M k g o hp hg hv hs hm hl => ?_
  have line : (M.map V.str).length ≤ sizeLine := by rw [List.length_map, hl]; exact Nat.le_trans small (by decide)
  have free : H p = none := I.hok.fresh hp
  have J : Inv X pins σ (upd H p (.lst (M.map V.str))) { s with heap := s'.heap, gens := s'.gens, drawn := s'.drawn, toks := s'.toks } :=
    I.call (ch := []) (Un.laid k hp free) (I.hok.laid k hp ⟨line, out.toList, c, hv, hg⟩) (by rw [g]; exact I.bare) (fun _ z => nomatch z)
  have same : s' = { s with heap := s'.heap, gens := s'.gens, drawn := s'.drawn, toks := s'.toks } := by
    cases s'
    cases s
    cases o
    rfl
  rw [same]
  exact ⟨.ref p, _, J, rfl, q M p hs hm hl free⟩
/-- len(found) -/
theorem cr_lenTx : CallR X (.builtin "len") (fun vs H Q => ∃ (a : Addr) (S : Str → Bool) (n : Nat), vs = [V.ref a] ∧ H a = some (TxO X.w a S n) ∧ n ≤ 100000 ∧ Q (.int (n : Int)) H) := by
  intro pins s σ H vs us Q I r h
  obtain ⟨a, S, n, rfl, ha, small, q⟩ := h
  obtain ⟨o, es, ep, t, ho, hex, hd, _, _, _, ⟨_, hf, hn⟩, _⟩ := txO_get I ha
  rw [Vals.ref1 r]
  exact call_len_set ho hex hd hf (by rw [hn]; omega) ⟨.int (n : Int), H, I.tok _, ⟨_, by rw [hn]⟩, q⟩
end
end My
set_option maxHeartbeats 4000000
namespace My
open PySem PySem.Spec PyProof.Rows L2
/-! ### sets of whole numbers -/
def inI (xs : List Int) : Int → Bool := fun j => decide (j ∈ xs)
section
variable {prog : Program} {w : World} {A : Around} {E : Value → Shared → Prop} {s : Shared}
theorem set_of_ints {q : Addr} {ys : Array Value} {xs : List Int} {Q : Value → Shared → Prop}
    (calm : A.handled = none) (hq : s.heap.IsList q ys) (hx : PyProof.Rows.IntsAre ys.toList xs) (few : xs.length + 1 < scanBound)
    (k : ∀ (h' : Heap) (tk m : Nat), m ≤ xs.length → SetR w h' s.heap.objs.size (inI xs) m →
      (∀ b o, b < s.heap.objs.size → s.heap.get? b = some o → h'.get? b = some o) → Q (.ref s.heap.objs.size) { s with heap := h', toks := tk }) :
    wpAny (model prog w) A (call (.type "set") [.ref q]) Q E s := by
  obtain ⟨c, tl, hmro⟩ := PySem.F.called_set.mro
  have hmade := PySem.F.called_set.made
  have hsub := PySem.F.called_set.sub
  refine wpAny_call (codeAny_of_tree ?_)
  show wpAny _ _ (callAny (.type "set") _) _ _ _
  refine wpAny_pure ⟨Code.quiet_builtin _ (by decide +kernel), codeAny_builtin PySem.F.entry_type_call ?_⟩
  rw [Around.under_plain (weight_type_call_type "set" [.ref q] []) rfl]
  have h1 := PySem.F.called_set.notType
  have h2 := PySem.F.called_set.canCreate
  have hct := PySem.F.typeCall_set_1 (.ref q)
  repeat (any_goals (first | assumption | wp_step))
  refine codeAny_mono (set_made (w := w) (.ref q) (E := E) (Q₁ := fun obj s₁ => obj = .ref s.heap.objs.size ∧ s₁ = { s with heap := s.heap.push (newSet w) }) ⟨rfl, rfl⟩) fun r s₁ hr => ?_
  cases r with
  | error e => exact hr
  | ok fl =>
    cases fl with
    | ret obj =>
      obtain ⟨rfl, rfl⟩ := hr
      have hS : (s.heap.push (newSet w)).get? s.heap.objs.size = some (newSet w) := Heap.get?_push_size _ rfl
      have hT : Shared.TypeIs { s with heap := s.heap.push (newSet w) } (.ref s.heap.objs.size) "set" := ⟨_, hS, rfl⟩
      have hli := PySem.F.called_set.init.lookup
      have hbi := PySem.F.called_set.init.bind (.ref s.heap.objs.size)
      repeat (any_goals (first | assumption | wp_step))
      refine codeAny_mono (codeAny_call_builtin (R := wants (fun r s₂ => r = .none ∧ ∃ h' tk m, s₂ = { s with heap := h', toks := tk } ∧ m ≤ xs.length ∧
          SetR w h' s.heap.objs.size (inI xs) m ∧
          (∀ b o, b < s.heap.objs.size → s.heap.get? b = some o → h'.get? b = some o)) E) PySem.F.called_set.init.plain PySem.F.entry_set_init (check_set_init_1 hT ?_)) fun r₂ s₂ hr₂ => ?_
      · obtain ⟨ol, hol, hcl, nl, hdl⟩ := hq
        obtain ⟨ocls, odict, odata, oslots⟩ := ol
        simp only at hcl hdl
        subst hcl; subst hdl
        have hol' : (s.heap.push (newSet w)).get? q = some { cls := .type "list", dict := odict, data := .seq ys nl, slots := oslots } := Heap.get?_push_of_some _ hol
        have hsls := PySem.F.sub_list_set
        have hslf := PySem.F.sub_list_frozenset
        have hne : (Value.type "list" == Value.type "dict") = false := by decide
        have hl1 : (s.heap.push (newSet w)).IsList q ys := ⟨_, hol', rfl, nl, rfl⟩
        unfold Builtin.«set.__init__» noKeywords Builtin.Frozenset.updateFrom
        generalize hPI : pyIter = PI
        wp_walk
        subst hPI
        refine wpAny_pyIter_list hl1 (wpAny_bind (wpAny_runValue ?_))
        have qS : q < s.heap.objs.size := Heap.lt_size hol
        have calm3 : A.in1.in1.in1.handled = none := by simp [calm]
        have z1 : (s.heap.push (newSet w)).objs.size = s.heap.objs.size + 1 := Heap.size_push ..
        have qI : q ≠ (s.heap.push (newSet w)).objs.size := by
          rw [z1]; exact Nat.ne_of_lt (Nat.lt_succ_of_lt qS)
        have away : s.heap.objs.size ∉ [(s.heap.push (newSet w)).objs.size, q] := by
          rw [z1]; simp only [List.mem_cons, List.mem_singleton, List.not_mem_nil, or_false, not_or]
          exact ⟨Nat.ne_of_lt (Nat.lt_succ_self _), Nat.ne_of_gt qS⟩
        have sz : ys.size = xs.length := by
          have q := PyProof.Rows.IntsAre.length hx
          rw [Array.length_toList] at q
          exact q
        have rd : ∀ (i : Nat) (v : Value), ys[i]? = some v → ∃ k t, xs[i]? = some k ∧ v = .int k t := fun i v hv => by
          have hi : i < xs.length := by rw [← sz]; exact (Array.getElem?_eq_some_iff.mp hv).1
          obtain ⟨t, e⟩ := PyProof.Rows.IntsAre.int_at hx i v (by rw [Array.getElem?_toList]; exact hv)
          refine ⟨xs[i], t, List.getElem?_eq_getElem hi, ?_⟩
          rw [e, List.getD_eq_getElem?_getD, List.getElem?_eq_getElem hi] <;> rfl
        refine L2.set_update_ints ((Walks.list calm3 _ q qI ys).toS) s.heap.objs.size
          away xs sz few rd (ys.size - 0) 0 _ (by omega) (Nat.zero_le _)
          ⟨⟨_, Heap.get?_push_size _ rfl, rfl, rfl⟩, (hl1.push _)⟩ ?start ?end_
        case start =>
          exact ⟨0, Nat.le_refl 0, setR_new_at (Heap.get?_push_of_some _ hS)⟩
        case end_ =>
          intro s' m hm hle hS'
          obtain ⟨h', g', d', tk', os'⟩ := s'
          cases (show g' = s.gens from hm.gens)
          cases (show d' = s.drawn from hm.drawn)
          cases (show os' = s.os from hm.os)
          show wpAny _ _ _ _ _ _
          refine wpAny_pure ?_
          show wpAny _ _ (ret Value.none) _ _ _
          refine wpAny_pure ⟨rfl, h', tk', m, rfl, by rw [← sz]; exact hle, hS', fun b o hb e => ?_⟩
          have b1 : b ≠ s.heap.objs.size := Nat.ne_of_lt hb
          have b2 : b ≠ (s.heap.push (newSet w)).objs.size := by
            rw [z1]; exact Nat.ne_of_lt (Nat.lt_succ_of_lt hb)
          exact hm.heap b o (by simp only [List.mem_cons, List.mem_singleton, List.not_mem_nil, or_false, not_or]; exact ⟨b1, b2⟩) (Heap.get?_push_of_some _ (Heap.get?_push_of_some _ e))
      · cases r₂ with
        | error e => exact hr₂
        | ok fl₂ =>
          cases fl₂ with
          | ret r =>
            obtain ⟨rfl, h', tk, m, rfl, hle, hS', keep⟩ := hr₂
            repeat (any_goals (first | assumption | wp_step))
            exact k _ _ m hle hS' keep
          | _ => exact hr₂.elim
    | _ => exact hr.elim
set_option maxHeartbeats 3200000 in

theorem ints_many {w : World} {h : Heap} {a : Addr} {xs : List Int} {n : Nat} (R : SetR w h a (inI xs) n) (D : List Int) (hD : D.Nodup) (hm : ∀ k, k ∈ D ↔ k ∈ xs) : D.length = n := by
  obtain ⟨o, es, ep, t, _, _, _, _, nd, hS, _, _, hn, _⟩ := R
  have p : D.Perm (es.toList.map keyOf) := (List.perm_ext_iff_of_nodup hD nd).mpr fun k => by
    rw [hm, ← hS k]
    unfold inI
    rw [decide_eq_true_iff]
  rw [p.length_eq, List.length_map, Array.length_toList, hn]
end
def InO (w : World) (a : Addr) (S : Int → Bool) (n : Nat) : HO := .ext fun h => SetR w h a S n
section
variable {X : Cx}
theorem inO_new {w : World} {P : Program} {H : Hp} {h : Heap} {a : Addr} {S : Int → Bool} {n : Nat} (R : SetR w h a S n) : ObjOk P w H h a (InO w a S n) := by
  have ⟨o, _, _, _, ho, _⟩ := R
  exact ⟨R, ⟨o, ho⟩, fun _ _ p k => SetR.at p k⟩
theorem inO_get {pins : List (Addr × Obj)} {σ : L2.St} {H : Hp} {s : Shared} {a : Addr} {S : Int → Bool} {n : Nat} (I : Inv X pins σ H s) (ha : H a = some (InO X.w a S n)) : SetR X.w s.heap a S n := (I.hok a _ ha).1
def rSetIn (K : PySem.W.Frag) (w : World) : List V → Hp → VK → Prop := fun vs H Q => ∃ (l : Addr) (xs : List Int), vs = [V.ref l] ∧ SqL K H l (xs.map V.int) ∧ xs.length ≤ 1000 ∧
  ∀ (p : Addr) (n : Nat), (∀ D : List Int, D.Nodup → (∀ k, k ∈ D ↔ k ∈ xs) → D.length = n) → n ≤ xs.length → H p = none → Q (.ref p) (upd H p (InO w p (inI xs) n))
theorem cr_setIn (hc : X.calm = true) : CallR X (.type "set") (rSetIn X.K X.w) := by
  intro pins s σ H vs us Q I r h
  obtain ⟨l, xs, rfl, hq, small, q⟩ := h
  rw [Vals.ref1 r]
  have few : xs.length + 1 < scanBound := by unfold scanBound; omega
  obtain ⟨its, rv, pl, hz⟩ := I.list hq
  exact set_of_ints (I.ok.hd hc) pl.isList (by simpa using ints_of_vals rv) few fun h' tk m hle R keep =>
    ⟨.ref _, upd H s.heap.objs.size (InO X.w s.heap.objs.size (inI xs) m), I.laid (t' := tk) (fun b u e => keep b u (Heap.lt_size e) e) (Nat.le_refl _) (inO_new R), rfl, q _ m (ints_many R) hle (I.hok.fresh (Nat.le_refl _))⟩
def rSortIn (w : World) : List V → Hp → VK → Prop := fun vs H Q => ∃ (a : Addr) (S : Int → Bool) (n : Nat), vs = [V.ref a] ∧ H a = some (InO w a S n) ∧ n < 64 ∧
  ∀ (M : List Int) (p : Addr), M.Pairwise (· < ·) → (∀ k : Int, k ∈ M ↔ S k = true) → M.length = n → H p = none → Q (.ref p) (upd H p (.lst (M.map V.int)))
theorem cr_sortIn (hc : X.calm = true) : CallR X (.builtin "sorted") (rSortIn X.w) := by
  intro pins s σ H vs us Q I r h
  obtain ⟨a, S, n, rfl, ha, small, q⟩ := h
  have R := inO_get I ha
  rw [Vals.ref1 r]
  refine L2.sorted_set R (I.ok.hd hc) small fun s' p out c M k g o hp hg hv hs hm hl => ?_
  have line : (M.map V.int).length ≤ sizeLine := by rw [List.length_map, hl]; exact Nat.le_trans (Nat.le_of_lt small) (by decide)
  have free : H p = none := I.hok.fresh hp
  have J : Inv X pins σ (upd H p (.lst (M.map V.int))) { s with heap := s'.heap, gens := s'.gens, drawn := s'.drawn, toks := s'.toks } :=
    I.call (ch := []) (Un.laid k hp free) (I.hok.laid k hp ⟨line, out.toList, c, vals_of_ints hv, hg⟩) (by rw [g]; exact I.bare) (fun _ z => nomatch z)
  have same : s' = { s with heap := s'.heap, gens := s'.gens, drawn := s'.drawn, toks := s'.toks } := by
    cases s'
    cases s
    cases o
    rfl
  rw [same]
  exact ⟨.ref p, _, J, rfl, q M p hs hm hl free⟩
theorem cr_lenIn : CallR X (.builtin "len") (fun vs H Q => ∃ (a : Addr) (S : Int → Bool) (n : Nat), vs = [V.ref a] ∧ H a = some (InO X.w a S n) ∧ n ≤ 100000 ∧ Q (.int (n : Int)) H) := by
  intro pins s σ H vs us Q I r h
  obtain ⟨a, S, n, rfl, ha, small, q⟩ := h
  obtain ⟨o, es, ep, t, ho, hex, hd, _, _, _, _, hf, hn, _⟩ := inO_get I ha
  rw [Vals.ref1 r]
  exact call_len_set ho hex hd hf (by rw [hn]; omega) ⟨.int (n : Int), H, I.tok _, ⟨_, by rw [hn]⟩, q⟩
end
end My
/-! repr of whatever reads as data, and of a dict without items -/
namespace My
open PySem PySem.Spec PyProof.Rows L2
def Shows (K : PySem.W.Frag) (H : Hp) (v : V) (d : PyData) : Prop := Dp K H v d ∨ (d = .dict [] ∧ ∃ a, v = .ref a ∧ H a = some (.dK []))
section
variable {X : Cx}
theorem call_repr_any (quiet : X.A.guards = some []) (hu : X.A.units + 70 < cLine) : CallR X (.builtin "repr") (fun xs H Q => ∃ v d, xs = [v] ∧ Shows X.K H v d ∧ d.showable = true ∧ (d.hasDict = true → d = .dict []) ∧ d.depth ≤ 60 ∧ d.shown.length ≤ sizeLine ∧ Q (.str d.shown) H) := by
  intro pins s σ H xs us Q I r h
  obtain ⟨v, d, rfl, hd, hs, hnd, hdp, hz, q⟩ := h
  obtain ⟨u, rfl, e⟩ := vals1 r
  rcases hd with hd | ⟨rfl, a, rfl, ha⟩
  · have hn : d.hasDict = false := by
      cases c : d.hasDict with
      | false => rfl
      | true =>
        have := hnd c
        subst this
        cases hd
    cases v with
    | ref a =>
      cases e
      obtain ⟨as, rd⟩ := Dp.reads I d _ _ hd (rfl : RelV (.ref a) (.ref a))
      exact repr_of_reads' rd hs (PyData.noDict_hsm hn) quiet (by omega) (fun _ _ e => e) (fun h' u tk hk => ⟨.str _, H, I.kept hk, ⟨_, rfl⟩, q⟩) hz
    | non =>
      cases e
      cases hd
      exact PySem.P.repr_of_none ⟨.str _, H, I.tok _, ⟨_, rfl⟩, q⟩
    | bl b =>
      cases e
      cases hd
      have e2 : PyData.shown (.bool b) = (if b = true then Str.ofString "True" else Str.ofString "False") := by cases b <;> rfl
      rw [e2] at q
      exact PySem.P.repr_of_bool ⟨.str _, H, I.tok _, ⟨_, rfl⟩, q⟩
    | int i =>
      obtain ⟨t, rfl⟩ := e
      cases hd
      exact PySem.P.repr_of_int (by simpa [PyData.showable] using hs) ⟨.str _, H, I.tok _, ⟨_, rfl⟩, q⟩
    | str x =>
      obtain ⟨t, rfl⟩ := e
      cases hd
      exact PySem.P.repr_of_str ⟨.str _, H, I.tok _, ⟨_, rfl⟩, q⟩ (by simpa only [PyData.shown] using hz)
    | _ => cases hd
  · cases e
    obtain ⟨_, lo, vs, kv, o, es, ep, h1, h2, h3, _, h5, _⟩ := dk_of I.hok ha
    cases kv
    have hes : es.toList = [] := by
      cases hh : es.toList with
      | nil => rfl
      | cons a b =>
        rw [hh] at h5
        cases h5
    have rd : Reads s.heap (.ref a) (.dict []) (a :: [] ++ []) := .dict h1 h2.1 h3 (by rw [hes]; exact .nil) (by rw [hes]; exact .nil)
    refine repr_of_reads' rd hs (fun _ hm => ?_) quiet (by omega) (fun _ _ e => e) (fun h' u tk hk => ⟨.str _, H, I.kept hk, ⟨_, rfl⟩, q⟩) hz
    have := List.mem_singleton.mp hm
    rw [← this] at lo
    simp at lo
end
end My
namespace My
open PySem L2 PyProof.Rows
def topS (i : Nat) : Stmt := PySem.Challenge.pw_suretexts_k32_whole_sure_by_windows.main.body.getD i (.Pass ⟨0, 0, 0, 0⟩)
abbrev s_wall : Stmt := topS 0
theorem sc_wall : FnScope ["k"] ["k"] (defScope s_wall) := ⟨rfl, rfl, rfl, by decide +kernel, rfl, by decide +kernel, by decide +kernel⟩
abbrev sis_integer : Stmt := topS 11
theorem scis_integer : FnScope ["value"] ["value"] (defScope sis_integer) := ⟨rfl, rfl, rfl, by decide +kernel, rfl, by decide +kernel, by decide +kernel⟩
abbrev sis_count : Stmt := topS 12
theorem scis_count : FnScope ["value"] ["value"] (defScope sis_count) := ⟨rfl, rfl, rfl, by decide +kernel, rfl, by decide +kernel, by decide +kernel⟩
abbrev sis_between : Stmt := topS 13
theorem scis_between : FnScope ["value", "least", "most"] ["value", "least", "most"] (defScope sis_between) := ⟨rfl, rfl, rfl, by decide +kernel, rfl, by decide +kernel, by decide +kernel⟩
abbrev sis_below : Stmt := topS 14
theorem scis_below : FnScope ["value", "limit"] ["value", "limit"] (defScope sis_below) := ⟨rfl, rfl, rfl, by decide +kernel, rfl, by decide +kernel, by decide +kernel⟩
abbrev sis_listed : Stmt := topS 15
theorem scis_listed : FnScope ["value"] ["value"] (defScope sis_listed) := ⟨rfl, rfl, rfl, by decide +kernel, rfl, by decide +kernel, by decide +kernel⟩
abbrev sparts_in_turn : Stmt := topS 17
theorem scparts_in_turn : FnScope ["points", "steps", "ahead", "behind", "near", "far", "_", "left", "seen", "point", "parts"] ["points", "steps"] (defScope sparts_in_turn) := ⟨rfl, rfl, rfl, by decide +kernel, rfl, by decide +kernel, by decide +kernel⟩
abbrev s_left_from : Stmt := topS 18
theorem sc_left_from : FnScope ["ends", "point", "seen", "left", "trail", "here", "at", "end"] ["ends", "point", "seen"] (defScope s_left_from) := ⟨rfl, rfl, rfl, by decide +kernel, rfl, by decide +kernel, by decide +kernel⟩
abbrev slongest_borders : Stmt := topS 20
theorem sclongest_borders : FnScope ["word", "lengths", "kept", "sign"] ["word"] (defScope slongest_borders) := ⟨rfl, rfl, rfl, by decide +kernel, rfl, by decide +kernel, by decide +kernel⟩
abbrev sare_ties : Stmt := topS 25
theorem scare_ties : FnScope ["places", "value", "tie"] ["places", "value"] (defScope sare_ties) := ⟨rfl, rfl, rfl, by decide +kernel, rfl, by decide +kernel, by decide +kernel⟩
abbrev sneed_web : Stmt := topS 27
theorem scneed_web : FnScope ["web"] ["web"] (defScope sneed_web) := ⟨rfl, rfl, rfl, by decide +kernel, rfl, by decide +kernel, by decide +kernel⟩
abbrev sneed_place : Stmt := topS 28
theorem scneed_place : FnScope ["web", "place"] ["web", "place"] (defScope sneed_place) := ⟨rfl, rfl, rfl, by decide +kernel, rfl, by decide +kernel, by decide +kernel⟩
abbrev sare_numbers : Stmt := topS 29
theorem scare_numbers : FnScope ["web", "value", "tie"] ["web", "value"] (defScope sare_numbers) := ⟨rfl, rfl, rfl, by decide +kernel, rfl, by decide +kernel, by decide +kernel⟩
abbrev s_go_on : Stmt := topS 30
theorem sc_go_on : FnScope ["web", "value", "longest", "ties", "at"] ["web", "value", "longest"] (defScope s_go_on) := ⟨rfl, rfl, rfl, by decide +kernel, rfl, by decide +kernel, by decide +kernel⟩
abbrev sis_walk : Stmt := topS 31
theorem scis_walk : FnScope ["web", "value"] ["web", "value"] (defScope sis_walk) := ⟨rfl, rfl, rfl, by decide +kernel, rfl, by decide +kernel, by decide +kernel⟩
abbrev sneed_walk : Stmt := topS 32
theorem scneed_walk : FnScope ["web", "walk"] ["web", "walk"] (defScope sneed_walk) := ⟨rfl, rfl, rfl, by decide +kernel, rfl, by decide +kernel, by decide +kernel⟩
abbrev sweb_steps : Stmt := topS 33
theorem scweb_steps : FnScope ["web", "tie", "near", "far"] ["web"] (defScope sweb_steps) := ⟨rfl, rfl, rfl, by decide +kernel, rfl, by decide +kernel, by decide +kernel⟩
abbrev sparts_of : Stmt := topS 35
theorem scparts_of : FnScope ["web"] ["web"] (defScope sparts_of) := ⟨rfl, rfl, rfl, by decide +kernel, rfl, by decide +kernel, by decide +kernel⟩
abbrev sis_close : Stmt := topS 36
theorem scis_close : FnScope ["web"] ["web"] (defScope sis_close) := ⟨rfl, rfl, rfl, by decide +kernel, rfl, by decide +kernel, by decide +kernel⟩
abbrev sneed_close : Stmt := topS 37
theorem scneed_close : FnScope ["web"] ["web"] (defScope sneed_close) := ⟨rfl, rfl, rfl, by decide +kernel, rfl, by decide +kernel, by decide +kernel⟩
abbrev sneed_walk_of_close : Stmt := topS 38
theorem scneed_walk_of_close : FnScope ["web", "walk"] ["web", "walk"] (defScope sneed_walk_of_close) := ⟨rfl, rfl, rfl, by decide +kernel, rfl, by decide +kernel, by decide +kernel⟩
abbrev sfalls : Stmt := topS 40
theorem scfalls : FnScope ["web", "walk"] ["web", "walk"] (defScope sfalls) := ⟨rfl, rfl, rfl, by decide +kernel, rfl, by decide +kernel, by decide +kernel⟩
abbrev stable : Stmt := topS 41
theorem sctable : FnScope ["web", "walk", "fallen", "rows", "state", "tie", "row"] ["web", "walk"] (defScope stable) := ⟨rfl, rfl, rfl, by decide +kernel, rfl, by decide +kernel, by decide +kernel⟩
abbrev s_standings : Stmt := topS 43
theorem sc_standings : FnScope ["web", "walk", "ties", "behind", "state", "place"] ["web", "walk"] (defScope s_standings) := ⟨rfl, rfl, rfl, by decide +kernel, rfl, by decide +kernel, by decide +kernel⟩
abbrev s_steps : Stmt := topS 44
theorem sc_steps : FnScope ["web", "walk", "standings", "ties", "rows", "positions", "at", "standing", "steps", "place", "state", "tie"] ["web", "walk", "standings"] (defScope s_steps) := ⟨rfl, rfl, rfl, by decide +kernel, rfl, by decide +kernel, by decide +kernel⟩
abbrev sproduct : Stmt := topS 45
theorem scproduct : FnScope ["web", "walk", "standings"] ["web", "walk"] (defScope sproduct) := ⟨rfl, rfl, rfl, by decide +kernel, rfl, by decide +kernel, by decide +kernel⟩
abbrev s_parts_with_steps : Stmt := topS 46
theorem sc_parts_with_steps : FnScope ["web", "walk", "standings", "steps", "lots", "numbers", "number", "lot", "at", "within", "step", "_"] ["web", "walk"] (defScope s_parts_with_steps) := ⟨rfl, rfl, rfl, by decide +kernel, rfl, by decide +kernel, by decide +kernel⟩
abbrev s_ties_of : Stmt := topS 47
theorem sc_ties_of : FnScope ["steps", "step"] ["steps"] (defScope s_ties_of) := ⟨rfl, rfl, rfl, by decide +kernel, rfl, by decide +kernel, by decide +kernel⟩
abbrev sparts_without : Stmt := topS 48
theorem scparts_without : FnScope ["web", "walk", "lot", "within"] ["web", "walk"] (defScope sparts_without) := ⟨rfl, rfl, rfl, by decide +kernel, rfl, by decide +kernel, by decide +kernel⟩
abbrev sis_sure_plain : Stmt := topS 49
theorem scis_sure_plain : FnScope ["web", "walk", "_", "ties"] ["web", "walk"] (defScope sis_sure_plain) := ⟨rfl, rfl, rfl, by decide +kernel, rfl, by decide +kernel, by decide +kernel⟩
abbrev sis_sure_in_lots : Stmt := topS 50
theorem scis_sure_in_lots : FnScope ["web", "walk", "in_parts", "_", "ties", "tie"] ["web", "walk"] (defScope sis_sure_in_lots) := ⟨rfl, rfl, rfl, by decide +kernel, rfl, by decide +kernel, by decide +kernel⟩
abbrev s_law_pot : Stmt := topS 52
theorem sc_law_pot : FnScope ["_law_script", "_law_k", "_law_cell", "_law_mixed"] ["_law_script", "_law_k"] (defScope s_law_pot) := ⟨rfl, rfl, rfl, by decide +kernel, rfl, by decide +kernel, by decide +kernel⟩
abbrev s_law_draw : Stmt := topS 53
theorem sc_law_draw : FnScope ["_law_pot_here", "_law_sides", "_law_digit"] ["_law_pot_here", "_law_sides"] (defScope s_law_draw) := ⟨rfl, rfl, rfl, by decide +kernel, rfl, by decide +kernel, by decide +kernel⟩
abbrev s_law_pick : Stmt := topS 54
theorem sc_law_pick : FnScope ["_law_pot_here", "_law_some"] ["_law_pot_here", "_law_some"] (defScope s_law_pick) := ⟨rfl, rfl, rfl, by decide +kernel, rfl, by decide +kernel, by decide +kernel⟩
abbrev s_law_ties : Stmt := topS 55
theorem sc_law_ties : FnScope ["_law_pot_here", "_law_places", "_law_more", "_law_ties_here", "_law_turn", "_law_found", "_law_place"] ["_law_pot_here", "_law_places", "_law_more"] (defScope s_law_ties) := ⟨rfl, rfl, rfl, by decide +kernel, rfl, by decide +kernel, by decide +kernel⟩
abbrev s_law_walk : Stmt := topS 56
theorem sc_law_walk : FnScope ["_law_pot_here", "_law_ties_here", "_law_many", "_law_found", "_law_turn", "_law_here", "_law_some", "_law_tie"] ["_law_pot_here", "_law_ties_here", "_law_many"] (defScope s_law_walk) := ⟨rfl, rfl, rfl, by decide +kernel, rfl, by decide +kernel, by decide +kernel⟩
abbrev s_law_walks : Stmt := topS 57
theorem sc_law_walks : FnScope ["_law_ties_here", "_law_many", "_law_found", "_law_turn", "_law_longer", "_law_one", "_law_tie"] ["_law_ties_here", "_law_many"] (defScope s_law_walks) := ⟨rfl, rfl, rfl, by decide +kernel, rfl, by decide +kernel, by decide +kernel⟩
abbrev s_law_steps : Stmt := topS 58
theorem sc_law_steps : FnScope ["_law_ties_here", "_law_walk_here", "_law_found", "_law_one", "_law_tie"] ["_law_ties_here", "_law_walk_here"] (defScope s_law_steps) := ⟨rfl, rfl, rfl, by decide +kernel, rfl, by decide +kernel, by decide +kernel⟩
abbrev s_law_come_to : Stmt := topS 59
theorem sc_law_come_to : FnScope ["_law_steps_here", "_law_near", "_law_met", "_law_row", "_law_after", "_law_one", "_law_other", "_law_tie"] ["_law_steps_here", "_law_near"] (defScope s_law_come_to) := ⟨rfl, rfl, rfl, by decide +kernel, rfl, by decide +kernel, by decide +kernel⟩
abbrev s_law_lots : Stmt := topS 60
theorem sc_law_lots : FnScope ["_law_ties_here", "_law_walk_here", "_law_steps_here", "_law_spots", "_law_reaches", "_law_lots_here", "_law_spot", "_law_lot", "_law_near", "_law_far", "_law_tie", "_law_step"] ["_law_ties_here", "_law_walk_here"] (defScope s_law_lots) := ⟨rfl, rfl, rfl, by decide +kernel, rfl, by decide +kernel, by decide +kernel⟩
abbrev s_law_right : Stmt := topS 61
theorem sc_law_right : FnScope ["_law_pot_here", "_law_places", "_law_ties_here", "_law_web", "_law_all_ties", "_law_turn", "_law_walk_here", "_law_lots_here", "_law_sure", "_law_met", "_law_tie", "_law_lot"] ["_law_pot_here"] (defScope s_law_right) := ⟨rfl, rfl, rfl, by decide +kernel, rfl, by decide +kernel, by decide +kernel⟩
abbrev slaw : Stmt := topS 62
theorem sclaw : FnScope ["_law_script"] ["_law_script"] (defScope slaw) := ⟨rfl, rfl, rfl, by decide +kernel, rfl, by decide +kernel, by decide +kernel⟩
abbrev sWeb___init__ : Stmt := inClass (topS 26) 0
theorem scWeb___init__ : FnScope ["self", "places", "ties", "tie", "ends", "_"] ["self", "places", "ties"] (defScope sWeb___init__) := ⟨rfl, rfl, rfl, by decide +kernel, rfl, by decide +kernel, by decide +kernel⟩
abbrev sWeb___eq__ : Stmt := inClass (topS 26) 1
theorem scWeb___eq__ : FnScope ["self", "other"] ["self", "other"] (defScope sWeb___eq__) := ⟨rfl, rfl, rfl, by decide +kernel, rfl, by decide +kernel, by decide +kernel⟩
abbrev sWeb_places : Stmt := inClass (topS 26) 2
theorem scWeb_places : FnScope ["self"] ["self"] (defScope sWeb_places) := ⟨rfl, rfl, rfl, by decide +kernel, rfl, by decide +kernel, by decide +kernel⟩
abbrev sWeb_many : Stmt := inClass (topS 26) 3
theorem scWeb_many : FnScope ["self"] ["self"] (defScope sWeb_many) := ⟨rfl, rfl, rfl, by decide +kernel, rfl, by decide +kernel, by decide +kernel⟩
abbrev sWeb_ties : Stmt := inClass (topS 26) 4
theorem scWeb_ties : FnScope ["self"] ["self"] (defScope sWeb_ties) := ⟨rfl, rfl, rfl, by decide +kernel, rfl, by decide +kernel, by decide +kernel⟩
abbrev sWeb_ties_from : Stmt := inClass (topS 26) 5
theorem scWeb_ties_from : FnScope ["self", "place"] ["self", "place"] (defScope sWeb_ties_from) := ⟨rfl, rfl, rfl, by decide +kernel, rfl, by decide +kernel, by decide +kernel⟩
abbrev sWeb_ties_to : Stmt := inClass (topS 26) 6
theorem scWeb_ties_to : FnScope ["self", "place"] ["self", "place"] (defScope sWeb_ties_to) := ⟨rfl, rfl, rfl, by decide +kernel, rfl, by decide +kernel, by decide +kernel⟩
structure Bs (mg : Str → Option Value) : Prop where
  isinstance : mg "isinstance" = none
  int : mg "int" = none
  bool : mg "bool" = none
  list : mg "list" = none
  tuple : mg "tuple" = none
  len : mg "len" = none
  range : mg "range" = none
  abs : mg "abs" = none
  max : mg "max" = none
  min : mg "min" = none
  divmod : mg "divmod" = none
  enumerate : mg "enumerate" = none
  sorted : mg "sorted" = none
  all : mg "all" = none
  any : mg "any" = none
  repr : mg "repr" = none
  set : mg "set" = none
  dict : mg "dict" = none
structure Glo (mg : Str → Option Value) : Prop where
  MOST_PLACES : ∃ t, mg "MOST_PLACES" = some (.int 60 t)
  MOST_TIES : ∃ t, mg "MOST_TIES" = some (.int 80 t)
  LONGEST_WALK : ∃ t, mg "LONGEST_WALK" = some (.int 400 t)
structure WebK (K : PySem.W.Frag) (mg : Str → Option Value) (C : Addr) : Prop where
  cl : Cls K C
  nP : NoAttr K C "_places"
  nT : NoAttr K C "_ties"
  nF : NoAttr K C "_ties_from"
  nO : NoAttr K C "_ties_to"
  mgC : mg "Web" = some (.ref C)
  i1 : PySem.W.findIn K (.ref C) "__class__" = some (some (.builtin "object.__class__"))
  i2 : PySem.W.specialIn K (.builtin "object.__class__") "__get__" = some (some (.builtin "getset_descriptor.__get__"))
  i3 : PySem.W.takesIn K (.builtin "object.__class__") = some true
  i4 : PySem.W.mroIn K C (.type "object") = some true
  i5 : PySem.W.kitOne K (.ref C) (.ref C) = some true
  ne : PySem.W.findIn K (.ref C) "__ne__" = some (some (.builtin "object.__ne__"))
abbrev iv (L : List Nat) : List V := L.map fun n : Nat => V.int (n : Int)
theorem same_new {H : Hp} {p : Addr} (h : H p = none) (o : HO) : Same H (upd H p o) := fun b u q => by rw [upd_ne (ne_of_none q h)]; exact q
theorem iteNo {c A B : Prop} [Decidable c] (h : ¬ c) (b : B) : if decide c = true then A else B := by
  rw [decide_eq_false h]
  exact iteF b
theorem iteNot {c A B : Prop} [Decidable c] (h : ¬ c) (a : A) : if (!decide c) = true then A else B := by
  rw [decide_eq_false h]
  exact iteT a
theorem iteNot' {c A B : Prop} [Decidable c] (h : c) (b : B) : if (!decide c) = true then A else B := by
  rw [decide_eq_true h]
  exact iteF b
theorem iteNN {c A B : Prop} [Decidable c] (h : ¬ c) (b : B) : if (!!decide c) = true then A else B := by
  rw [decide_eq_false h]
  exact iteF b
theorem iv_at {L : List Nat} {j b : Nat} (h : L[j]? = some b) : atI (iv L) (j : Int) = some (.int (b : Int)) := by
  refine atI_nat ?_
  rw [iv, List.getElem?_map, h]
  rfl
theorem iv_app (L : List Nat) (n : Nat) : iv (L ++ [n]) = iv L ++ [V.int (n : Int)] := by
  unfold iv
  rw [List.map_append]
  rfl
theorem same_upd {H H' : Hp} {p : Addr} {o : HO} (h : Same H H') (np : H p = none) : Same H (upd H' p o) := fun b u q => by
  rw [upd_ne (ne_of_none q np)]
  exact h b u q
theorem iteYes {c A B : Prop} [Decidable c] (h : c) (a : A) : if decide c = true then A else B := by
  rw [decide_eq_true h]
  exact iteT a
theorem bl_true {c : Prop} [Decidable c] {Q : VK} {H : Hp} (h : c) (q : Q (.bl true) H) : Q (.bl (decide c)) H := by
  rw [decide_eq_true h]
  exact q
theorem int_eq {a b : Int} : V.int a = V.int b ↔ a = b := ⟨fun h => V.int.inj h, fun h => by rw [h]⟩
/-! ### lists of ints compared -/
abbrev iz (L : List Int) : List V := L.map V.int
theorem iv_iz (L : List Nat) : iv L = iz (L.map fun n : Nat => (n : Int)) := by
  unfold iv iz
  rw [List.map_map]
  rfl
abbrev dz (L : List Int) : PyData := .list (L.map PyData.int)
theorem dpAll_iz {K : PySem.W.Frag} {H : Hp} : ∀ L : List Int, DpAll K H (iz L) (L.map PyData.int)
  | [] => .nil
  | n :: r => .cons (.int n) (dpAll_iz r)
theorem dp_iz {K : PySem.W.Frag} {H : Hp} {p : Addr} {L : List Int} (h : H p = some (.lst (iz L))) : Dp K H (.ref p) (dz L) := .lst (SqL.of h) (dpAll_iz L)
theorem layAll_iz : ∀ L : List Int, PyData.canLayAll0 (L.map PyData.int) = true
  | [] => rfl
  | n :: r => by
    show (PyData.canLay0 (.int n) && PyData.canLayAll0 (r.map PyData.int)) = true
    rw [layAll_iz r]
    rfl
theorem depthAll_iz : ∀ L : List Int, PyData.depthAll (L.map PyData.int) = 0
  | [] => rfl
  | n :: r => by
    show max (PyData.depth (.int n)) (PyData.depthAll (r.map PyData.int)) = 0
    rw [depthAll_iz r]
    rfl
theorem shaped_iz (L : List Int) : SeqAt.shaped (dz L) = true := by
  unfold SeqAt.shaped
  have h1 : PyData.canLay0 (dz L) = true := by
    show PyData.canLay0 (.list (L.map PyData.int)) = true
    unfold PyData.canLay0
    exact layAll_iz L
  have h2 : PyData.depth (dz L) = 1 := by
    show PyData.depth (.list (L.map PyData.int)) = 1
    unfold PyData.depth
    rw [depthAll_iz]
  rw [h1, h2]
  rfl
theorem eqv_same (L : List Int) : PyData.eqv (dz L) (dz L) = true := by
  have h1 : PyData.canLay0 (dz L) = true := by
    show PyData.canLay0 (.list (L.map PyData.int)) = true
    unfold PyData.canLay0
    exact layAll_iz L
  exact SeqAt.eqv_refl _ h1
theorem eqv_empty (L : List Int) : PyData.eqv (dz L) (dz []) = decide (L = []) := by
  cases L with
  | nil => rfl
  | cons n r => rfl
theorem iteNb {x : Bool} {A B : Prop} (h : x = true) (b : B) : if (!x) = true then A else B := by
  rw [h]
  exact iteF b
theorem bl_is {x : Bool} {Q : VK} {H : Hp} (h : x = true) (q : Q (.bl true) H) : Q (.bl x) H := by
  rw [h]
  exact q
/-! ### webs in the heap -/
def Kept (a : Addr) (H H' : Hp) : Prop := ∀ b o, H b = some o → b ≠ a → H' b = some o
theorem Kept.trans {a : Addr} {H H1 H2 : Hp} (h : Kept a H H1) (h2 : Kept a H1 H2) : Kept a H H2 := fun b o e n => h2 b o (h b o e n) n
theorem Same.kept {a : Addr} {H H' : Hp} (h : Same H H') : Kept a H H' := fun b o e _ => h b o e
theorem paired_get {α β : Type} {F : α → β → Prop} : ∀ {l1 : List α} {l2 : List β} {i : Nat} {a : α}, Paired F l1 l2 → l1[i]? = some a → ∃ b, l2[i]? = some b ∧ F a b
  | _, _, _, _, .nil, h => by simp at h
  | _, _, 0, _, .cons r _, h => ⟨_, rfl, by cases h; exact r⟩
  | _, _, i + 1, _, .cons _ t, h => by
    obtain ⟨b, h1, h2⟩ := paired_get (i := i) t (by simpa using h)
    exact ⟨b, by simpa using h1, h2⟩
theorem paired_mono {α β : Type} {F G : α → β → Prop} (h : ∀ a b, F a b → G a b) : ∀ {l1 : List α} {l2 : List β}, Paired F l1 l2 → Paired G l1 l2
  | _, _, .nil => .nil
  | _, _, .cons a r => .cons (h _ _ a) (paired_mono h r)
theorem paired_len {α β : Type} {F : α → β → Prop} : ∀ {l1 : List α} {l2 : List β}, Paired F l1 l2 → l1.length = l2.length
  | _, _, .nil => rfl
  | _, _, .cons _ r => congrArg Nat.succ (paired_len r)
def TupAt (H : Hp) (p : Addr) (e : Nat × Nat) : Prop := H p = some (.tup [.int (e.1 : Int), .int (e.2 : Int)])
def TiesAt (H : Hp) (t : Addr) (ts : List (Nat × Nat)) : Prop := ∃ tas : List Addr, H t = some (.lst (tas.map V.ref)) ∧ Paired (TupAt H) tas ts
theorem TiesAt.same {H H' : Hp} {t : Addr} {ts : List (Nat × Nat)} (h : TiesAt H t ts) (s : Same H H') : TiesAt H' t ts := by
  obtain ⟨tas, h1, h2⟩ := h
  exact ⟨tas, s _ _ h1, paired_mono (fun p e hp => s _ _ hp) h2⟩
structure OkWeb (N : Nat) (ts : List (Nat × Nat)) : Prop where
  n0 : 0 < N
  n1 : N ≤ 60
  m : ts.length ≤ 80
  ok : ∀ e ∈ ts, e.1 < N ∧ e.2 < N
theorem bl_false {c : Prop} [Decidable c] {Q : VK} {H : Hp} (h : ¬ c) (q : Q (.bl false) H) : Q (.bl (decide c)) H := by
  rw [decide_eq_false h]
  exact q
/-! ### values of every kind -/
/-- a value, and what whole number it is -/
inductive Num (H : Hp) : V → Option Int → Prop where
  | int (n : Int) : Num H (.int n) (some n)
  | non : Num H .non none
  | bl (b : Bool) : Num H (.bl b) none
  | str (s : Str) : Num H (.str s) none
  | lst {a : Addr} {xs : List V} (h : H a = some (.lst xs)) : Num H (.ref a) none
  | tup {a : Addr} {xs : List V} (h : H a = some (.tup xs)) : Num H (.ref a) none
  | dK {a : Addr} {ks : List (Key × V)} (h : H a = some (.dK ks)) : Num H (.ref a) none
theorem Num.same {H H' : Hp} {v : V} {o : Option Int} (h : Num H v o) (s : Same H H') : Num H' v o := by
  cases h with
  | int n => exact .int n
  | non => exact .non
  | bl b => exact .bl b
  | str x => exact .str x
  | lst h => exact .lst (s _ _ h)
  | tup h => exact .tup (s _ _ h)
  | dK h => exact .dK (s _ _ h)
theorem Num.some_is {H : Hp} {v : V} {n : Int} (h : Num H v (some n)) : v = .int n := by cases h; rfl
def inR (n : Nat) (o : Option Int) : Bool := o.any fun i => decide (0 ≤ i) && decide (i < (n : Int))
/-- a value, and what it lists -/
inductive Val (H : Hp) : V → Option (List (Option Int)) → Prop where
  | int (n : Int) : Val H (.int n) none
  | non : Val H .non none
  | bl (b : Bool) : Val H (.bl b) none
  | str (s : Str) : Val H (.str s) none
  | dK {a : Addr} {ks : List (Key × V)} (h : H a = some (.dK ks)) : Val H (.ref a) none
  | lst {a : Addr} {xs : List V} {os : List (Option Int)} (h : H a = some (.lst xs)) (p : Paired (Num H) xs os) : Val H (.ref a) (some os)
  | tup {a : Addr} {xs : List V} {os : List (Option Int)} (h : H a = some (.tup xs)) (p : Paired (Num H) xs os) : Val H (.ref a) (some os)
theorem Val.same {H H' : Hp} {v : V} {o : Option (List (Option Int))} (h : Val H v o) (s : Same H H') : Val H' v o := by
  cases h with
  | int n => exact .int n
  | non => exact .non
  | bl b => exact .bl b
  | str x => exact .str x
  | lst h p => exact .lst (s _ _ h) (paired_mono (fun a b q => q.same s) p)
  | tup h p => exact .tup (s _ _ h) (paired_mono (fun a b q => q.same s) p)
  | dK h => exact .dK (s _ _ h)
theorem inR_lt {u n : Nat} (h : u < n) : inR n (some (u : Int)) = true := by
  show (decide (0 ≤ (u : Int)) && decide ((u : Int) < (n : Int))) = true
  rw [decide_eq_true (by omega), decide_eq_true (by omega)]
  rfl
/-- ties, in a list or in a tuple -/
def TiesS (H : Hp) (t : Addr) (ts : List (Nat × Nat)) : Prop := ∃ tas : List Addr, (H t = some (.lst (tas.map V.ref)) ∨ H t = some (.tup (tas.map V.ref))) ∧ Paired (TupAt H) tas ts
theorem TiesS.same {H H' : Hp} {t : Addr} {ts : List (Nat × Nat)} (h : TiesS H t ts) (s : Same H H') : TiesS H' t ts := by
  obtain ⟨tas, h1, h2⟩ := h
  exact ⟨tas, h1.imp (s _ _) (s _ _), paired_mono (fun p e hp => s _ _ hp) h2⟩
theorem TiesAt.s {H : Hp} {t : Addr} {ts : List (Nat × Nat)} (h : TiesAt H t ts) : TiesS H t ts := by
  obtain ⟨tas, h1, h2⟩ := h
  exact ⟨tas, .inl h1, h2⟩
theorem ties_num {H : Hp} : ∀ {tas : List Addr} {ts : List (Nat × Nat)}, Paired (TupAt H) tas ts → Paired (Num H) (tas.map V.ref) (tas.map fun _ => none)
  | _, _, .nil => .nil
  | _, _, .cons h r => .cons (.tup h) (ties_num r)
theorem TiesS.val {H : Hp} {t : Addr} {ts : List (Nat × Nat)} (h : TiesS H t ts) : ∃ os, Val H (.ref t) (some os) := by
  obtain ⟨tas, h1 | h1, h2⟩ := h
  · exact ⟨_, .lst h1 (ties_num h2)⟩
  · exact ⟨_, .tup h1 (ties_num h2)⟩
section
variable {P : Program} {w : World} {K : PySem.W.Frag} {mg : Str → Option Value} {base : Heap} {C : Addr}
def spis_integer (_ : PySem.W.Frag) (_ : Addr) : Sp := fun vs H Q _ => ∃ v o, vs = [v] ∧ Num H v o ∧ Q (.bl o.isSome) H
theorem okis_integer (D : Def K mg "is_integer" sis_integer ["value"]) (B : Bs mg) (Glb : Glo mg) (WK : WebK K mg C) :
    Good P w K mg base "is_integer" sis_integer ["value"] 1 (spis_integer K C) := by
  refine D.good fun f fd F => ?_
  refine F.ok scis_integer (fun vs H Q E h => ?_) (fun cdv A outer s H vs Q E hr h => ?_)
  · obtain ⟨v, o, rfl, hv, q⟩ := h
    first | rfl | (rcases h with ⟨_, _, rfl, _⟩ | ⟨_, rfl, _⟩ <;> rfl)
  obtain ⟨v, o, rfl, hv, q⟩ := h
  refine ⟨_, (pss_one (ps_ret (pe_and (pe_callB call_isi (by rfl) B.isinstance (by decide +kernel) (pa_cons (pv 0) (pa_cons (pe_bltn (v := .ty "int") (by rfl) B.int (by decide +kernel) rfl) pa_nil))) (pe_one (pe_not (pe_callB call_isi (by rfl) B.isinstance (by decide +kernel) (pa_cons (pv 0) (pa_cons (pe_bltn (v := .ty "bool") (by rfl) B.bool (by decide +kernel) rfl) pa_nil)))))))), ?_⟩
  cases hv with
  | int n => exact ⟨_, rfl, _, _, _, _, true, rfl, .ty _, .base (.int n), kit_ty (by decide +kernel), _, rfl, iteT ⟨_, rfl, _, _, _, _, false, rfl, .ty _, .base (.int n), kit_ty (by decide +kernel), _, rfl, q⟩⟩
  | non => exact ⟨_, rfl, _, _, _, _, false, rfl, .ty _, .base .non, kit_ty (by decide +kernel), _, rfl, iteF q⟩
  | bl b => exact ⟨_, rfl, _, _, _, _, true, rfl, .ty _, .base (.bl b), kit_ty (by decide +kernel), _, rfl, iteT ⟨_, rfl, _, _, _, _, true, rfl, .ty _, .base (.bl b), kit_ty (by decide +kernel), _, rfl, q⟩⟩
  | str x => exact ⟨_, rfl, _, _, _, _, false, rfl, .ty _, .base (.str x), kit_ty (by decide +kernel), _, rfl, iteF q⟩
  | lst h => exact ⟨_, rfl, _, _, _, _, false, rfl, .ty _, .base (.lst h), kit_ty (by decide +kernel), _, rfl, iteF q⟩
  | tup h => exact ⟨_, rfl, _, _, _, _, false, rfl, .ty _, .base (.tup h), kit_ty (by decide +kernel), _, rfl, iteF q⟩
  | dK h => exact ⟨_, rfl, _, _, _, _, false, rfl, .ty _, .base (.dK h), kit_ty (by decide +kernel), _, rfl, iteF q⟩
def spis_count (_ : PySem.W.Frag) (_ : Addr) : Sp := fun vs H Q _ => ∃ v o, vs = [v] ∧ Num H v o ∧ Q (.bl (o.any fun i => decide (0 ≤ i))) H
theorem okis_count (D : Def K mg "is_count" sis_count ["value"]) (B : Bs mg) (Glb : Glo mg) (WK : WebK K mg C)
    (his_integer : Good P w K mg base "is_integer" sis_integer ["value"] 1 (spis_integer K C)) :
    Good P w K mg base "is_count" sis_count ["value"] 2 (spis_count K C) := by
  refine D.good fun f fd F => ?_
  obtain ⟨fis_integer, dis_integer, Ois_integer, mis_integer, kis_integer, bis_integer, Fis_integer⟩ := his_integer
  refine F.ok scis_count (fun vs H Q E h => ?_) (fun cdv A outer s H vs Q E hr h => ?_)
  · obtain ⟨v, o, rfl, hv, q⟩ := h
    first | rfl | (rcases h with ⟨_, _, rfl, _⟩ | ⟨_, rfl, _⟩ <;> rfl)
  obtain ⟨v, o, rfl, hv, q⟩ := h
  refine ⟨_, (pss_one (ps_ret (pe_and (pe_call Ois_integer hr rfl mis_integer kis_integer bis_integer .nil pass0 (pa_cons (pv 0) pa_nil)) (pe_one (pe_cmpR op_ge (pv 0) pe_int (nomark _)))))), ?_⟩
  cases o with
  | none => exact ⟨_, rfl, v, none, rfl, hv, _, rfl, iteF q⟩
  | some n =>
    cases hv.some_is
    exact ⟨_, rfl, _, some n, rfl, hv, _, rfl, iteT ⟨_, rfl, _, _, rfl, rfl, q⟩⟩
def btwO (a b : Int) (o : Option Int) : Bool := o.any fun n => decide (a ≤ n) && decide (n ≤ b)
def spis_between (_ : PySem.W.Frag) (_ : Addr) : Sp := fun vs H Q _ => ∃ v o, ∃ a b : Int, vs = [v, .int a, .int b] ∧ Num H v o ∧ Q (.bl (btwO a b o)) H
theorem okis_between (D : Def K mg "is_between" sis_between ["value", "least", "most"]) (B : Bs mg) (Glb : Glo mg) (WK : WebK K mg C)
    (his_integer : Good P w K mg base "is_integer" sis_integer ["value"] 1 (spis_integer K C)) :
    Good P w K mg base "is_between" sis_between ["value", "least", "most"] 2 (spis_between K C) := by
  refine D.good fun f fd F => ?_
  obtain ⟨fis_integer, dis_integer, Ois_integer, mis_integer, kis_integer, bis_integer, Fis_integer⟩ := his_integer
  refine F.ok scis_between (fun vs H Q E h => ?_) (fun cdv A outer s H vs Q E hr h => ?_)
  · obtain ⟨v, o, a, b, rfl, hv, q⟩ := h
    first | rfl | (rcases h with ⟨_, _, rfl, _⟩ | ⟨_, rfl, _⟩ <;> rfl)
  obtain ⟨v, o, a, b, rfl, hv, q⟩ := h
  refine ⟨_, (pss_one (ps_ret (pe_and (pe_call Ois_integer hr rfl mis_integer kis_integer bis_integer .nil pass0 (pa_cons (pv 0) pa_nil)) (pe_one (pe_chain op_le op_le (pv 1) (pv 0) (pv 2)))))), ?_⟩
  refine ⟨_, rfl, v, o, rfl, hv, _, rfl, ?_⟩
  cases o with
  | none => exact iteF q
  | some n =>
    cases hv.some_is
    refine iteT ⟨_, rfl, _, rfl, _, _, rfl, rfl, _, rfl, ?_⟩
    replace q : Q (.bl (decide (a ≤ n) && decide (n ≤ b))) H := q
    by_cases h : a ≤ n
    · rw [decide_eq_true h, Bool.true_and] at q
      exact iteYes h ⟨_, rfl, _, _, rfl, rfl, q⟩
    · rw [decide_eq_false h, Bool.false_and] at q
      exact iteNo h q
def spis_below (_ : PySem.W.Frag) (_ : Addr) : Sp := fun vs H Q _ => ∃ v o, ∃ m : Nat, vs = [v, .int (m : Int)] ∧ Num H v o ∧ Q (.bl (inR m o)) H
theorem okis_below (D : Def K mg "is_below" sis_below ["value", "limit"]) (B : Bs mg) (Glb : Glo mg) (WK : WebK K mg C)
    (his_count : Good P w K mg base "is_count" sis_count ["value"] 2 (spis_count K C)) :
    Good P w K mg base "is_below" sis_below ["value", "limit"] 3 (spis_below K C) := by
  refine D.good fun f fd F => ?_
  obtain ⟨fis_count, dis_count, Ois_count, mis_count, kis_count, bis_count, Fis_count⟩ := his_count
  refine F.ok scis_below (fun vs H Q E h => ?_) (fun cdv A outer s H vs Q E hr h => ?_)
  · obtain ⟨v, o, m, rfl, hv, q⟩ := h
    first | rfl | (rcases h with ⟨_, _, rfl, _⟩ | ⟨_, rfl, _⟩ <;> rfl)
  obtain ⟨v, o, m, rfl, hv, q⟩ := h
  refine ⟨_, (pss_one (ps_ret (pe_and (pe_call Ois_count hr rfl mis_count kis_count bis_count .nil pass0 (pa_cons (pv 0) pa_nil)) (pe_one (pe_cmpR op_lt (pv 0) (pv 1) (nomark _)))))), ?_⟩
  refine ⟨_, rfl, v, o, rfl, hv, ?_⟩
  cases o with
  | none => exact ⟨_, rfl, iteF q⟩
  | some n =>
    cases hv.some_is
    refine ⟨_, rfl, ?_⟩
    replace q : Q (.bl (decide (0 ≤ n) && decide (n < (m : Int)))) H := q
    show if decide (0 ≤ n) = true then _ else _
    by_cases h : 0 ≤ n
    · rw [decide_eq_true h, Bool.true_and] at q
      exact iteYes h ⟨_, rfl, _, rfl, _, _, rfl, rfl, q⟩
    · rw [decide_eq_false h, Bool.false_and] at q
      exact iteNo h q
theorem isi_listed {v : V} {o : Option (List (Option Int))} {H : Hp} {tp : Addr} {Q : VK} (hv : Val H v o) (ntp : H tp = none) (q : Q (.bl o.isSome) (upd H tp (.tup [.ty "list", .ty "tuple"]))) : rIsiT K [v, .ref tp] (upd H tp (.tup [.ty "list", .ty "tuple"])) Q := by
  have no : ∀ {t : String} {x : V}, TyX K (upd H tp (.tup [.ty "list", .ty "tuple"])) x (.type t) → kitB t "list" = some false → kitB t "tuple" = some false → Q (.bl false) (upd H tp (.tup [.ty "list", .ty "tuple"])) → rIsiT K [x, .ref tp] (upd H tp (.tup [.ty "list", .ty "tuple"])) Q :=
    fun ty h1 h2 q => ⟨_, tp, [.ty "list", .ty "tuple"], _, [.type "list", .type "tuple"], false, rfl, upd_same, .cons (.ty _) (.cons (.ty _) .nil), ty, kitAny_cons (b := false) (kit_ty h1) (fun _ => kitAny_cons (b := false) (kit_ty h2) (fun _ => kitAny_nil) (fun h => by cases h)) (fun h => by cases h), q⟩
  cases hv with
  | lst ha _ => exact ⟨_, tp, [.ty "list", .ty "tuple"], .type "list", [.type "list", .type "tuple"], true, rfl, upd_same, .cons (.ty _) (.cons (.ty _) .nil), .base (.lst (same_new ntp _ _ _ ha)), kitAny_cons (b := true) (kit_ty (by decide +kernel)) (fun h => by cases h) (fun _ => rfl), q⟩
  | tup ha _ => exact ⟨_, tp, [.ty "list", .ty "tuple"], .type "tuple", [.type "list", .type "tuple"], true, rfl, upd_same, .cons (.ty _) (.cons (.ty _) .nil), .base (.tup (same_new ntp _ _ _ ha)), kitAny_cons (b := false) (kit_ty (by decide +kernel)) (fun _ => kitAny_cons (b := true) (kit_ty (by decide +kernel)) (fun h => by cases h) (fun _ => rfl)) (fun h => by cases h), q⟩
  | int n => exact no (.base (.int n)) (by decide +kernel) (by decide +kernel) q
  | non => exact no (.base .non) (by decide +kernel) (by decide +kernel) q
  | bl b => exact no (.base (.bl b)) (by decide +kernel) (by decide +kernel) q
  | str x => exact no (.base (.str x)) (by decide +kernel) (by decide +kernel) q
  | dK h => exact no (.base (.dK (same_new ntp _ _ _ h))) (by decide +kernel) (by decide +kernel) q
def spis_listed (_ : PySem.W.Frag) (_ : Addr) : Sp := fun vs H Q _ => ∃ v o, vs = [v] ∧ Val H v o ∧ ∀ H', Same H H' → Q (.bl o.isSome) H'
theorem okis_listed (D : Def K mg "is_listed" sis_listed ["value"]) (B : Bs mg) (Glb : Glo mg) (WK : WebK K mg C) :
    Good P w K mg base "is_listed" sis_listed ["value"] 1 (spis_listed K C) := by
  refine D.good fun f fd F => ?_
  refine F.ok scis_listed (fun vs H Q E h => ?_) (fun cdv A outer s H vs Q E hr h => ?_)
  · obtain ⟨v, o, rfl, hv, q⟩ := h
    first | rfl | (rcases h with ⟨_, _, rfl, _⟩ | ⟨_, rfl, _⟩ <;> rfl)
  obtain ⟨v, o, rfl, hv, q⟩ := h
  refine ⟨_, (pss_one (ps_ret (pe_callB call_isiT (by rfl) B.isinstance (by decide +kernel) (pa_cons (pv 0) (pa_cons (pe_tup (pa_cons (pe_bltn (v := .ty "list") (by rfl) B.list (by decide +kernel) rfl) (pa_cons (pe_bltn (v := .ty "tuple") (by rfl) B.tuple (by decide +kernel) rfl) pa_nil))) pa_nil))))), ?_⟩
  exact ⟨_, rfl, (by show 2 ≤ sizeLine; decide), fun tp ntp => isi_listed hv ntp (q _ (same_new ntp _))⟩
def spare_ties (_ : PySem.W.Frag) (_ : Addr) : Sp := fun vs H Q _ => ∃ N : Nat, ∃ t ts, vs = [.int (N : Int), .ref t] ∧ OkWeb N ts ∧ TiesS H t ts ∧ ∀ H', Same H H' → Q (.bl true) H'
theorem okare_ties (D : Def K mg "are_ties" sare_ties ["places", "value"]) (B : Bs mg) (Glb : Glo mg) (WK : WebK K mg C)
    (his_listed : Good P w K mg base "is_listed" sis_listed ["value"] 1 (spis_listed K C))
    (his_below : Good P w K mg base "is_below" sis_below ["value", "limit"] 3 (spis_below K C)) :
    Good P w K mg base "are_ties" sare_ties ["places", "value"] 4 (spare_ties K C) := by
  refine D.good fun f fd F => ?_
  obtain ⟨fis_listed, dis_listed, Ois_listed, mis_listed, kis_listed, bis_listed, Fis_listed⟩ := his_listed
  obtain ⟨fis_below, dis_below, Ois_below, mis_below, kis_below, bis_below, Fis_below⟩ := his_below
  refine F.ok scare_ties (fun vs H Q E h => ?_) (fun cdv A outer s H vs Q E hr h => ?_)
  · obtain ⟨N, t, ts, rfl, ho, hT, q⟩ := h
    first | rfl | (rcases h with ⟨_, _, rfl, _⟩ | ⟨_, rfl, _⟩ <;> rfl)
  obtain ⟨N, t, ts, rfl, ho, hT, q⟩ := h
  refine ⟨_, (pss_cons (ps_if (PW.pt (pw_or (pt_not (pt_val (pe_call Ois_listed (hr.mono (by decide)) rfl mis_listed kis_listed bis_listed .nil pass0 (pa_cons (pv 1) pa_nil)))) (pw_or1 (pt_cmpR op_gt (pe_callB call_len_seq (by rfl) B.len (by decide +kernel) (pa_cons (pv 1) pa_nil)) (pe_globI Glb.MOST_TIES) (nomark _)))))
    (pss_one (ps_ret pe_bl)) pss_nil)
  (pss_cons (ps_for PassesOwn.never rfl (pi_or (pi_list (pv 1)) (pi_tup (pv 1))) (pg_name (i := 2) scare_ties.nd rfl (by first | exact Or.inl rfl | exact Or.inr rfl))
    (pss_cons (ps_if (PW.pt (pw_or (pt_not (pt_val (pe_callB call_isi (by rfl) B.isinstance (by decide +kernel) (pa_cons (pv 2) (pa_cons (pe_bltn (v := .ty "tuple") (by rfl) B.tuple (by decide +kernel) rfl) pa_nil))))) (pw_or1 (pt_cmpR op_ne (pe_callB call_len_seq (by rfl) B.len (by decide +kernel) (pa_cons (pv 2) pa_nil)) pe_int (nomark _)))))
    (pss_one (ps_ret pe_bl)) pss_nil)
  (pss_one (ps_if (PW.pt (pw_or (pt_not (pt_val (pe_call Ois_below hr rfl mis_below kis_below bis_below .nil pass0 (pa_cons (pe_ix ix_tup (pv 2) pe_int (fun _ _ => rfl)) (pa_cons (pv 0) pa_nil))))) (pw_or1 (pt_not (pt_val (pe_call Ois_below hr rfl mis_below kis_below bis_below .nil pass0 (pa_cons (pe_ix ix_tup (pv 2) pe_int (fun _ _ => rfl)) (pa_cons (pv 0) pa_nil))))))))
    (pss_one (ps_ret pe_bl)) pss_nil))))
  (pss_one (ps_ret pe_bl)))), ?_⟩
  obtain ⟨os, hv⟩ := hT.val
  obtain ⟨tas, ht, hP⟩ := hT
  have hlen := paired_len hP
  have hm := ho.m
  refine ⟨_, rfl, _, _, rfl, hv, fun H1 hS1 => ⟨_, rfl, iteF ⟨_, rfl, _, _, rfl, (ht.imp (hS1 _ _) (hS1 _ _)).imp SqL.of SqT.of, _, _, rfl, rfl, _, rfl, iteNo (by rw [List.length_map]; omega) ?_⟩⟩⟩
  rcases ht with ht | ht
  · refine .inl ⟨_, rfl, t, rfl, ⟨_, SqL.of (hS1 _ _ ht)⟩, for_list (K := K) (a := t) (xs := tas.map V.ref) (fun i σ H' => Same H H' ∧ ∃ v, σ = [some (.int (N : Int)), some (.ref t), v]) ⟨hS1, none, rfl⟩ (fun i σ H' _ ⟨hS', _⟩ => SqL.of (hS' _ _ ht)) ?_ ?_⟩
    · rintro i x σ H2 hx ⟨hS2, v, rfl⟩
      rw [List.getElem?_map] at hx
      obtain ⟨p, hp, rfl⟩ : ∃ p, tas[i]? = some p ∧ x = V.ref p := by
        cases e : tas[i]? with
        | none => rw [e] at hx; cases hx
        | some p => rw [e] at hx; exact ⟨p, rfl, (Option.some.inj hx).symm⟩
      obtain ⟨⟨u, v⟩, he, hpe⟩ := paired_get hP hp
      have hp2 : H2 p = some (.tup [.int (u : Int), .int (v : Int)]) := hS2 _ _ hpe
      obtain ⟨hu, hv⟩ := ho.ok _ (List.mem_of_getElem? he)
      refine ⟨_, rfl, _, _, _, _, true, rfl, .ty _, .base (.tup hp2), kit_ty (by decide +kernel), _, rfl, iteF ⟨_, rfl, _, _, rfl, .inr (SqT.of hp2), rfl, _, rfl, iteNS rfl ?_⟩⟩
      refine ⟨_, rfl, _, _, _, .int (u : Int), rfl, rfl, SqT.of hp2, rfl, _, rfl, _, some (u : Int), N, rfl, .int _, _, rfl, iteNb (inR_lt hu) ⟨_, rfl, _, _, _, .int (v : Int), rfl, rfl, SqT.of hp2, rfl, _, rfl, _, some (v : Int), N, rfl, .int _, _, rfl, iteNb (inR_lt hv) ?_⟩⟩
      exact ⟨hS2, _, rfl⟩
    · rintro σ H2 ⟨hS2, v, rfl⟩
      exact q H2 hS2
  · refine .inr ⟨_, rfl, t, rfl, ⟨_, SqT.of (hS1 _ _ ht)⟩, for_tup (K := K) (a := t) (xs := tas.map V.ref) (fun i σ H' => Same H H' ∧ ∃ v, σ = [some (.int (N : Int)), some (.ref t), v]) ⟨hS1, none, rfl⟩ (fun i σ H' _ ⟨hS', _⟩ => SqT.of (hS' _ _ ht)) ?_ ?_⟩
    · rintro i x σ H2 hx ⟨hS2, v, rfl⟩
      rw [List.getElem?_map] at hx
      obtain ⟨p, hp, rfl⟩ : ∃ p, tas[i]? = some p ∧ x = V.ref p := by
        cases e : tas[i]? with
        | none => rw [e] at hx; cases hx
        | some p => rw [e] at hx; exact ⟨p, rfl, (Option.some.inj hx).symm⟩
      obtain ⟨⟨u, v⟩, he, hpe⟩ := paired_get hP hp
      have hp2 : H2 p = some (.tup [.int (u : Int), .int (v : Int)]) := hS2 _ _ hpe
      obtain ⟨hu, hv⟩ := ho.ok _ (List.mem_of_getElem? he)
      refine ⟨_, rfl, _, _, _, _, true, rfl, .ty _, .base (.tup hp2), kit_ty (by decide +kernel), _, rfl, iteF ⟨_, rfl, _, _, rfl, .inr (SqT.of hp2), rfl, _, rfl, iteNS rfl ?_⟩⟩
      refine ⟨_, rfl, _, _, _, .int (u : Int), rfl, rfl, SqT.of hp2, rfl, _, rfl, _, some (u : Int), N, rfl, .int _, _, rfl, iteNb (inR_lt hu) ⟨_, rfl, _, _, _, .int (v : Int), rfl, rfl, SqT.of hp2, rfl, _, rfl, _, some (v : Int), N, rfl, .int _, _, rfl, iteNb (inR_lt hv) ?_⟩⟩
      exact ⟨hS2, _, rfl⟩
    · rintro σ H2 ⟨hS2, v, rfl⟩
      exact q H2 hS2
end
end My
namespace My
open PySem L2 PyProof.Rows
/-! ### numbers of ties from a place -/
def frmN (ts : List (Nat × Nat)) (p : Nat) : Nat → List Nat
  | 0 => []
  | i + 1 => if (ts[i]?.map Prod.fst) = some p then frmN ts p i ++ [i] else frmN ts p i
abbrev frm (ts : List (Nat × Nat)) (p : Nat) : List Nat := frmN ts p ts.length
theorem frmN_len (ts : List (Nat × Nat)) (p : Nat) : ∀ i, (frmN ts p i).length ≤ i
  | 0 => by simp [frmN]
  | i + 1 => by
    have := frmN_len ts p i
    unfold frmN
    split
    · simp; omega
    · omega
theorem frmN_mem (ts : List (Nat × Nat)) (p x : Nat) : ∀ i, x ∈ frmN ts p i ↔ x < i ∧ ts[x]?.map Prod.fst = some p
  | 0 => by simp [frmN]
  | i + 1 => by
    have ih := frmN_mem ts p x i
    unfold frmN
    split
    · rename_i c
      rw [List.mem_append, ih, List.mem_singleton]
      constructor
      · rintro (⟨h1, h2⟩ | rfl)
        · exact ⟨by omega, h2⟩
        · exact ⟨by omega, c⟩
      · rintro ⟨h1, h2⟩
        by_cases z : x = i
        · exact .inr z
        · exact .inl ⟨by omega, h2⟩
    · rename_i c
      rw [ih]
      constructor
      · rintro ⟨h1, h2⟩
        exact ⟨by omega, h2⟩
      · rintro ⟨h1, h2⟩
        refine ⟨?_, h2⟩
        by_cases z : x = i
        · subst z; exact absurd h2 c
        · omega
theorem nodup_get {α : Type} {L : List α} {j k : Nat} {x : α} (hn : L.Nodup) (h1 : L[j]? = some x) (h2 : L[k]? = some x) : j = k :=
  (List.getElem?_inj (List.getElem?_eq_some_iff.mp h1).1 hn).mp (h1.trans h2.symm)
/-! ### new empty lists -/
def Fresh (H1 : Hp) (D : Addr) (n : Nat) (H' : Hp) : Prop := ∃ fas : List Addr, fas.length = n ∧ fas.Nodup ∧ (∀ x ∈ fas, H1 x = none ∧ x ≠ D) ∧ Same H1 H' ∧ H' D = some (.lst (fas.map V.ref)) ∧ ∀ x ∈ fas, H' x = some (.lst [])
theorem Fresh.zero {H1 : Hp} {D : Addr} (h : H1 D = none) : Fresh H1 D 0 (upd H1 D (.lst [])) :=
  ⟨[], rfl, by simp, fun x h => by simp at h, same_new h _, upd_same, fun x h => by simp at h⟩
theorem Fresh.step {H1 H2 : Hp} {D p : Addr} {n : Nat} (h : Fresh H1 D n H2) (nD : H1 D = none) (hn : n < 1000) (np : H2 p = none) :
    ∃ acc, upd H2 p (.lst []) D = some (.lst acc) ∧ acc.length < sizeLine ∧ Fresh H1 D (n + 1) (upd (upd H2 p (.lst [])) D (.lst (acc ++ [.ref p]))) := by
  obtain ⟨fas, h1, h2, h3, h4, h5, h6⟩ := h
  have hpD : D ≠ p := ne_of_none h5 np
  refine ⟨fas.map V.ref, by rw [upd_ne hpD]; exact h5, by rw [List.length_map, h1]; exact Nat.lt_trans hn (by decide), fas ++ [p], by simp [h1], ?_, ?_, ?_, by rw [upd_same, List.map_append]; rfl, ?_⟩
  · rw [List.nodup_append]
    refine ⟨h2, by simp, fun x hx y hy => ?_⟩
    rw [List.mem_singleton.mp hy]
    rintro rfl
    rw [h6 _ hx] at np
    cases np
  · intro x hx
    rcases List.mem_append.mp hx with z | z
    · exact h3 x z
    · rw [List.mem_singleton.mp z]
      exact ⟨h4.free np, hpD.symm⟩
  · intro b o e
    rw [upd_ne (ne_of_none e nD), upd_ne (ne_of_none (h4 _ _ e) np)]
    exact h4 _ _ e
  · intro x hx
    rcases List.mem_append.mp hx with z | z
    · rw [upd_ne (h3 x z).2, upd_ne (ne_of_none (h6 x z) np)]
      exact h6 x z
    · rw [List.mem_singleton.mp z, upd_ne hpD.symm, upd_same]
/-- rows: heaps that keep what H held, but for these lists -/
def KeptR (R : List Addr) (H H' : Hp) : Prop := ∀ b o, H b = some o → b ∉ R → H' b = some o
theorem KeptR.refl (R : List Addr) (H : Hp) : KeptR R H H := fun _ _ h _ => h
theorem KeptR.new {R : List Addr} {H H' : Hp} {p : Addr} {o : HO} (h : KeptR R H H') (np : H' p = none) : KeptR R H (upd H' p o) := fun b u e n => by
  have := h b u e n
  rw [upd_ne (ne_of_none this np)]
  exact this
theorem KeptR.put {R : List Addr} {H H' : Hp} {p : Addr} {o : HO} (h : KeptR R H H') (hp : p ∈ R) : KeptR R H (upd H' p o) := fun b u e n => by
  rw [upd_ne (fun z => n (by rw [z]; exact hp))]
  exact h b u e n
/-! ### webs -/
def wf (N : Nat) (tl fl ol : Addr) : List (Str × V) := putF "_ties_to" (.ref ol) (putF "_ties_from" (.ref fl) (putF "_ties" (.ref tl) (putF "_places" (.int (N : Int)) [])))
theorem wf_P (N : Nat) (tl fl ol : Addr) : (wf N tl fl ol).lookup ("_places" : Str) = some (.int (N : Int)) := by
  unfold wf
  rw [lookup_putF, if_neg (by decide +kernel), lookup_putF, if_neg (by decide +kernel), lookup_putF, if_neg (by decide +kernel), lookup_putF, if_pos rfl]
theorem wf_T (N : Nat) (tl fl ol : Addr) : (wf N tl fl ol).lookup ("_ties" : Str) = some (.ref tl) := by
  unfold wf
  rw [lookup_putF, if_neg (by decide +kernel), lookup_putF, if_neg (by decide +kernel), lookup_putF, if_pos rfl]
theorem wf_F (N : Nat) (tl fl ol : Addr) : (wf N tl fl ol).lookup ("_ties_from" : Str) = some (.ref fl) := by
  unfold wf
  rw [lookup_putF, if_neg (by decide +kernel), lookup_putF, if_pos rfl]
theorem wf_O (N : Nat) (tl fl ol : Addr) : (wf N tl fl ol).lookup ("_ties_to" : Str) = some (.ref ol) := by
  unfold wf
  rw [lookup_putF, if_pos rfl]
theorem wf_no (N : Nat) (tl fl ol : Addr) {m : Str} (h1 : ¬ m = "_ties_to") (h2 : ¬ m = "_ties_from") (h3 : ¬ m = "_ties") (h4 : ¬ m = "_places") : (wf N tl fl ol).lookup m = none := by
  unfold wf
  rw [lookup_putF, if_neg h1, lookup_putF, if_neg h2, lookup_putF, if_neg h3, lookup_putF, if_neg h4]
  all_goals rfl
theorem putF_len (f : Str) (v : V) : ∀ l : List (Str × V), (putF f v l).length ≤ l.length + 1
  | [] => by simp [putF]
  | (g, x) :: r => by
    have := putF_len f v r
    unfold putF
    split
    · simp
    · simp; omega
def RowsAt (H : Hp) (p : Addr) (N : Nat) (f : Nat → List Nat) : Prop := ∃ fas : List Addr, H p = some (.lst (fas.map V.ref)) ∧ fas.length = N ∧ ∀ j x, fas[j]? = some x → H x = some (.lst (iv (f j)))
theorem RowsAt.same {H H' : Hp} {p : Addr} {N : Nat} {f : Nat → List Nat} (h : RowsAt H p N f) (s : Same H H') : RowsAt H' p N f := by
  obtain ⟨fas, h1, h2, h3⟩ := h
  exact ⟨fas, s _ _ h1, h2, fun j x e => s _ _ (h3 j x e)⟩
theorem RowsAt.get {H : Hp} {p : Addr} {N : Nat} {f : Nat → List Nat} (h : RowsAt H p N f) {j : Nat} (hj : j < N) : ∃ x xs, H p = some (.lst xs) ∧ atI xs (j : Int) = some (.ref x) ∧ H x = some (.lst (iv (f j))) := by
  obtain ⟨fas, h1, h2, h3⟩ := h
  have e : fas[j]? = some (fas[j]'(by omega)) := List.getElem?_eq_getElem _
  refine ⟨_, _, h1, atI_nat ?_, h3 j _ e⟩
  rw [List.getElem?_map, e]
  rfl
def WebAt (C a : Addr) (N : Nat) (ts : List (Nat × Nat)) (H : Hp) : Prop := ∃ dx tl fl ol, H a = some (.ins C dx (wf N tl fl ol)) ∧ TiesAt H tl ts ∧ RowsAt H fl N (frm ts) ∧ RowsAt H ol N (frm (ts.map Prod.swap))
theorem WebAt.same {C a : Addr} {N : Nat} {ts : List (Nat × Nat)} {H H' : Hp} (h : WebAt C a N ts H) (s : Same H H') : WebAt C a N ts H' := by
  obtain ⟨dx, tl, fl, ol, h1, h2, h3, h4⟩ := h
  exact ⟨dx, tl, fl, ol, s _ _ h1, h2.same s, h3.same s, h4.same s⟩
/-- what is new in H' or a tuple, and what stands at a -/
noncomputable def Sub (H H' : Hp) (a : Addr) : Hp := fun b => by
  classical
  exact if H b = none ∨ b = a ∨ ∃ xs, H' b = some (.tup xs) then H' b else none
theorem Sub.of {H H' : Hp} {a b : Addr} {o : HO} (h : H' b = some o) (k : H b = none ∨ b = a ∨ ∃ xs, H' b = some (.tup xs)) : Sub H H' a b = some o := by
  unfold Sub
  rw [if_pos k]
  exact h
theorem Sub.same {H H' : Hp} {a : Addr} : Same (Sub H H' a) H' := fun b o e => by
  unfold Sub at e
  split at e
  · exact e
  · cases e
theorem Sub.none {H H' : Hp} {a b : Addr} {xs : List V} (h : H b = some (.lst xs)) (n : b ≠ a) (k : H' b = some (.lst xs)) : Sub H H' a b = Option.none := by
  unfold Sub
  rw [if_neg]
  rintro (z | z | ⟨ys, z⟩)
  · rw [h] at z; cases z
  · exact n z
  · rw [k] at z; cases z
theorem btw {n a b : Int} (h1 : a ≤ n) (h2 : n ≤ b) : (decide (a ≤ n) && decide (n ≤ b)) = true := by
  rw [decide_eq_true h1, decide_eq_true h2]
  rfl
section
variable {P : Program} {w : World} {K : PySem.W.Frag} {mg : Str → Option Value} {base : Heap} {C : Addr}
def spWeb___init__ (_ : PySem.W.Frag) (C : Addr) : Sp := fun vs H Q _ => ∃ a dx N t ts, vs = [.ref a, .int ((N : Nat) : Int), .ref t] ∧ OkWeb N ts ∧ TiesS H t ts ∧ H a = some (.ins C dx []) ∧ ∀ H', Kept a H H' → WebAt C a N ts (Sub H H' a) → Q .non H'
theorem okWeb___init__ (D : DefI K C "__init__" "Web.__init__" sWeb___init__ ["self", "places", "ties"]) (B : Bs mg) (Glb : Glo mg) (WK : WebK K mg C)
    (his_between : Good P w K mg base "is_between" sis_between ["value", "least", "most"] 2 (spis_between K C))
    (hare_ties : Good P w K mg base "are_ties" sare_ties ["places", "value"] 4 (spare_ties K C)) :
    GoodI P w K mg base C "__init__" "Web.__init__" sWeb___init__ ["self", "places", "ties"] 5 (spWeb___init__ K C) := by
  refine D.good fun f fd F => ?_
  obtain ⟨fis_between, dis_between, Ois_between, mis_between, kis_between, bis_between, Fis_between⟩ := his_between
  obtain ⟨fare_ties, dare_ties, Oare_ties, mare_ties, kare_ties, bare_ties, Fare_ties⟩ := hare_ties
  refine F.ok scWeb___init__ (fun vs H Q E h => ?_) (fun cdv A outer s H vs Q E hr h => ?_)
  · obtain ⟨a, dx, N, t, ts, rfl, ho, ht, ha, q⟩ := h
    first | rfl | (rcases h with ⟨_, _, rfl, _⟩ | ⟨_, rfl, _⟩ <;> rfl)
  obtain ⟨a, dx, N, t, ts, rfl, ho, ht, ha, q⟩ := h
  refine ⟨_, (pss_cons (ps_if (pt_not (pt_val (pe_call Ois_between (hr.mono (by decide)) rfl mis_between kis_between bis_between .nil pass0 (pa_cons (pv 1) (pa_cons pe_int (pa_cons (pe_globI Glb.MOST_PLACES) pa_nil))))))
    (pss_one ps_never) pss_nil)
  (pss_cons (ps_if (pt_not (pt_val (pe_call Oare_ties hr rfl mare_ties kare_ties bare_ties .nil pass0 (pa_cons (pv 1) (pa_cons (pv 2) pa_nil)))))
    (pss_one ps_never) pss_nil)
  (pss_cons (ps_fld (pv 0) (pv 1) rfl)
  (pss_cons (ps_fld (pv 0) (pe_callTy call_list_of (by rfl) B.list (by decide +kernel) (pa_cons (pv 2) pa_nil)) rfl)
  (pss_cons (ps_fld (pv 0) (pe_lc (own := [("_", 5)]) (g := gName 5) (by rfl) scWeb___init__.nd (pi_range1 (by rfl) B.range (pa_cons (pv 1) pa_nil)) (blkOk_by (own := [("_", 5)]) (N := ["self", "places", "ties", "tie", "ends", "_"]) (sc := defScope sWeb___init__) (by decide +kernel)) (fun _ _ _ _ _ => (pg_name (i := 5) scWeb___init__.nd rfl (by first | exact Or.inl rfl | exact Or.inr rfl))) (fun _ _ _ _ _ => pts_nil) (fun _ _ _ _ _ => (pe_lst pa_nil))) rfl)
  (pss_cons (ps_fld (pv 0) (pe_lc (own := [("_", 5)]) (g := gName 5) (by rfl) scWeb___init__.nd (pi_range1 (by rfl) B.range (pa_cons (pv 1) pa_nil)) (blkOk_by (own := [("_", 5)]) (N := ["self", "places", "ties", "tie", "ends", "_"]) (sc := defScope sWeb___init__) (by decide +kernel)) (fun _ _ _ _ _ => (pg_name (i := 5) scWeb___init__.nd rfl (by first | exact Or.inl rfl | exact Or.inr rfl))) (fun _ _ _ _ _ => pts_nil) (fun _ _ _ _ _ => (pe_lst pa_nil))) rfl)
  (pss_one (ps_for PassesOwn.never rfl (pi_enum (by rfl) B.enumerate (pa_cons (pe_fld (pv 0) rfl) pa_nil)) (pg_tup rfl (pgs_cons (pg_name (i := 3) scWeb___init__.nd rfl (by first | exact Or.inl rfl | exact Or.inr rfl)) (pgs_cons (pg_name (i := 4) scWeb___init__.nd rfl (by first | exact Or.inl rfl | exact Or.inr rfl)) pgs_nil)))
    (pss_cons (ps_expr (pe_bm PySem.F.plainAttrs_list PySem.F.slot_list_append PySem.F.type_list_append mt_append (pe_ix ix_list (pe_fld (pv 0) rfl) (pe_ix ix_tup (pv 4) pe_int (fun _ _ => rfl)) (fun _ _ => rfl)) (pa_cons (pv 3) pa_nil)))
  (pss_one (ps_expr (pe_bm PySem.F.plainAttrs_list PySem.F.slot_list_append PySem.F.type_list_append mt_append (pe_ix ix_list (pe_fld (pv 0) rfl) (pe_ix ix_tup (pv 4) pe_int (fun _ _ => rfl)) (fun _ _ => rfl)) (pa_cons (pv 3) pa_nil))))))))))))), ?_⟩
  refine ⟨_, rfl, .int (N : Int), some (N : Int), 1, 60, rfl, .int _, _, rfl, iteNb (btw (by have := ho.n0; omega) (by have := ho.n1; omega)) ?_⟩
  refine ⟨_, rfl, _, rfl, N, t, ts, rfl, ho, ht, fun H1 hS1 => ⟨_, rfl, iteF ?_⟩⟩
  have ha1 := hS1 _ _ ha
  obtain ⟨tas, ht1, hP1⟩ := ht.same hS1
  have nat : t ≠ a := ht1.elim (fun h => ne_of h ha1 (by intro q; cases q)) (fun h => ne_of h ha1 (by intro q; cases q))
  have nta : ∀ p e, TupAt H1 p e → p ≠ a := fun p e hp => ne_of hp ha1 (by intro q; cases q)
  refine ⟨_, rfl, _, rfl, a, C, dx, [], rfl, ha1, WK.cl, WK.nP, (by decide), ?_⟩
  refine ⟨_, rfl, t, _, rfl, (ht1.imp (fun h => SqL.of (by rw [upd_ne nat]; exact h)) (fun h => SqT.of (by rw [upd_ne nat]; exact h))), fun tl ntl => ?_⟩
  have natl : a ≠ tl := ne_of_none upd_same ntl
  have ntl1 : H1 tl = none := by rw [upd_ne natl.symm] at ntl; exact ntl
  refine ⟨_, rfl, a, C, dx, _, rfl, (by rw [upd_ne natl]; exact upd_same), WK.cl, WK.nT, Nat.lt_of_le_of_lt (putF_len _ _ _) (by decide), ?_⟩
  generalize e4 : upd (upd (upd H1 a (.ins C dx (putF "_places" (.int (N : Int)) []))) tl (.lst (tas.map V.ref))) a (.ins C dx (putF "_ties" (.ref tl) (putF "_places" (.int (N : Int)) []))) = H4
  have k4 : Kept a H1 H4 := fun b o e n => by rw [← e4, upd_ne n, upd_ne (ne_of_none e ntl1), upd_ne n]; exact e
  have ha4 : H4 a = some (.ins C dx (putF "_ties" (.ref tl) (putF "_places" (.int (N : Int)) []))) := by rw [← e4]; exact upd_same
  have htl4 : H4 tl = some (.lst (tas.map V.ref)) := by rw [← e4, upd_ne natl.symm]; exact upd_same
  have hN := ho.n1
  refine ⟨_, rfl, _, rfl, by omega, by omega, fun D1 nD1 => ?_⟩
  refine lc_range (lo := 0) (n := N) (fun i H' => Fresh H4 D1 i H') (Fresh.zero nD1) ?_ ?_
  · intro i H' hi hf
    exact ⟨rfl, Nat.zero_le _, fun p np => hf.step nD1 (by omega) np⟩
  rintro H5 ⟨fas, f1, f2, f3, f4, f5, f6⟩
  have ha5 := f4 _ _ ha4
  have fa : ∀ x ∈ fas, x ≠ a := fun x hx z => by
    have := (f3 x hx).1
    rw [z, ha4] at this
    cases this
  have naD1 : D1 ≠ a := fun z => by rw [z, ha4] at nD1; cases nD1
  refine ⟨_, rfl, a, C, dx, _, rfl, ha5, WK.cl, WK.nF, Nat.lt_of_le_of_lt (putF_len _ _ _) (Nat.lt_of_le_of_lt (Nat.succ_le_succ (putF_len _ _ _)) (by decide)), ?_⟩
  generalize e6 : upd H5 a (.ins C dx (putF "_ties_from" (.ref D1) (putF "_ties" (.ref tl) (putF "_places" (.int (N : Int)) [])))) = H6
  have k6 : Kept a H5 H6 := fun b o e n => by rw [← e6, upd_ne n]; exact e
  have ha6 : H6 a = some (.ins C dx (putF "_ties_from" (.ref D1) (putF "_ties" (.ref tl) (putF "_places" (.int (N : Int)) [])))) := by rw [← e6]; exact upd_same
  refine ⟨_, rfl, _, rfl, by omega, by omega, fun D2 nD2 => ?_⟩
  refine lc_range (lo := 0) (n := N) (fun i H' => Fresh H6 D2 i H') (Fresh.zero nD2) ?_ ?_
  · intro i H' hi hf
    exact ⟨rfl, Nat.zero_le _, fun p np => hf.step nD2 (by omega) np⟩
  rintro H7 ⟨os, g1, g2, g3, g4, g5, g6⟩
  have ha7 := g4 _ _ ha6
  refine ⟨_, rfl, a, C, dx, _, rfl, ha7, WK.cl, WK.nO, Nat.lt_of_le_of_lt (putF_len _ _ _) (Nat.lt_of_le_of_lt (Nat.succ_le_succ (putF_len _ _ _)) (Nat.lt_of_le_of_lt (Nat.succ_le_succ (Nat.succ_le_succ (putF_len _ _ _))) (by decide))), ?_⟩
  generalize e8 : upd H7 a (.ins C dx (putF "_ties_to" (.ref D2) (putF "_ties_from" (.ref D1) (putF "_ties" (.ref tl) (putF "_places" (.int (N : Int)) []))))) = H8
  have k8 : Kept a H7 H8 := fun b o e n => by rw [← e8, upd_ne n]; exact e
  have ha8 : H8 a = some (.ins C dx (wf N tl D1 D2)) := by rw [← e8]; exact upd_same
  have oa : ∀ x ∈ os, x ≠ a := fun x hx z => by
    have := (g3 x hx).1
    rw [z, ha6] at this
    cases this
  have naD2 : D2 ≠ a := fun z => by rw [z, ha6] at nD2; cases nD2
  have fo : ∀ x ∈ fas, x ∉ os := fun x hx z => by
    have h := (g3 x z).1
    rw [k6 _ _ (f6 x hx) (fa x hx)] at h
    cases h
  -- what stands before the lists is none of them
  have old : ∀ b o, H4 b = some o → b ≠ a → H8 b = some o ∧ b ∉ fas ∧ b ∉ os := fun b o e n => by
    have h5 := f4 _ _ e
    have h6 := k6 _ _ h5 n
    refine ⟨k8 _ _ (g4 _ _ h6) n, fun z => ?_, fun z => ?_⟩
    · rw [(f3 b z).1] at e; cases e
    · rw [(g3 b z).1] at h6; cases h6
  have ntla : tl ≠ a := natl.symm
  have oldA : a ∉ fas ∧ a ∉ os := ⟨fun z => fa a z rfl, fun z => oa a z rfl⟩
  have oldT := old _ _ htl4 ntla
  have oldE : ∀ p e, TupAt H1 p e → TupAt H8 p e ∧ p ∉ fas ∧ p ∉ os := fun p e hp => old _ _ (k4 _ _ hp (nta p e hp)) (nta p e hp)
  have f58 : H8 D1 = some (.lst (fas.map V.ref)) := k8 _ _ (g4 _ _ (k6 _ _ f5 naD1)) naD1
  have D1f : D1 ∉ fas := fun z => (f3 D1 z).2 rfl
  have D1o : D1 ∉ os := fun z => by
    have h := (g3 D1 z).1
    rw [k6 _ _ f5 naD1] at h
    cases h
  have g58 : H8 D2 = some (.lst (os.map V.ref)) := k8 _ _ g5 naD2
  have D2o : D2 ∉ os := fun z => (g3 D2 z).2 rfl
  have D2f : D2 ∉ fas := fun z => by
    have h := k6 _ _ (f6 D2 z) (fa D2 z)
    rw [nD2] at h
    cases h
  have fe8 : ∀ x ∈ fas, H8 x = some (.lst []) := fun x hx => k8 _ _ (g4 _ _ (k6 _ _ (f6 x hx) (fa x hx))) (fa x hx)
  have oe8 : ∀ x ∈ os, H8 x = some (.lst []) := fun x hx => k8 _ _ (g6 x hx) (oa x hx)
  have nin : ∀ {b : Addr}, b ∉ fas → b ∉ os → b ∉ fas ++ os := fun h1 h2 z => (List.mem_append.mp z).elim h1 h2
  refine ⟨_, rfl, a, C, dx, _, _, rfl, ha8, WK.cl, WK.nT, wf_T _ _ _ _, tl, _, rfl, SqL.of oldT.1, ?_⟩
  refine for_it (walk_enum (K := K) (a := tl) (xs := tas.map V.ref)) (fun i σ H' => ∃ v3 v4 v5 : Option V, σ = [some (.ref a), some (.int (N : Int)), some (.ref t), v3, v4, v5] ∧ KeptR (fas ++ os) H8 H' ∧ (∀ (j : Nat) (x : Addr), fas[j]? = some x → H' x = some (.lst (iv (frmN ts j i)))) ∧ (∀ (j : Nat) (x : Addr), os[j]? = some x → H' x = some (.lst (iv (frmN (ts.map Prod.swap) j i))))) ?_ ?_ ?_ ?_
  · exact ⟨_, _, _, rfl, .refl _ _, fun j x e => fe8 x (List.mem_of_getElem? e), fun j x e => oe8 x (List.mem_of_getElem? e)⟩
  · rintro i σ H' hi ⟨v3, v4, v5, rfl, hk, _, _⟩
    exact SqL.of (hk _ _ oldT.1 (nin oldT.2.1 oldT.2.2))
  · rintro i x σ H9 H10 hi ⟨v3, v4, v5, rfl, hk, hf, hos⟩ ⟨T0, x1, x2, rfl, nT0, rfl, e1, e2⟩
    cases e1
    rw [List.length_map] at hi
    replace e2 : (tas.map V.ref)[i]? = some x2 := e2
    rw [List.getElem?_map, List.getElem?_eq_getElem hi] at e2
    cases e2
    obtain ⟨⟨u, v⟩, he, hpe⟩ := paired_get hP1 (List.getElem?_eq_getElem hi)
    obtain ⟨hu, hv⟩ := ho.ok _ (List.mem_of_getElem? he)
    have hp8 := oldE _ _ hpe
    have hp9 : H9 tas[i] = some (.tup [.int (u : Int), .int (v : Int)]) := hk _ _ hp8.1 (nin hp8.2.1 hp8.2.2)
    have hkN : KeptR (fas ++ os) H8 (upd H9 T0 (.tup [.int (i : Int), .ref tas[i]])) := hk.new nT0
    generalize e10 : upd H9 T0 (.tup [.int (i : Int), .ref tas[i]]) = H10
    rw [e10] at hkN
    have hT10 : H10 T0 = some (.tup [.int (i : Int), .ref tas[i]]) := by rw [← e10]; exact upd_same
    have hS10 : Same H9 H10 := by rw [← e10]; exact same_new nT0 _
    have hp10 := hS10 _ _ hp9
    have ha10 := hkN _ _ ha8 (nin oldA.1 oldA.2)
    have hfl10 := hkN _ _ f58 (nin D1f D1o)
    obtain ⟨xu, eu⟩ : ∃ x, fas[u]? = some x := ⟨fas[u]'(by omega), List.getElem?_eq_getElem _⟩
    obtain ⟨xv, ev⟩ : ∃ x, os[v]? = some x := ⟨os[v]'(by omega), List.getElem?_eq_getElem _⟩
    have mu := List.mem_of_getElem? eu
    have mv := List.mem_of_getElem? ev
    have hxu := hS10 _ _ (hf u xu eu)
    have hxv := hos v xv ev
    have nxu : ∀ {b : Addr}, b ∉ fas → b ≠ xu := fun h z => h (by rw [z]; exact mu)
    have nxv : ∀ {b : Addr}, b ∉ os → b ≠ xv := fun h z => h (by rw [z]; exact mv)
    have htl := ho.m
    have htsl : i < ts.length := by rw [← paired_len hP1]; exact hi
    refine ⟨T0, _, rfl, SqT.of hT10, rfl, _, _, rfl, _, _, rfl, rfl, ?_⟩
    refine ⟨_, rfl, a, C, dx, _, _, rfl, ha10, WK.cl, WK.nF, wf_F _ _ _ _, _, rfl, _, _, _, .int (u : Int), rfl, rfl, SqT.of hp10, rfl, _, _, _, .ref xu, rfl, rfl, SqL.of hfl10, atI_nat (by rw [List.getElem?_map, eu]; rfl), .inl ⟨rfl, _, SqL.of hxu⟩, _, rfl, xu, _, _, rfl, rfl, hxu, ?_, ?_⟩
    · rw [List.length_map]
      exact Nat.lt_of_le_of_lt (frmN_len ts u i) (Nat.lt_trans (by omega : i < 1000) (by decide))
    generalize e11 : upd H10 xu (.lst (iv (frmN ts u i) ++ [.int (i : Int)])) = H11
    have hk11 : KeptR (fas ++ os) H8 H11 := by rw [← e11]; exact hkN.put (List.mem_append_left _ mu)
    have ha11 := hk11 _ _ ha8 (nin oldA.1 oldA.2)
    have hol11 := hk11 _ _ g58 (nin D2f D2o)
    have hp11 : H11 tas[i] = some (.tup [.int (u : Int), .int (v : Int)]) := hk11 _ _ hp8.1 (nin hp8.2.1 hp8.2.2)
    have hxv11 : H11 xv = some (.lst (iv (frmN (ts.map Prod.swap) v i))) := by
      rw [← e11, upd_ne (fun z => fo xu mu (by rw [← z]; exact mv))]
      exact hS10 _ _ hxv
    refine ⟨_, rfl, a, C, dx, _, _, rfl, ha11, WK.cl, WK.nO, wf_O _ _ _ _, _, rfl, _, _, _, .int (v : Int), rfl, rfl, SqT.of hp11, rfl, _, _, _, .ref xv, rfl, rfl, SqL.of hol11, atI_nat (by rw [List.getElem?_map, ev]; rfl), .inl ⟨rfl, _, SqL.of hxv11⟩, _, rfl, xv, _, _, rfl, rfl, hxv11, by rw [List.length_map]; exact Nat.lt_of_le_of_lt (frmN_len _ v i) (Nat.lt_trans (by omega : i < 1000) (by decide)), ?_⟩
    refine ⟨_, _, _, rfl, hk11.put (List.mem_append_right _ mv), fun j x e => ?_, fun j x e => ?_⟩
    · have nx : x ≠ xv := fun z => fo x (List.mem_of_getElem? e) (by rw [z]; exact mv)
      rw [upd_ne nx]
      have eti : ts[i]?.map Prod.fst = some u := by rw [he]; rfl
      by_cases c : x = xu
      · have ej : j = u := nodup_get f2 e (by rw [c]; exact eu)
        subst ej
        rw [c, ← e11, upd_same, show frmN ts j (i + 1) = frmN ts j i ++ [i] from if_pos eti, iv_app]
      · have ej : ¬ (ts[i]?.map Prod.fst) = some j := fun z => by
          rw [eti] at z
          cases z
          rw [eu] at e
          exact c (Option.some.inj e).symm
        rw [← e11, upd_ne c, show frmN ts j (i + 1) = frmN ts j i from if_neg ej]
        exact hS10 _ _ (hf j x e)
    · have etv : (ts.map Prod.swap)[i]?.map Prod.fst = some v := by rw [List.getElem?_map, he]; rfl
      by_cases c : x = xv
      · have ej : j = v := nodup_get g2 e (by rw [c]; exact ev)
        subst ej
        rw [c, upd_same, show frmN (ts.map Prod.swap) j (i + 1) = frmN (ts.map Prod.swap) j i ++ [i] from if_pos etv, iv_app]
      · have ej : ¬ ((ts.map Prod.swap)[i]?.map Prod.fst) = some j := fun z => by
          rw [etv] at z
          cases z
          rw [ev] at e
          exact c (Option.some.inj e).symm
        rw [upd_ne c, ← e11, upd_ne (fun z => fo xu mu (by rw [← z]; exact List.mem_of_getElem? e)), show frmN (ts.map Prod.swap) j (i + 1) = frmN (ts.map Prod.swap) j i from if_neg ej]
        exact hS10 _ _ (hos j x e)
  · rintro σ H9 ⟨v3, v4, v5, rfl, hk, hf, hos⟩
    have hlen : (tas.map V.ref).length = ts.length := by rw [List.length_map]; exact paired_len hP1
    rw [hlen] at hf hos
    have to9 : ∀ b o, H4 b = some o → b ≠ a → H9 b = some o := fun b o e n => by
      have h := old b o e n
      exact hk _ _ h.1 (nin h.2.1 h.2.2)
    have g0 : ∀ b, b ≠ a → H4 b = none → H b = none := fun b n e => by
      cases e2 : H b with
      | none => rfl
      | some o =>
        rw [k4 _ _ (hS1 _ _ e2) n] at e
        cases e
    have g06 : ∀ b, b ≠ a → H6 b = none → H b = none := fun b n e => by
      cases e2 : H b with
      | none => rfl
      | some o =>
        rw [k6 _ _ (f4 _ _ (k4 _ _ (hS1 _ _ e2) n)) n] at e
        cases e
    refine q H9 (fun b o e n => to9 b o (k4 _ _ (hS1 _ _ e) n) n) ⟨dx, tl, D1, D2, Sub.of (hk _ _ ha8 (nin oldA.1 oldA.2)) (.inr (.inl rfl)), ⟨tas, Sub.of (to9 _ _ htl4 ntla) (.inl (hS1.free ntl1)), ?_⟩, ⟨fas, Sub.of (hk _ _ f58 (nin D1f D1o)) (.inl (g0 _ naD1 nD1)), f1, fun j x e => Sub.of (hf j x e) (.inl ?_)⟩, ⟨os, Sub.of (hk _ _ g58 (nin D2f D2o)) (.inl (g06 _ naD2 nD2)), g1, fun j x e => Sub.of (by show H9 x = some (.lst (iv (frmN (ts.map Prod.swap) j (ts.map Prod.swap).length))); rw [List.length_map]; exact hos j x e) (.inl ?_)⟩⟩
    · refine paired_mono (fun p e hp => ?_) hP1
      have hp9 := to9 _ _ (k4 _ _ hp (nta p e hp)) (nta p e hp)
      exact Sub.of hp9 (.inr (.inr ⟨_, hp9⟩))
    · have hm := List.mem_of_getElem? e
      exact g0 x (fa x hm) (f3 x hm).1
    · have hm := List.mem_of_getElem? e
      exact g06 x (oa x hm) (g3 x hm).1
def spWeb_places (_ : PySem.W.Frag) (C : Addr) : Sp := fun vs H Q _ => ∃ a N ts, vs = [.ref a] ∧ WebAt C a N ts H ∧ Q (.int (N : Int)) H
theorem okWeb_places (D : DefP K C "places" "Web.places" sWeb_places ["self"]) (B : Bs mg) (Glb : Glo mg) (WK : WebK K mg C) :
    GoodP P w K mg base C "places" "Web.places" sWeb_places ["self"] 1 (spWeb_places K C) := by
  refine D.good fun f fd F => ?_
  refine F.ok scWeb_places (fun vs H Q E h => ?_) (fun cdv A outer s H vs Q E hr h => ?_)
  · obtain ⟨a, N, ts, rfl, ⟨dx, tl, fl, ol, h1, h2, h3⟩, q⟩ := h
    first | rfl | (rcases h with ⟨_, _, rfl, _⟩ | ⟨_, rfl, _⟩ <;> rfl)
  obtain ⟨a, N, ts, rfl, ⟨dx, tl, fl, ol, h1, h2, h3⟩, q⟩ := h
  refine ⟨_, (pss_one (ps_ret (pe_fld (pv 0) rfl))), ?_⟩
  exact ⟨_, rfl, a, C, dx, _, _, rfl, h1, WK.cl, WK.nP, wf_P _ _ _ _, q⟩
def spWeb_many (_ : PySem.W.Frag) (C : Addr) : Sp := fun vs H Q _ => ∃ a N ts, vs = [.ref a] ∧ WebAt C a N ts H ∧ Q (.int (ts.length : Int)) H
theorem okWeb_many (D : DefP K C "many" "Web.many" sWeb_many ["self"]) (B : Bs mg) (Glb : Glo mg) (WK : WebK K mg C) :
    GoodP P w K mg base C "many" "Web.many" sWeb_many ["self"] 1 (spWeb_many K C) := by
  refine D.good fun f fd F => ?_
  refine F.ok scWeb_many (fun vs H Q E h => ?_) (fun cdv A outer s H vs Q E hr h => ?_)
  · obtain ⟨a, N, ts, rfl, ⟨dx, tl, fl, ol, h1, ⟨tas, ht, hP⟩, h3⟩, q⟩ := h
    first | rfl | (rcases h with ⟨_, _, rfl, _⟩ | ⟨_, rfl, _⟩ <;> rfl)
  obtain ⟨a, N, ts, rfl, ⟨dx, tl, fl, ol, h1, ⟨tas, ht, hP⟩, h3⟩, q⟩ := h
  refine ⟨_, (pss_one (ps_ret (pe_callB call_len_seq (by rfl) B.len (by decide +kernel) (pa_cons (pe_fld (pv 0) rfl) pa_nil)))), ?_⟩
  refine ⟨_, rfl, a, C, dx, _, _, rfl, h1, WK.cl, WK.nT, wf_T _ _ _ _, _, _, rfl, .inl (SqL.of ht), ?_⟩
  rw [List.length_map, paired_len hP]
  exact q
def spWeb_ties (_ : PySem.W.Frag) (C : Addr) : Sp := fun vs H Q _ => ∃ a N ts, vs = [.ref a] ∧ WebAt C a N ts H ∧ ∀ H' l, H l = none → Same H H' → TiesAt H' l ts → Q (.ref l) H'
theorem okWeb_ties (D : DefM K C "ties" "Web.ties" sWeb_ties ["self"]) (B : Bs mg) (Glb : Glo mg) (WK : WebK K mg C) :
    GoodM P w K mg base C "ties" "Web.ties" sWeb_ties ["self"] 1 (spWeb_ties K C) := by
  refine D.good fun f fd F => ?_
  refine F.ok scWeb_ties (fun vs H Q E h => ?_) (fun cdv A outer s H vs Q E hr h => ?_)
  · obtain ⟨a, N, ts, rfl, ⟨dx, tl, fl, ol, h1, ⟨tas, ht, hP⟩, h3⟩, q⟩ := h
    first | rfl | (rcases h with ⟨_, _, rfl, _⟩ | ⟨_, rfl, _⟩ <;> rfl)
  obtain ⟨a, N, ts, rfl, ⟨dx, tl, fl, ol, h1, ⟨tas, ht, hP⟩, h3⟩, q⟩ := h
  refine ⟨_, (pss_one (ps_ret (pe_callTy call_list_of (by rfl) B.list (by decide +kernel) (pa_cons (pe_fld (pv 0) rfl) pa_nil)))), ?_⟩
  exact ⟨_, rfl, a, C, dx, _, _, rfl, h1, WK.cl, WK.nT, wf_T _ _ _ _, _, _, rfl, .inl (SqL.of ht), fun l nl => q _ l nl (same_new nl _) ⟨tas, upd_same, paired_mono (fun p e hp => same_new nl _ _ _ hp) hP⟩⟩
def spneed_web (_ : PySem.W.Frag) (C : Addr) : Sp := fun vs H Q _ => ∃ a N ts, vs = [.ref a] ∧ WebAt C a N ts H ∧ Q .non H
theorem okneed_web (D : Def K mg "need_web" sneed_web ["web"]) (B : Bs mg) (Glb : Glo mg) (WK : WebK K mg C) :
    Good P w K mg base "need_web" sneed_web ["web"] 3 (spneed_web K C) := by
  refine D.good fun f fd F => ?_
  refine F.ok scneed_web (fun vs H Q E h => ?_) (fun cdv A outer s H vs Q E hr h => ?_)
  · obtain ⟨a, N, ts, rfl, hw, q⟩ := h
    first | rfl | (rcases h with ⟨_, _, rfl, _⟩ | ⟨_, rfl, _⟩ <;> rfl)
  obtain ⟨a, N, ts, rfl, hw, q⟩ := h
  refine ⟨_, (pss_one (ps_if (pt_not (pt_val (pe_callB call_isi (by rfl) B.isinstance (by decide +kernel) (pa_cons (pv 0) (pa_cons (pe_glob (v := .ref C) (by rfl) WK.mgC rfl) pa_nil)))))
    (pss_one ps_never) pss_nil)), ?_⟩
  obtain ⟨dx, tl, fl, ol, h1, h2, h3, h4⟩ := id hw
  exact ⟨_, rfl, _, _, _, _, true, rfl, .own C, .base (.ins h1 WK.cl WK.i1 WK.i2 WK.i3 WK.i4), WK.i5, _, rfl, iteF q⟩
/-- a list or a tuple of ints -/
def SeqAt (H : Hp) (s : Addr) (W : List Nat) : Prop := H s = some (.lst (iv W)) ∨ H s = some (.tup (iv W))
theorem SeqAt.same {H H' : Hp} {s : Addr} {W : List Nat} (h : SeqAt H s W) (hs : Same H H') : SeqAt H' s W := h.imp (hs _ _) (hs _ _)
theorem SeqAt.seq {K : PySem.W.Frag} {H : Hp} {s : Addr} {W : List Nat} (h : SeqAt H s W) : SqL K H s (iv W) ∨ SqT K H s (iv W) := h.imp SqL.of SqT.of
abbrev nz (W : List Nat) : List (Option Int) := W.map fun n : Nat => some (n : Int)
theorem iv_num {H : Hp} : ∀ W : List Nat, Paired (Num H) (iv W) (nz W)
  | [] => .nil
  | n :: r => .cons (.int _) (iv_num r)
theorem SeqAt.val {H : Hp} {s : Addr} {W : List Nat} (h : SeqAt H s W) : Val H (.ref s) (some (nz W)) := by
  rcases h with h | h
  · exact .lst h (iv_num W)
  · exact .tup h (iv_num W)
/-- numbers of so many ties -/
def NumS (n : Nat) (o : Option (List (Option Int))) : Bool := match o with
  | none => false
  | some os => os.all (inR n)
theorem num_get {H : Hp} {xs : List V} {os : List (Option Int)} (h : Paired (Num H) xs os) {i : Nat} {x : V} (hx : xs[i]? = some x) : ∃ o, os[i]? = some o ∧ Num H x o := paired_get h hx
theorem all_take {os : List (Option Int)} {n i : Nat} {o : Option Int} (h : os[i]? = some o) : (os.take (i + 1)).all (inR n) = ((os.take i).all (inR n) && inR n o) := by
  rw [List.take_add_one, h, List.all_append]
  show (_ && (inR n o && true)) = _
  rw [Bool.and_true]
theorem all_no {os : List (Option Int)} {n i : Nat} {o : Option Int} (h : os[i]? = some o) (k : inR n o = false) : os.all (inR n) = false := by
  rw [List.all_eq_false]
  exact ⟨o, List.mem_of_getElem? h, by rw [k]; exact Bool.false_ne_true⟩
def spare_numbers (_ : PySem.W.Frag) (C : Addr) : Sp := fun vs H Q _ => ∃ a N ts v o, vs = [.ref a, v] ∧ WebAt C a N ts H ∧ Val H v o ∧ ∀ H', Same H H' → Q (.bl (NumS ts.length o)) H'
theorem okare_numbers (D : Def K mg "are_numbers" sare_numbers ["web", "value"]) (B : Bs mg) (Glb : Glo mg) (WK : WebK K mg C)
    (his_listed : Good P w K mg base "is_listed" sis_listed ["value"] 1 (spis_listed K C))
    (his_below : Good P w K mg base "is_below" sis_below ["value", "limit"] 3 (spis_below K C))
    (hWeb_many : GoodP P w K mg base C "many" "Web.many" sWeb_many ["self"] 1 (spWeb_many K C)) :
    Good P w K mg base "are_numbers" sare_numbers ["web", "value"] 4 (spare_numbers K C) := by
  refine D.good fun f fd F => ?_
  obtain ⟨fis_listed, dis_listed, Ois_listed, mis_listed, kis_listed, bis_listed, Fis_listed⟩ := his_listed
  obtain ⟨fis_below, dis_below, Ois_below, mis_below, kis_below, bis_below, Fis_below⟩ := his_below
  obtain ⟨qWeb_many, fWeb_many, dWeb_many, OWeb_many, pWeb_many, bWeb_many⟩ := hWeb_many
  refine F.ok scare_numbers (fun vs H Q E h => ?_) (fun cdv A outer s H vs Q E hr h => ?_)
  · obtain ⟨a, N, ts, v, o, rfl, hw, hv, q⟩ := h
    first | rfl | (rcases h with ⟨_, _, rfl, _⟩ | ⟨_, rfl, _⟩ <;> rfl)
  obtain ⟨a, N, ts, v, o, rfl, hw, hv, q⟩ := h
  refine ⟨_, (pss_cons (ps_if (pt_not (pt_val (pe_call Ois_listed (hr.mono (by decide)) rfl mis_listed kis_listed bis_listed .nil pass0 (pa_cons (pv 1) pa_nil))))
    (pss_one (ps_ret pe_bl)) pss_nil)
  (pss_cons (ps_for PassesOwn.never rfl (pi_or (pi_list (pv 1)) (pi_tup (pv 1))) (pg_name (i := 2) scare_numbers.nd rfl (by first | exact Or.inl rfl | exact Or.inr rfl))
    (pss_one (ps_if (pt_not (pt_val (pe_call Ois_below hr rfl mis_below kis_below bis_below .nil pass0 (pa_cons (pv 2) (pa_cons (pe_prop (pv 0) WK.cl pWeb_many OWeb_many (hr.mono (by decide)) bWeb_many .nil pass0 (by rfl)) pa_nil)))))
    (pss_one (ps_ret pe_bl)) pss_nil)))
  (pss_one (ps_ret pe_bl)))), ?_⟩
  refine ⟨_, rfl, v, o, rfl, hv, fun H1 hS1 => ⟨_, rfl, ?_⟩⟩
  have hv1 := hv.same hS1
  cases o with
  | none => exact iteT (q H1 hS1)
  | some os =>
    refine iteF ?_
    replace q : ∀ H', Same H H' → Q (.bl (os.all (inR ts.length))) H' := q
    cases hv1 with
    | @lst s xs _ h hP =>
      refine .inl ⟨_, rfl, s, rfl, ⟨_, SqL.of h⟩, for_list (K := K) (a := s) (xs := xs) (fun i σ H' => Same H1 H' ∧ (os.take i).all (inR ts.length) = true ∧ ∃ v, σ = [some (.ref a), some (.ref s), v]) ⟨fun _ _ e => e, rfl, none, rfl⟩ (fun i σ H' _ ⟨hS', _⟩ => SqL.of (hS' _ _ h)) ?_ ?_⟩
      · rintro i x σ H2 hx ⟨hS2, hall, v, rfl⟩
        obtain ⟨o, ho, hn⟩ := num_get hP hx
        have hw2 := (hw.same hS1).same hS2
        obtain ⟨dx, tl, fl, ol, h1, _⟩ := id hw2
        refine ⟨_, rfl, _, rfl, a, dx, _, rfl, h1, a, N, ts, rfl, hw2, _, o, _, rfl, hn.same hS2, _, rfl, ?_⟩
        cases c : inR ts.length o with
        | true => exact iteF ⟨hS2, by rw [all_take ho, hall, c]; rfl, _, rfl⟩
        | false =>
          have := q H2 (hS1.trans hS2)
          rw [all_no ho c] at this
          exact iteT this
      · rintro σ H2 ⟨hS2, hall, v, rfl⟩
        have := q H2 (hS1.trans hS2)
        rw [paired_len hP, List.take_length] at hall
        rw [hall] at this
        exact this
    | @tup s xs _ h hP =>
      refine .inr ⟨_, rfl, s, rfl, ⟨_, SqT.of h⟩, for_tup (K := K) (a := s) (xs := xs) (fun i σ H' => Same H1 H' ∧ (os.take i).all (inR ts.length) = true ∧ ∃ v, σ = [some (.ref a), some (.ref s), v]) ⟨fun _ _ e => e, rfl, none, rfl⟩ (fun i σ H' _ ⟨hS', _⟩ => SqT.of (hS' _ _ h)) ?_ ?_⟩
      · rintro i x σ H2 hx ⟨hS2, hall, v, rfl⟩
        obtain ⟨o, ho, hn⟩ := num_get hP hx
        have hw2 := (hw.same hS1).same hS2
        obtain ⟨dx, tl, fl, ol, h1, _⟩ := id hw2
        refine ⟨_, rfl, _, rfl, a, dx, _, rfl, h1, a, N, ts, rfl, hw2, _, o, _, rfl, hn.same hS2, _, rfl, ?_⟩
        cases c : inR ts.length o with
        | true => exact iteF ⟨hS2, by rw [all_take ho, hall, c]; rfl, _, rfl⟩
        | false =>
          have := q H2 (hS1.trans hS2)
          rw [all_no ho c] at this
          exact iteT this
      · rintro σ H2 ⟨hS2, hall, v, rfl⟩
        have := q H2 (hS1.trans hS2)
        rw [paired_len hP, List.take_length] at hall
        rw [hall] at this
        exact this
end
end My
namespace My
open PySem L2 PyProof.Rows
theorem SeqAt.ix {K : PySem.W.Frag} {H : Hp} {s : Addr} {W : List Nat} {i : Int} {b : Nat} {Q : VK} (h : SeqAt H s W) (e : atI (iv W) i = some (.int (b : Int))) (q : Q (.int (b : Int)) H) : rIx K (.ref s) (.int i) H Q := by
  rcases h with h | h
  · exact .inl ⟨_, _, _, _, rfl, rfl, SqL.of h, e, q⟩
  · exact .inr (.inl ⟨_, _, _, _, rfl, rfl, SqT.of h, e, q⟩)
theorem TiesAt.at_ {H : Hp} {l : Addr} {ts : List (Nat × Nat)} (h : TiesAt H l ts) {x : Nat} {e : Nat × Nat} (hx : ts[x]? = some e) : ∃ xs p, H l = some (.lst xs) ∧ atI xs (x : Int) = some (.ref p) ∧ H p = some (.tup [.int (e.1 : Int), .int (e.2 : Int)]) := by
  obtain ⟨tas, h1, h2⟩ := h
  have hl := paired_len h2
  have hx2 := (List.getElem?_eq_some_iff.mp hx).1
  have e1 : tas[x]? = some (tas[x]'(by omega)) := List.getElem?_eq_getElem _
  obtain ⟨f, hf, hp⟩ := paired_get h2 e1
  rw [hx] at hf
  cases hf
  refine ⟨_, _, h1, atI_nat ?_, hp⟩
  rw [List.getElem?_map, e1]
  rfl
theorem atI_back {α : Type} {xs : List α} {v : α} (h : xs[xs.length - 1]? = some v) : atI xs (-1) = some v := by
  have h0 := (List.getElem?_eq_some_iff.mp h).1
  unfold atI ixN
  rw [if_neg (by decide), if_pos (by omega)]
  show xs[((-1 : Int) + (xs.length : Int)).toNat]? = _
  rw [show ((-1 : Int) + (xs.length : Int)).toNat = xs.length - 1 by omega]
  exact h
theorem iv_back {L : List Nat} {b : Nat} (h : L[L.length - 1]? = some b) : atI (iv L) (-1) = some (.int (b : Int)) := by
  refine atI_back ?_
  rw [List.length_map, List.getElem?_map, h]
  rfl
/-! ### walks and rounds -/
structure Chain (ts : List (Nat × Nat)) (R : List Nat) : Prop where
  n0 : 0 < R.length
  num : ∀ x ∈ R, x < ts.length
  on : ∀ i, i + 1 < R.length → ∃ x y e f, R[i]? = some x ∧ R[i + 1]? = some y ∧ ts[x]? = some e ∧ ts[y]? = some f ∧ f.1 = e.2
structure Tour (ts : List (Nat × Nat)) (R : List Nat) : Prop where
  ch : Chain ts R
  n1 : R.length ≤ 1000
  back : ∃ x y e f, R[0]? = some x ∧ R[R.length - 1]? = some y ∧ ts[x]? = some e ∧ ts[y]? = some f ∧ e.1 = f.2
theorem iteNbF {x : Bool} {A B : Prop} (h : x = false) (a : A) : if (!x) = true then A else B := by
  rw [h]
  exact iteT a
theorem nums_of {n : Nat} : ∀ {os : List (Option Int)}, os.all (inR n) = true → ∃ R : List Nat, os = nz R ∧ ∀ x ∈ R, x < n
  | [], _ => ⟨[], rfl, by simp⟩
  | o :: r, h => by
    rw [List.all_cons, Bool.and_eq_true] at h
    obtain ⟨R, rfl, hR⟩ := nums_of h.2
    cases o with
    | none => exact absurd h.1 (by unfold inR; simp)
    | some i =>
      have h1 : (decide (0 ≤ i) && decide (i < (n : Int))) = true := h.1
      rw [Bool.and_eq_true, decide_eq_true_iff, decide_eq_true_iff] at h1
      refine ⟨i.toNat :: R, ?_, fun x hx => ?_⟩
      · show some i :: nz R = some ((i.toNat : Nat) : Int) :: nz R
        rw [Int.toNat_of_nonneg h1.1]
      · rcases List.mem_cons.mp hx with z | z
        · omega
        · exact hR x z
theorem nz_inj : ∀ {A B : List Nat}, nz A = nz B → A = B
  | [], [], _ => rfl
  | [], _ :: _, h => by cases h
  | _ :: _, [], h => by cases h
  | a :: A, b :: B, h => by
    obtain ⟨h1, h2⟩ := List.cons.inj h
    have h3 : (a : Int) = (b : Int) := Option.some.inj h1
    rw [nz_inj h2, show a = b by omega]
theorem num_iv {H : Hp} : ∀ {xs : List V} {R : List Nat}, Paired (Num H) xs (nz R) → xs = iv R
  | [], [], _ => rfl
  | _ :: _, [], h => by cases h
  | [], _ :: _, h => by cases h
  | x :: xs, n :: R, h => by
    cases h with
    | cons h1 h2 =>
      rw [h1.some_is, num_iv h2]
      rfl
theorem Val.list {H : Hp} {v : V} {os : List (Option Int)} (h : Val H v (some os)) : ∃ s xs, v = .ref s ∧ (H s = some (.lst xs) ∨ H s = some (.tup xs)) ∧ Paired (Num H) xs os := by
  cases h with
  | lst h p => exact ⟨_, _, rfl, .inl h, p⟩
  | tup h p => exact ⟨_, _, rfl, .inr h, p⟩
theorem Val.seqAt {H : Hp} {v : V} {R : List Nat} (h : Val H v (some (nz R))) : ∃ s, v = .ref s ∧ SeqAt H s R := by
  obtain ⟨s, xs, rfl, h1, p⟩ := h.list
  rw [num_iv p] at h1
  exact ⟨s, rfl, h1⟩
def OnAt (ts : List (Nat × Nat)) (R : List Nat) (i : Nat) : Prop := ∃ x y e f, R[i]? = some x ∧ R[i + 1]? = some y ∧ ts[x]? = some e ∧ ts[y]? = some f ∧ f.1 = e.2
def IsWalk (ts : List (Nat × Nat)) (o : Option (List (Option Int))) : Prop := ∃ R, o = some (nz R) ∧ Chain ts R
def BackAt (ts : List (Nat × Nat)) (R : List Nat) : Prop := ∃ x y e f, R[0]? = some x ∧ R[R.length - 1]? = some y ∧ ts[x]? = some e ∧ ts[y]? = some f ∧ e.1 = f.2
def IsRound (ts : List (Nat × Nat)) (o : Option (List (Option Int))) : Prop := ∃ R, o = some (nz R) ∧ Chain ts R ∧ BackAt ts R
theorem walk_nz {ts : List (Nat × Nat)} {R : List Nat} : IsWalk ts (some (nz R)) ↔ Chain ts R := ⟨fun ⟨R', e, h⟩ => by rw [nz_inj (Option.some.inj e)]; exact h, fun h => ⟨R, rfl, h⟩⟩
theorem round_nz {ts : List (Nat × Nat)} {R : List Nat} : IsRound ts (some (nz R)) ↔ Chain ts R ∧ BackAt ts R := ⟨fun ⟨R', e, h⟩ => by rw [nz_inj (Option.some.inj e)]; exact h, fun h => ⟨R, rfl, h⟩⟩
theorem ends_get {ts : List (Nat × Nat)} {R : List Nat} (h : ∀ x ∈ R, x < ts.length) {i : Nat} (hi : i < R.length) : ∃ x e, R[i]? = some x ∧ ts[x]? = some e := by
  have e1 : R[i]? = some R[i] := List.getElem?_eq_getElem hi
  exact ⟨_, _, e1, List.getElem?_eq_getElem (h _ (List.getElem_mem hi))⟩
theorem len_nz (R : List Nat) : (nz R).length = R.length := List.length_map ..
section
variable {P : Program} {w : World} {K : PySem.W.Frag} {mg : Str → Option Value} {base : Heap} {C : Addr}
def sp_go_on (_ : PySem.W.Frag) (C : Addr) : Sp := fun vs H Q _ => ∃ a N ts v o, ∃ m : Int, vs = [.ref a, v, .int m] ∧ WebAt C a N ts H ∧ Val H v o ∧ (∀ os, o = some os → (os.length : Int) ≤ m ∧ os.length ≤ 1000) ∧ ∀ b H', (b = true ↔ IsWalk ts o) → Same H H' → Q (.bl b) H'
theorem ok_go_on (D : Def K mg "_go_on" s_go_on ["web", "value", "longest"]) (B : Bs mg) (Glb : Glo mg) (WK : WebK K mg C)
    (his_listed : Good P w K mg base "is_listed" sis_listed ["value"] 1 (spis_listed K C))
    (his_between : Good P w K mg base "is_between" sis_between ["value", "least", "most"] 2 (spis_between K C))
    (hare_numbers : Good P w K mg base "are_numbers" sare_numbers ["web", "value"] 4 (spare_numbers K C))
    (hWeb_ties : GoodM P w K mg base C "ties" "Web.ties" sWeb_ties ["self"] 1 (spWeb_ties K C)) :
    Good P w K mg base "_go_on" s_go_on ["web", "value", "longest"] 5 (sp_go_on K C) := by
  refine D.good fun f fd F => ?_
  obtain ⟨fis_listed, dis_listed, Ois_listed, mis_listed, kis_listed, bis_listed, Fis_listed⟩ := his_listed
  obtain ⟨fis_between, dis_between, Ois_between, mis_between, kis_between, bis_between, Fis_between⟩ := his_between
  obtain ⟨fare_numbers, dare_numbers, Oare_numbers, mare_numbers, kare_numbers, bare_numbers, Fare_numbers⟩ := hare_numbers
  obtain ⟨fWeb_ties, dWeb_ties, OWeb_ties, tWeb_ties, bWeb_ties, FWeb_ties⟩ := hWeb_ties
  refine F.ok sc_go_on (fun vs H Q E h => ?_) (fun cdv A outer s H vs Q E hr h => ?_)
  · obtain ⟨a, N, ts, v, o, m, rfl, hw, hv, hm, q⟩ := h
    first | rfl | (rcases h with ⟨_, _, rfl, _⟩ | ⟨_, rfl, _⟩ <;> rfl)
  obtain ⟨a, N, ts, v, o, m, rfl, hw, hv, hm, q⟩ := h
  refine ⟨_, (pss_cons (ps_if (PW.pt (pw_or (pt_not (pt_val (pe_call Ois_listed (hr.mono (by decide)) rfl mis_listed kis_listed bis_listed .nil pass0 (pa_cons (pv 1) pa_nil)))) (pw_or (pt_not (pt_val (pe_call Ois_between (hr.mono (by decide)) rfl mis_between kis_between bis_between .nil pass0 (pa_cons (pe_callB call_len_seq (by rfl) B.len (by decide +kernel) (pa_cons (pv 1) pa_nil)) (pa_cons pe_int (pa_cons (pv 2) pa_nil)))))) (pw_or1 (pt_not (pt_val (pe_call Oare_numbers hr rfl mare_numbers kare_numbers bare_numbers .nil pass0 (pa_cons (pv 0) (pa_cons (pv 1) pa_nil)))))))))
    (pss_one (ps_ret pe_bl)) pss_nil)
  (pss_cons (ps_set (i := 3) sc_go_on.nd rfl (by first | exact Or.inl rfl | exact Or.inr rfl) (pe_meth0 (pv 0) WK.cl tWeb_ties OWeb_ties (hr.mono (by decide)) bWeb_ties .nil pass0))
  (pss_cons (ps_for PassesOwn.never rfl (pi_range2 (by rfl) B.range (pa_cons pe_int (pa_cons (pe_callB call_len_seq (by rfl) B.len (by decide +kernel) (pa_cons (pv 1) pa_nil)) pa_nil))) (pg_name (i := 4) sc_go_on.nd rfl (by first | exact Or.inl rfl | exact Or.inr rfl))
    (pss_one (ps_if (pt_cmpR op_ne (pe_ix ix_tup (pe_ix ix_list (pv 3) (pe_ix ix_seq (pv 1) (pv 4) (fun _ _ => rfl)) (fun _ _ => rfl)) pe_int (fun _ _ => rfl)) (pe_ix ix_tup (pe_ix ix_list (pv 3) (pe_ix ix_seq (pv 1) (pe_op op_sub (pv 4) pe_int) (fun _ _ => rfl)) (fun _ _ => rfl)) pe_int (fun _ _ => rfl)) (nomark _))
    (pss_one (ps_ret pe_bl)) pss_nil)))
  (pss_one (ps_ret pe_bl))))), ?_⟩
  refine ⟨_, rfl, v, o, rfl, hv, fun H1 hS1 => ⟨_, rfl, ?_⟩⟩
  have no : ∀ H', ¬ IsWalk ts o → Same H H' → Q (.bl false) H' := fun H' h => q false H' ⟨(fun z => nomatch z), fun z => absurd z h⟩
  cases o with
  | none => exact iteT (no H1 (fun ⟨R, e, _⟩ => nomatch e) hS1)
  | some os =>
    refine iteF ?_
    obtain ⟨hm1, hm2⟩ := hm os rfl
    have hv1 := hv.same hS1
    obtain ⟨s, xs, rfl, hx, hP⟩ := hv1.list
    have hxl := paired_len hP
    refine ⟨_, rfl, s, xs, rfl, hx.imp SqL.of SqT.of, _, rfl, .int (xs.length : Int), some (xs.length : Int), 1, m, rfl, .int _, _, rfl, ?_⟩
    by_cases c0 : xs.length = 0
    · refine iteNbF (by show (decide ((1 : Int) ≤ (xs.length : Int)) && decide ((xs.length : Int) ≤ m)) = false; rw [decide_eq_false (show ¬ (1 : Int) ≤ (xs.length : Int) by omega)]; rfl) (no H1 (fun h => ?_) hS1)
      obtain ⟨R, e, hc⟩ := h
      have := hc.n0
      have e2 := congrArg List.length (Option.some.inj e)
      rw [len_nz] at e2
      omega
    refine iteNb (btw (by omega) (by omega)) ?_
    refine ⟨_, rfl, _, rfl, a, N, ts, .ref s, some os, rfl, hw.same hS1, hv1, fun H2 hS2 => ⟨_, rfl, ?_⟩⟩
    have hS12 := hS1.trans hS2
    cases c1 : NumS ts.length (some os) with
    | false =>
      refine iteT (no H2 (fun h => ?_) hS12)
      obtain ⟨R, e, hc⟩ := h
      cases e
      have : (nz R).all (inR ts.length) = true := by
        rw [List.all_eq_true]
        intro o ho
        obtain ⟨n, hn, rfl⟩ := List.mem_map.mp ho
        exact inR_lt (hc.num n hn)
      rw [show NumS ts.length (some (nz R)) = (nz R).all (inR ts.length) from rfl, this] at c1
      cases c1
    | true =>
      refine iteF ?_
      obtain ⟨R, rfl, hR⟩ := nums_of (n := ts.length) (os := os) c1
      obtain ⟨s', e', hs1⟩ := hv1.seqAt
      cases e'
      rw [len_nz] at hxl hm1 hm2
      have hw2 := hw.same hS12
      obtain ⟨dx, tl, fl, ol, g1, _⟩ := id hw2
      refine ⟨_, rfl, a, dx, _, rfl, g1, wf_no _ _ _ _ (by decide +kernel) (by decide +kernel) (by decide +kernel) (by decide +kernel), a, N, ts, rfl, hw2, fun H3 l nl hS3 hT => ?_⟩
      have hs3 := (hs1.same hS2).same hS3
      have hS13 := hS12.trans hS3
      refine ⟨_, rfl, s, _, rfl, hs3.seq, _, _, rfl, ⟨by omega, by omega, by rw [List.length_map]; omega, by rw [List.length_map]; omega⟩, ?_⟩
      rw [List.length_map, show ((R.length : Int) - 1).toNat = R.length - 1 by omega]
      refine for_range (lo := 1) (n := R.length - 1) (fun i σ H' => H' = H3 ∧ (∀ j, j < i → OnAt ts R j) ∧ ∃ v, σ = [some (.ref a), some (.ref s), some (.int m), some (.ref l), v]) ⟨rfl, fun j h => by omega, none, rfl⟩ ?_ ?_
      · rintro i σ H4 hi ⟨rfl, hon, v, rfl⟩
        rw [show (1 : Int) + (i : Int) = ((i + 1 : Nat) : Int) by omega]
        obtain ⟨x, e, e1, e3⟩ := ends_get hR (i := i) (by omega)
        obtain ⟨y, f, e2, e4⟩ := ends_get hR (i := i + 1) (by omega)
        obtain ⟨xs, p, k1, k2, k3⟩ := hT.at_ e4
        obtain ⟨xs', p', k1', k2', k3'⟩ := hT.at_ e3
        refine ⟨_, rfl, _, rfl, _, rfl, hs3.ix (iv_at e2) ⟨_, _, _, _, rfl, rfl, SqL.of k1, k2, _, _, _, _, rfl, rfl, SqT.of k3, rfl, ?_⟩⟩
        refine ⟨_, rfl, _, rfl, _, rfl, _, _, rfl, rfl, hs3.ix (by rw [show ((i + 1 : Nat) : Int) - 1 = (i : Int) by omega]; exact iv_at e1) ⟨_, _, _, _, rfl, rfl, SqL.of k1', k2', _, _, _, _, rfl, rfl, SqT.of k3', rfl, rfl, _, rfl, ?_⟩⟩
        by_cases c2 : f.1 = e.2
        · refine iteNot' (by rw [c2]) ⟨rfl, fun j hj => ?_, _, rfl⟩
          by_cases z : j = i
          · subst z; exact ⟨x, y, e, f, e1, e2, e3, e4, c2⟩
          · exact hon j (by omega)
        · refine iteNot (fun z => c2 (by have := int_eq.mp z; omega)) (no H4 (fun h => c2 ?_) hS13)
          obtain ⟨x', y', e', f', r1, r2, r3, r4, r5⟩ := (walk_nz.mp h).on i (by omega)
          rw [e1] at r1
          rw [e2] at r2
          cases r1
          cases r2
          rw [e3] at r3
          rw [e4] at r4
          cases r3
          cases r4
          exact r5
      · rintro σ H4 ⟨rfl, hon, v, rfl⟩
        exact q true H4 ⟨fun _ => walk_nz.mpr ⟨by omega, hR, fun i hi => hon i (by omega)⟩, fun _ => rfl⟩ hS13
def spis_walk (_ : PySem.W.Frag) (C : Addr) : Sp := fun vs H Q _ => ∃ a N ts v o, vs = [.ref a, v] ∧ WebAt C a N ts H ∧ Val H v o ∧ (∀ os, o = some os → os.length ≤ 400) ∧ ∀ b H', (b = true ↔ IsWalk ts o) → Same H H' → Q (.bl b) H'
theorem okis_walk (D : Def K mg "is_walk" sis_walk ["web", "value"]) (B : Bs mg) (Glb : Glo mg) (WK : WebK K mg C)
    (hneed_web : Good P w K mg base "need_web" sneed_web ["web"] 3 (spneed_web K C))
    (h_go_on : Good P w K mg base "_go_on" s_go_on ["web", "value", "longest"] 5 (sp_go_on K C)) :
    Good P w K mg base "is_walk" sis_walk ["web", "value"] 6 (spis_walk K C) := by
  refine D.good fun f fd F => ?_
  obtain ⟨fneed_web, dneed_web, Oneed_web, mneed_web, kneed_web, bneed_web, Fneed_web⟩ := hneed_web
  obtain ⟨f_go_on, d_go_on, O_go_on, m_go_on, k_go_on, b_go_on, F_go_on⟩ := h_go_on
  refine F.ok scis_walk (fun vs H Q E h => ?_) (fun cdv A outer s H vs Q E hr h => ?_)
  · obtain ⟨a, N, ts, v, o, rfl, hw, hv, hm, q⟩ := h
    first | rfl | (rcases h with ⟨_, _, rfl, _⟩ | ⟨_, rfl, _⟩ <;> rfl)
  obtain ⟨a, N, ts, v, o, rfl, hw, hv, hm, q⟩ := h
  refine ⟨_, (pss_cons (ps_expr (pe_call Oneed_web (hr.mono (by decide)) rfl mneed_web kneed_web bneed_web .nil pass0 (pa_cons (pv 0) pa_nil)))
  (pss_one (ps_ret (pe_call O_go_on hr rfl m_go_on k_go_on b_go_on .nil pass0 (pa_cons (pv 0) (pa_cons (pv 1) (pa_cons (pe_globI Glb.LONGEST_WALK) pa_nil))))))), ?_⟩
  exact ⟨_, rfl, a, N, ts, rfl, hw, _, rfl, _, rfl, a, N, ts, v, o, 400, rfl, hw, hv, fun os e => by have := hm os e; omega, q⟩
def spneed_walk (_ : PySem.W.Frag) (C : Addr) : Sp := fun vs H Q _ => ∃ a N ts s R, vs = [.ref a, .ref s] ∧ WebAt C a N ts H ∧ SeqAt H s R ∧ Chain ts R ∧ R.length ≤ 400 ∧ ∀ H', Same H H' → Q .non H'
theorem okneed_walk (D : Def K mg "need_walk" sneed_walk ["web", "walk"]) (B : Bs mg) (Glb : Glo mg) (WK : WebK K mg C)
    (his_walk : Good P w K mg base "is_walk" sis_walk ["web", "value"] 6 (spis_walk K C)) :
    Good P w K mg base "need_walk" sneed_walk ["web", "walk"] 7 (spneed_walk K C) := by
  refine D.good fun f fd F => ?_
  obtain ⟨fis_walk, dis_walk, Ois_walk, mis_walk, kis_walk, bis_walk, Fis_walk⟩ := his_walk
  refine F.ok scneed_walk (fun vs H Q E h => ?_) (fun cdv A outer s H vs Q E hr h => ?_)
  · obtain ⟨a, N, ts, s, R, rfl, hw, hs, hc, h4, q⟩ := h
    first | rfl | (rcases h with ⟨_, _, rfl, _⟩ | ⟨_, rfl, _⟩ <;> rfl)
  obtain ⟨a, N, ts, s, R, rfl, hw, hs, hc, h4, q⟩ := h
  refine ⟨_, (pss_one (ps_if (pt_not (pt_val (pe_call Ois_walk hr rfl mis_walk kis_walk bis_walk .nil pass0 (pa_cons (pv 0) (pa_cons (pv 1) pa_nil)))))
    (pss_one ps_never) pss_nil)), ?_⟩
  refine ⟨_, rfl, _, rfl, a, N, ts, .ref s, _, rfl, hw, hs.val, fun os e => by cases e; rw [len_nz]; exact h4, fun b H1 hb' hS1 => ⟨_, rfl, ?_⟩⟩
  rw [hb'.mpr (walk_nz.mpr hc)]
  exact iteF (q H1 hS1)
end
end My
namespace My
open PySem L2 PyProof.Rows
def PotOk (x y : Int) : Prop := 0 ≤ x ∧ 0 ≤ y ∧ y < 2147483648
def PotAt (H : Hp) (a : Addr) : Prop := ∃ x y : Int, H a = some (.lst [.int x, .int y]) ∧ PotOk x y
theorem PotAt.new {H : Hp} {a p : Addr} {o : HO} (h : PotAt H a) (np : H p = none) : PotAt (upd H p o) a := by
  obtain ⟨x, y, e, h⟩ := h
  exact ⟨x, y, by rw [upd_ne (ne_of_none e np)]; exact e, h⟩
theorem PotAt.put {H : Hp} {a p : Addr} {o : HO} (h : PotAt H a) (np : p ≠ a) : PotAt (upd H p o) a := by
  obtain ⟨x, y, e, h⟩ := h
  exact ⟨x, y, by rw [upd_ne np.symm]; exact e, h⟩
theorem PotAt.same {H H' : Hp} {a : Addr} (h : PotAt H a) (s : Same H H') : PotAt H' a := by
  obtain ⟨x, y, e, h⟩ := h
  exact ⟨x, y, s _ _ e, h⟩
theorem PotAt.ne {H : Hp} {a p : Addr} (h : PotAt H a) (np : H p = none) : p ≠ a := by
  obtain ⟨x, y, e, h⟩ := h
  exact (ne_of_none e np).symm
theorem PotAt.ntup {H : Hp} {a p : Addr} {xs : List V} (h : PotAt H a) (hp : H p = some (.tup xs)) : p ≠ a := by
  obtain ⟨x, y, e, h⟩ := h
  exact ne_of hp e (by intro q; cases q)
theorem Kept.new {H H' : Hp} {a p : Addr} {o : HO} (h : Kept a H H') (np : H' p = none) : Kept a H (upd H' p o) := h.trans (Same.kept (same_new np o))
theorem Kept.put {H H' : Hp} {a p : Addr} {o : HO} (h : Kept a H H') (np : H p = none) : Kept a H (upd H' p o) := fun b u e n => by
  rw [upd_ne (ne_of_none e np)]
  exact h b u e n
theorem TiesAt.kept {H H' : Hp} {a t : Addr} {ts : List (Nat × Nat)} (h : TiesAt H t ts) (k : Kept a H H') (hp : PotAt H a) (hn : t ≠ a) : TiesAt H' t ts := by
  obtain ⟨tas, h1, h2⟩ := h
  exact ⟨tas, k _ _ h1 hn, paired_mono (fun p e hq => k _ _ hq (hp.ntup hq)) h2⟩
theorem paired_app {α β : Type} {F : α → β → Prop} {a : α} {b : β} : ∀ {l1 : List α} {l2 : List β}, Paired F l1 l2 → F a b → Paired F (l1 ++ [a]) (l2 ++ [b])
  | _, _, .nil, h => .cons h .nil
  | _, _, .cons r t, h => .cons r (paired_app t h)
theorem paired_apps {α β : Type} {F : α → β → Prop} : ∀ {l1 m1 : List α} {l2 m2 : List β}, Paired F l1 l2 → Paired F m1 m2 → Paired F (l1 ++ m1) (l2 ++ m2)
  | _, _, _, _, .nil, h => h
  | _, _, _, _, .cons r t, h => .cons r (paired_apps t h)
theorem paired_rev {α β : Type} {F : α → β → Prop} : ∀ {l1 : List α} {l2 : List β}, Paired F l1 l2 → Paired F l1.reverse l2.reverse
  | _, _, .nil => .nil
  | _, _, .cons r t => by
    rw [List.reverse_cons, List.reverse_cons]
    exact paired_app (paired_rev t) r
theorem TiesAt.push {H : Hp} {p tp : Addr} {ts : List (Nat × Nat)} {u v : Nat} (h : TiesAt H p ts) (nt : H tp = none) :
    ∃ xs, (upd H tp (.tup [.int (u : Int), .int (v : Int)])) p = some (.lst xs) ∧ xs.length = ts.length ∧ TiesAt (upd (upd H tp (.tup [.int (u : Int), .int (v : Int)])) p (.lst (xs ++ [.ref tp]))) p (ts ++ [(u, v)]) := by
  obtain ⟨tas, h1, h2⟩ := h
  have npt : p ≠ tp := ne_of_none h1 nt
  refine ⟨tas.map V.ref, by rw [upd_ne npt]; exact h1, by rw [List.length_map]; exact paired_len h2, tas ++ [tp], by rw [upd_same, List.map_append]; rfl, paired_app (paired_mono (fun q e hq => ?_) h2) ?_⟩
  · have nqp : q ≠ p := ne_of hq h1 (by intro z; cases z)
    show upd _ _ _ q = _
    rw [upd_ne nqp, upd_ne (ne_of_none hq nt)]
    exact hq
  · show upd _ _ _ tp = _
    rw [upd_ne npt.symm, upd_same]
theorem TiesAt.pushV {H : Hp} {p tp : Addr} {ts : List (Nat × Nat)} {u v : Nat} {x y : V} (hx : x = .int (u : Int)) (hy : y = .int (v : Int)) (h : TiesAt H p ts) (nt : H tp = none) :
    ∃ xs, (upd H tp (.tup [x, y])) p = some (.lst xs) ∧ xs.length = ts.length ∧ TiesAt (upd (upd H tp (.tup [x, y])) p (.lst (xs ++ [.ref tp]))) p (ts ++ [(u, v)]) := by
  subst hx hy
  exact h.push nt
theorem TiesAt.nil {H : Hp} {p : Addr} : TiesAt (upd H p (.lst [])) p [] := ⟨[], upd_same, .nil⟩
theorem TiesAt.cat {H : Hp} {l m p : Addr} {ts us : List (Nat × Nat)} (h : TiesAt H l ts) (k : TiesAt H m us) (np : H p = none) : ∃ xs zs, H l = some (.lst xs) ∧ H m = some (.lst zs) ∧ xs.length = ts.length ∧ zs.length = us.length ∧ TiesAt (upd H p (.lst (xs ++ zs))) p (ts ++ us) := by
  obtain ⟨tas, h1, h2⟩ := h
  obtain ⟨uas, k1, k2⟩ := k
  refine ⟨_, _, h1, k1, by rw [List.length_map]; exact paired_len h2, by rw [List.length_map]; exact paired_len k2, tas ++ uas, by rw [upd_same, List.map_append], paired_mono (fun q e hq => ?_) (paired_apps h2 k2)⟩
  exact same_new np _ _ _ hq
theorem TiesAt.get {H : Hp} {l : Addr} {ts : List (Nat × Nat)} (h : TiesAt H l ts) : ∃ xs, H l = some (.lst xs) ∧ xs.length = ts.length := by
  obtain ⟨tas, h1, h2⟩ := h
  exact ⟨_, h1, by rw [List.length_map]; exact paired_len h2⟩
theorem TiesAt.new {H : Hp} {l p : Addr} {ts : List (Nat × Nat)} {o : HO} (h : TiesAt H l ts) (np : H p = none) : TiesAt (upd H p o) l ts := h.same (same_new np o)
theorem TiesAt.rev {H : Hp} {l p : Addr} {ts : List (Nat × Nat)} (h : TiesAt H l ts) (np : H p = none) : ∃ xs, H l = some (.lst xs) ∧ TiesAt (upd H p (.lst xs.reverse)) p ts.reverse := by
  obtain ⟨tas, h1, h2⟩ := h
  refine ⟨_, h1, tas.reverse, by rw [upd_same, List.map_reverse], paired_mono (fun q e hq => same_new np _ _ _ hq) (paired_rev h2)⟩
theorem TiesAt.catOne {H : Hp} {l p : Addr} {ts : List (Nat × Nat)} {tp : Addr} {u v : Nat} (h : TiesAt H l ts) (ht : H tp = some (.tup [.int (u : Int), .int (v : Int)])) (np : H p = none) :
    ∃ xs, H l = some (.lst xs) ∧ xs.length = ts.length ∧ TiesAt (upd H p (.lst (xs ++ [.ref tp]))) p (ts ++ [(u, v)]) := by
  obtain ⟨tas, h1, h2⟩ := h
  refine ⟨_, h1, by rw [List.length_map]; exact paired_len h2, tas ++ [tp], by rw [upd_same, List.map_append]; rfl, paired_app (paired_mono (fun q e hq => same_new np _ _ _ hq) h2) (same_new np _ _ _ ht)⟩
theorem Kept.free {a p : Addr} {H H' : Hp} (h : Kept a H H') (hn : H' p = none) (np : p ≠ a) : H p = none := by
  cases e : H p with
  | none => rfl
  | some o =>
    have := h p o e np
    rw [hn] at this
    cases this
theorem ok_app {N : Nat} {ts us : List (Nat × Nat)} (h : ∀ e ∈ ts, e.1 < N ∧ e.2 < N) (k : ∀ e ∈ us, e.1 < N ∧ e.2 < N) : ∀ e ∈ ts ++ us, e.1 < N ∧ e.2 < N := fun e he => (List.mem_append.mp he).elim (h e) (k e)
theorem ok_one {N u v : Nat} (h1 : u < N) (h2 : v < N) : ∀ e ∈ [(u, v)], e.1 < N ∧ e.2 < N := fun e he => by rw [List.mem_singleton.mp he]; exact ⟨h1, h2⟩
theorem ok_up {N M : Nat} {ts : List (Nat × Nat)} (h : ∀ e ∈ ts, e.1 < N ∧ e.2 < N) (hm : N ≤ M) : ∀ e ∈ ts, e.1 < M ∧ e.2 < M := fun e he => ⟨Nat.lt_of_lt_of_le (h e he).1 hm, Nat.lt_of_lt_of_le (h e he).2 hm⟩
theorem dp_iv {K : PySem.W.Frag} {H : Hp} {p : Addr} {L : List Nat} (h : H p = some (.lst (iv L))) : Dp K H (.ref p) (dz (L.map fun n : Nat => (n : Int))) := dp_iz (by rw [← iv_iz]; exact h)
/-! ### lists of ties compared with the empty list -/
abbrev tzD (e : Nat × Nat) : PyData := .tuple [.int (e.1 : Int), .int (e.2 : Int)]
abbrev tz (ts : List (Nat × Nat)) : PyData := .list (ts.map tzD)
theorem dpAll_tz {K : PySem.W.Frag} {H : Hp} : ∀ {tas : List Addr} {ts : List (Nat × Nat)}, Paired (TupAt H) tas ts → DpAll K H (tas.map V.ref) (ts.map tzD)
  | _, _, .nil => .nil
  | _, _, .cons h r => .cons (.tup (SqT.of h) (.cons (.int _) (.cons (.int _) .nil))) (dpAll_tz r)
theorem dp_tz {K : PySem.W.Frag} {H : Hp} {t : Addr} {ts : List (Nat × Nat)} (h : TiesAt H t ts) : Dp K H (.ref t) (tz ts) := by
  obtain ⟨tas, h1, h2⟩ := h
  exact .lst (SqL.of h1) (dpAll_tz h2)
theorem layAll_tz : ∀ ts : List (Nat × Nat), PyData.canLayAll0 (ts.map tzD) = true
  | [] => rfl
  | e :: r => by
    show (PyData.canLay0 (tzD e) && PyData.canLayAll0 (r.map tzD)) = true
    rw [layAll_tz r]
    rfl
theorem depthAll_tz (e : Nat × Nat) : ∀ r : List (Nat × Nat), PyData.depthAll ((e :: r).map tzD) = 1
  | [] => rfl
  | f :: r => by
    show max (PyData.depth (tzD e)) (PyData.depthAll ((f :: r).map tzD)) = 1
    rw [depthAll_tz f r]
    rfl
theorem shaped_tz : ∀ ts : List (Nat × Nat), SeqAt.shaped (tz ts) = true
  | [] => shaped_iz []
  | e :: r => by
    unfold SeqAt.shaped
    have h1 : PyData.canLay0 (tz (e :: r)) = true := by
      show PyData.canLay0 (.list ((e :: r).map tzD)) = true
      unfold PyData.canLay0
      exact layAll_tz _
    have h2 : PyData.depth (tz (e :: r)) = 2 := by
      show PyData.depth (.list ((e :: r).map tzD)) = 2
      unfold PyData.depth
      rw [depthAll_tz]
    rw [h1, h2]
    rfl
theorem eqv_tz (ts : List (Nat × Nat)) : PyData.eqv (tz ts) (dz []) = decide (ts = []) := by
  cases ts with
  | nil => rfl
  | cons n r => rfl
def StepsAt (H : Hp) (l : Addr) (ts : List (Nat × Nat)) : Prop := ∃ sas : List Addr, H l = some (.lst (sas.map V.ref)) ∧ sas.length = ts.length ∧ ∀ (i u v : Nat), ts[i]? = some (u, v) → ∃ p : Addr, sas[i]? = some p ∧ H p = some (.tup [.int (u : Int), .int (v : Int), .int (i : Int)])
def swaps (ts : List (Nat × Nat)) : List (Nat × Nat) := ts.map fun e => (e.2, e.1)
def BackTo (H0 : Hp) (l : Addr) (ts : List (Nat × Nat)) (i : Nat) (H : Hp) : Prop := Same H0 H ∧ TiesAt H l (swaps (ts.take i))
theorem take_snocE {α : Type} {L : List α} {i : Nat} {e : α} (h : L[i]? = some e) : L.take (i + 1) = L.take i ++ [e] := by
  rw [List.take_succ, h]
  rfl
theorem steps_nil {H : Hp} {l : Addr} : StepsAt (upd H l (.lst [])) l [] := ⟨[], upd_same, rfl, fun i u v h => by simp at h⟩
theorem StepsAt.same {H H' : Hp} {l : Addr} {ts : List (Nat × Nat)} (h : StepsAt H l ts) (s : Same H H') : StepsAt H' l ts := by
  obtain ⟨sas, h1, h2, h3⟩ := h
  exact ⟨sas, s _ _ h1, h2, fun i u v e => by obtain ⟨p, a, b⟩ := h3 i u v e; exact ⟨p, a, s _ _ b⟩⟩
theorem StepsAt.push {H : Hp} {l tp : Addr} {ts : List (Nat × Nat)} {u v : Nat} (h : StepsAt H l ts) (nt : H tp = none) :
    ∃ xs, (upd H tp (.tup [.int (u : Int), .int (v : Int), .int (ts.length : Int)])) l = some (.lst xs) ∧ xs.length = ts.length ∧ StepsAt (upd (upd H tp (.tup [.int (u : Int), .int (v : Int), .int (ts.length : Int)])) l (.lst (xs ++ [.ref tp]))) l (ts ++ [(u, v)]) := by
  obtain ⟨sas, h1, h2, h3⟩ := h
  have nlt : l ≠ tp := ne_of_none h1 nt
  refine ⟨sas.map V.ref, by rw [upd_ne nlt]; exact h1, by rw [List.length_map]; exact h2, sas ++ [tp], by rw [upd_same, List.map_append]; rfl, by simp [h2], fun i a b e => ?_⟩
  by_cases c : i < ts.length
  · rw [List.getElem?_append_left c] at e
    obtain ⟨p, g1, g2⟩ := h3 i a b e
    have np : p ≠ l := ne_of g2 h1 (by intro z; cases z)
    refine ⟨p, by rw [List.getElem?_append_left (by omega)]; exact g1, ?_⟩
    rw [upd_ne np, upd_ne (ne_of_none g2 nt)]
    exact g2
  · have hl := (List.getElem?_eq_some_iff.mp e).1
    rw [List.length_append, List.length_singleton] at hl
    have ei : i = ts.length := by omega
    subst ei
    rw [List.getElem?_append_right (Nat.le_refl _), Nat.sub_self] at e
    cases e
    refine ⟨tp, by rw [← h2, List.getElem?_append_right (Nat.le_refl _), Nat.sub_self]; rfl, ?_⟩
    rw [upd_ne nlt.symm, upd_same]
theorem okWeb_swaps {N : Nat} {ts : List (Nat × Nat)} (h : OkWeb N ts) : OkWeb N (swaps ts) := by
  refine ⟨h.n0, h.n1, by unfold swaps; rw [List.length_map]; exact h.m, fun e he => ?_⟩
  obtain ⟨f, hf, rfl⟩ := List.mem_map.mp he
  exact ⟨(h.ok f hf).2, (h.ok f hf).1⟩
section
variable {P : Program} {w : World} {K : PySem.W.Frag} {mg : Str → Option Value} {base : Heap} {C : Addr}
def spweb_steps (_ : PySem.W.Frag) (C : Addr) : Sp := fun vs H Q _ => ∃ a N ts, vs = [.ref a] ∧ WebAt C a N ts H ∧ OkWeb N ts ∧ ∀ H' l, H l = none → Same H H' → StepsAt H' l ts → Q (.ref l) H'
theorem okweb_steps (D : Def K mg "web_steps" sweb_steps ["web"]) (B : Bs mg) (Glb : Glo mg) (WK : WebK K mg C)
    (hWeb_ties : GoodM P w K mg base C "ties" "Web.ties" sWeb_ties ["self"] 1 (spWeb_ties K C)) :
    Good P w K mg base "web_steps" sweb_steps ["web"] 3 (spweb_steps K C) := by
  refine D.good fun f fd F => ?_
  obtain ⟨fWeb_ties, dWeb_ties, OWeb_ties, tWeb_ties, bWeb_ties, FWeb_ties⟩ := hWeb_ties
  refine F.ok scweb_steps (fun vs H Q E h => ?_) (fun cdv A outer s H vs Q E hr h => ?_)
  · obtain ⟨a, N, ts, rfl, hw, ho, q⟩ := h
    first | rfl | (rcases h with ⟨_, _, rfl, _⟩ | ⟨_, rfl, _⟩ <;> rfl)
  obtain ⟨a, N, ts, rfl, hw, ho, q⟩ := h
  refine ⟨_, (pss_one (ps_ret (pe_lc (own := [("tie", 1), ("near", 2), ("far", 3)]) (g := gTup K 2 (gCons (gName 1) (gCons (gTup K 2 (gCons (gName 2) (gCons (gName 3) gNil))) gNil))) (by rfl) scweb_steps.nd (pi_enum (by rfl) B.enumerate (pa_cons (pe_meth0 (pv 0) WK.cl tWeb_ties OWeb_ties (hr.mono (by decide)) bWeb_ties .nil pass0) pa_nil)) (blkOk_by (own := [("tie", 1), ("near", 2), ("far", 3)]) (N := ["web", "tie", "near", "far"]) (sc := defScope sweb_steps) (by decide +kernel)) (fun _ _ _ _ _ => (pg_tup rfl (pgs_cons (pg_name (i := 1) scweb_steps.nd rfl (by first | exact Or.inl rfl | exact Or.inr rfl)) (pgs_cons (pg_tup rfl (pgs_cons (pg_name (i := 2) scweb_steps.nd rfl (by first | exact Or.inl rfl | exact Or.inr rfl)) (pgs_cons (pg_name (i := 3) scweb_steps.nd rfl (by first | exact Or.inl rfl | exact Or.inr rfl)) pgs_nil))) pgs_nil)))) (fun _ _ _ _ _ => pts_nil) (fun _ _ _ _ _ => (pe_tup (pa_cons (pv 2) (pa_cons (pv 3) (pa_cons (pv 1) pa_nil)))))))), ?_⟩
  obtain ⟨dx, tl, fl, ol, h1, h23⟩ := id hw
  refine ⟨_, rfl, a, dx, _, rfl, h1, (by rfl), a, N, ts, rfl, hw, fun H1 l nl hS1 ⟨tas, hl, hP⟩ => ?_⟩
  refine ⟨l, _, rfl, SqL.of hl, fun D nD => ?_⟩
  have nD0 : H D = none := hS1.free nD
  refine lc_it (walk_enum (K := K) (a := l) (xs := tas.map V.ref)) (fun i H' => Same H1 H' ∧ StepsAt H' D (ts.take i)) ⟨same_new nD _, steps_nil⟩ (fun i H' _ ⟨hS', _⟩ => SqL.of (hS' _ _ hl)) ?_ ?_
  · rintro i x H3 H4 hi ⟨hS3, hD3⟩ ⟨T0, x1, x2, rfl, nT0, rfl, e1, e2⟩
    cases e1
    rw [List.length_map] at hi
    replace e2 : (tas.map V.ref)[i]? = some x2 := e2
    rw [List.getElem?_map, List.getElem?_eq_getElem hi] at e2
    cases e2
    obtain ⟨⟨u, v⟩, he, hpe⟩ := paired_get hP (List.getElem?_eq_getElem hi)
    have hlt := (List.getElem?_eq_some_iff.mp he).1
    have hm := ho.m
    have hS4 : Same H1 (upd H3 T0 (.tup [.int (i : Int), .ref tas[i]])) := fun b o e => same_new nT0 _ _ _ (hS3 _ _ e)
    have hD4 := hD3.same (same_new nT0 (.tup [.int (i : Int), .ref tas[i]]))
    have hT4 : (upd H3 T0 (.tup [.int (i : Int), .ref tas[i]])) T0 = some (.tup [.int (i : Int), .ref tas[i]]) := upd_same
    generalize upd H3 T0 (.tup [.int (i : Int), .ref tas[i]]) = H4 at hS4 hD4 hT4
    have hp4 : H4 tas[i] = some (.tup [.int (u : Int), .int (v : Int)]) := hS4 _ _ hpe
    refine ⟨T0, _, rfl, SqT.of hT4, rfl, _, _, rfl, _, _, rfl, ⟨tas[i], _, rfl, SqT.of hp4, rfl, _, _, rfl, _, _, rfl, rfl, rfl, ?_⟩⟩
    refine ⟨rfl, _, rfl, _, rfl, _, rfl, (by show 3 ≤ sizeLine; decide), fun tp ntp => ?_⟩
    have hlen : (ts.take i).length = i := by rw [List.length_take]; omega
    obtain ⟨xs, g1, g2, g3⟩ := hD4.push (u := u) (v := v) ntp
    rw [hlen] at g1 g2 g3
    refine ⟨xs, g1, by rw [g2]; exact Nat.lt_of_lt_of_le (by omega : i < 1000) (by decide), same_upd (fun b o e => same_new ntp _ _ _ (hS4 _ _ e)) nD, ?_⟩
    rw [take_snocE he]
    exact g3
  · rintro H3 ⟨hS3, hD3⟩
    rw [List.length_map, paired_len hP, List.take_length] at hD3
    exact q H3 D nD0 (fun b o e => hS3 _ _ (hS1 _ _ e)) hD3
end
end My
namespace My
/-! ### webs: ties, walks by their lengths -/
def Edge (ts : List (Nat × Nat)) (W : List Nat) (u v : Nat) : Prop := ∃ i, ts[i]? = some (u, v) ∧ i ∉ W
inductive Wk (E : Nat → Nat → Prop) : Nat → Nat → Nat → Prop where
  | nil (u : Nat) : Wk E 0 u u
  | snoc {k u x v : Nat} : Wk E k u x → E x v → Wk E (k + 1) u v
theorem wk_zero {E : Nat → Nat → Prop} {u v : Nat} (h : Wk E 0 u v) : v = u := by cases h; rfl
theorem wk_succ {E : Nat → Nat → Prop} {k u v : Nat} (h : Wk E (k + 1) u v) : ∃ x, Wk E k u x ∧ E x v := by
  cases h with
  | snoc a b => exact ⟨_, a, b⟩
theorem wk_append {E : Nat → Nat → Prop} {j k u x v : Nat} (a : Wk E j u x) (b : Wk E k x v) : Wk E (j + k) u v := by
  induction b with
  | nil => exact a
  | snoc _ e ih => exact .snoc (ih a) e
theorem wk_split {E : Nat → Nat → Prop} {u v : Nat} : ∀ (k j : Nat), Wk E (j + k) u v → ∃ x, Wk E j u x ∧ Wk E k x v
  | 0, j, h => ⟨v, h, .nil v⟩
  | k + 1, j, h => by
    obtain ⟨y, h1, h2⟩ := wk_succ (show Wk E ((j + k) + 1) u v from h)
    obtain ⟨x, h3, h4⟩ := wk_split k j h1
    exact ⟨x, h3, .snoc h4 h2⟩
def Rch (E : Nat → Nat → Prop) (u v : Nat) : Prop := ∃ k, Wk E k u v
/-- few numbers below N -/
theorem few {N : Nat} : ∀ {L : List Nat}, L.Nodup → (∀ x ∈ L, x < N) → L.length ≤ N := by
  induction N with
  | zero =>
    intro L _ h
    cases L with
    | nil => simp
    | cons a r => exact absurd (h a List.mem_cons_self) (by omega)
  | succ N ih =>
    intro L hn h
    by_cases c : N ∈ L
    · have h1 := ih (L := L.erase N) (hn.erase N) fun x hx => by
        have h2 := (List.Nodup.mem_erase_iff hn).mp hx
        have := h x h2.2
        have := h2.1
        omega
      rw [List.length_erase_of_mem c] at h1
      omega
    · have h1 := ih hn fun x hx => by
        have := h x hx
        have : x ≠ N := fun z => c (by rw [← z]; exact hx)
        omega
      omega
/-! ### coming to -/
structure RInv (E : Nat → Nat → Prop) (s : Nat) (seen waiting : List Nat) : Prop where
  nd : seen.Nodup
  st : s ∈ seen
  sub : ∀ x ∈ waiting, x ∈ seen
  ok : ∀ x ∈ seen, Rch E s x
  cl : ∀ u ∈ seen, u ∉ waiting → ∀ v, E u v → v ∈ seen
/-- while the ties from one place are gone through; D: those that were -/
structure RMid (E : Nat → Nat → Prop) (s here : Nat) (D : Nat → Prop) (seen waiting : List Nat) : Prop where
  nd : seen.Nodup
  st : s ∈ seen
  hh : here ∈ seen
  sub : ∀ x ∈ waiting, x ∈ seen
  ok : ∀ x ∈ seen, Rch E s x
  cl : ∀ u ∈ seen, u ∉ waiting → u ≠ here → ∀ v, E u v → v ∈ seen
  dn : ∀ v, D v → v ∈ seen
theorem r_start {E : Nat → Nat → Prop} (s : Nat) : RInv E s [s] [s] := by
  refine ⟨by simp, by simp, fun x h => h, fun x h => ?_, fun u h hn => absurd h hn⟩
  rw [List.mem_singleton.mp h]
  exact ⟨0, .nil s⟩
theorem r_pop {E : Nat → Nat → Prop} {s : Nat} {seen w : List Nat} {here : Nat} (h : RInv E s seen (w ++ [here])) : RMid E s here (fun _ => False) seen w := by
  refine ⟨h.nd, h.st, h.sub here (by simp), fun x hx => h.sub x (by simp [hx]), h.ok, fun u hu hn hne v hv => ?_, fun v hv => hv.elim⟩
  refine h.cl u hu (fun hm => ?_) v hv
  rcases List.mem_append.mp hm with z | z
  · exact hn z
  · exact hne (List.mem_singleton.mp z)
theorem r_new {E : Nat → Nat → Prop} {s here v : Nat} {D D' : Nat → Prop} {seen w : List Nat} (h : RMid E s here D seen w) (e : E here v) (hv : v ∉ seen) (hD : ∀ x, D' x → D x ∨ x = v) : RMid E s here D' (seen ++ [v]) (w ++ [v]) := by
  refine ⟨?_, by simp [h.st], by simp [h.hh], fun x hx => ?_, fun x hx => ?_, fun u hu hn hne x hx => ?_, fun x hx => ?_⟩
  · rw [List.nodup_append]
    exact ⟨h.nd, by simp, fun a ha b hb => by rw [List.mem_singleton.mp hb]; rintro rfl; exact hv ha⟩
  · rcases List.mem_append.mp hx with z | z
    · exact List.mem_append_left _ (h.sub x z)
    · exact List.mem_append_right _ z
  · rcases List.mem_append.mp hx with z | z
    · exact h.ok x z
    · rw [List.mem_singleton.mp z]
      obtain ⟨k, hk⟩ := h.ok here h.hh
      exact ⟨k + 1, .snoc hk e⟩
  · rcases List.mem_append.mp hu with z | z
    · exact List.mem_append_left _ (h.cl u z (fun m => hn (List.mem_append_left _ m)) hne x hx)
    · exact absurd (List.mem_append_right _ z) hn
  · rcases hD x hx with z | z
    · exact List.mem_append_left _ (h.dn x z)
    · rw [z]; simp
theorem r_old {E : Nat → Nat → Prop} {s here : Nat} {D D' : Nat → Prop} {seen w : List Nat} (h : RMid E s here D seen w) (hD : ∀ x, D' x → D x ∨ x ∈ seen) : RMid E s here D' seen w :=
  ⟨h.nd, h.st, h.hh, h.sub, h.ok, h.cl, fun x hx => (hD x hx).elim (h.dn x) id⟩
theorem r_done {E : Nat → Nat → Prop} {s here : Nat} {D : Nat → Prop} {seen w : List Nat} (h : RMid E s here D seen w) (hD : ∀ v, E here v → D v) : RInv E s seen w := by
  refine ⟨h.nd, h.st, h.sub, h.ok, fun u hu hn v hv => ?_⟩
  by_cases c : u = here
  · subst c
    exact h.dn v (hD v hv)
  · exact h.cl u hu hn c v hv
theorem r_end {E : Nat → Nat → Prop} {s : Nat} {seen : List Nat} (h : RInv E s seen []) (x : Nat) : x ∈ seen ↔ Rch E s x := by
  refine ⟨h.ok x, ?_⟩
  rintro ⟨k, hk⟩
  induction k generalizing x with
  | zero => rw [wk_zero hk]; exact h.st
  | succ k ih =>
    obtain ⟨y, h1, h2⟩ := wk_succ hk
    exact h.cl y (ih y h1) (by simp) x h2
/-! ### the fewest ties, by levels -/
def Few (E : Nat → Nat → Prop) (a b D : Nat) : Prop := 1 ≤ D ∧ Wk E D a b ∧ ∀ k, 1 ≤ k → k < D → ¬ Wk E k a b
structure Lev (E : Nat → Nat → Prop) (a b m : Nat) (here met : List Nat) : Prop where
  mt : ∀ x, x ∈ met ↔ ∃ j, 1 ≤ j ∧ j ≤ m ∧ Wk E j a x
  hr : ∀ x, x ∈ here ↔ Wk E m a x ∧ ∀ j, 1 ≤ j → j < m → ¬ Wk E j a x
  no : b ∉ met
  nd : met.Nodup
theorem lev_start {E : Nat → Nat → Prop} (a b : Nat) : Lev E a b 0 [a] [] := by
  refine ⟨fun x => ⟨fun h => by simp at h, fun ⟨j, h1, h2, _⟩ => by omega⟩, fun x => ⟨fun h => ?_, fun h => ?_⟩, by simp, by simp⟩
  · rw [List.mem_singleton.mp h]
    exact ⟨.nil a, fun j h1 h2 => by omega⟩
  · rw [wk_zero h.1]
    simp
/-- the next level, by what it holds -/
theorem lev_next {E : Nat → Nat → Prop} {a b m : Nat} {here met met' later : List Nat} (h : Lev E a b m here met) (h1 : ∀ x, x ∈ met' ↔ x ∈ met ∨ ∃ u ∈ here, E u x) (h2 : ∀ x, x ∈ later ↔ x ∉ met ∧ ∃ u ∈ here, E u x) :
    (∀ x, x ∈ met' ↔ ∃ j, 1 ≤ j ∧ j ≤ m + 1 ∧ Wk E j a x) ∧ (∀ x, x ∈ later ↔ Wk E (m + 1) a x ∧ ∀ j, 1 ≤ j → j < m + 1 → ¬ Wk E j a x) := by
  have key : ∀ x, Wk E (m + 1) a x → x ∈ met ∨ ∃ u ∈ here, E u x := fun x hx => by
    obtain ⟨u, hu, e⟩ := wk_succ hx
    by_cases c : u ∈ here
    · exact .inr ⟨u, c, e⟩
    · left
      rw [h.hr] at c
      have c2 : ∃ j, 1 ≤ j ∧ j < m ∧ Wk E j a u := by
        by_cases c3 : ∃ j, 1 ≤ j ∧ j < m ∧ Wk E j a u
        · exact c3
        · exact absurd ⟨hu, fun j g1 g2 g3 => c3 ⟨j, g1, g2, g3⟩⟩ c
      obtain ⟨j, g1, g2, g3⟩ := c2
      exact (h.mt x).mpr ⟨j + 1, by omega, by omega, .snoc g3 e⟩
  have here_wk : ∀ x, (∃ u ∈ here, E u x) → Wk E (m + 1) a x := fun x ⟨u, hu, e⟩ => .snoc ((h.hr u).mp hu).1 e
  constructor
  · intro x
    rw [h1]
    constructor
    · rintro (hx | hx)
      · obtain ⟨j, g1, g2, g3⟩ := (h.mt x).mp hx
        exact ⟨j, g1, by omega, g3⟩
      · exact ⟨m + 1, by omega, by omega, here_wk x hx⟩
    · rintro ⟨j, g1, g2, g3⟩
      by_cases c : j ≤ m
      · exact .inl ((h.mt x).mpr ⟨j, g1, c, g3⟩)
      · have e : j = m + 1 := by omega
        subst e
        exact key x g3
  · intro x
    rw [h2]
    constructor
    · rintro ⟨hx, hu⟩
      exact ⟨here_wk x hu, fun j g1 g2 g3 => hx ((h.mt x).mpr ⟨j, g1, by omega, g3⟩)⟩
    · rintro ⟨g1, g2⟩
      have hx : x ∉ met := fun hm => by
        obtain ⟨j, k1, k2, k3⟩ := (h.mt x).mp hm
        exact g2 j k1 (by omega) k3
      exact ⟨hx, (key x g1).resolve_left hx⟩
theorem lev_few {E : Nat → Nat → Prop} {a b m : Nat} {here met met' : List Nat} (h : Lev E a b m here met) (h1 : ∀ x, x ∈ met' ↔ ∃ j, 1 ≤ j ∧ j ≤ m + 1 ∧ Wk E j a x) (hb : b ∈ met') : Few E a b (m + 1) := by
  obtain ⟨j, g1, g2, g3⟩ := (h1 b).mp hb
  have old : ∀ k, 1 ≤ k → k ≤ m → ¬ Wk E k a b := fun k k1 k2 k3 => h.no ((h.mt b).mpr ⟨k, k1, k2, k3⟩)
  have e : j = m + 1 := by
    rcases Nat.lt_or_ge m j with z | z
    · omega
    · exact absurd g3 (old j g1 z)
  subst e
  exact ⟨by omega, g3, fun k k1 k2 => old k k1 (by omega)⟩
theorem lev_none {E : Nat → Nat → Prop} {a b m : Nat} {met : List Nat} (h : Lev E a b m [] met) : ∀ k, 1 ≤ k → ¬ Wk E k a b := by
  intro k
  induction k using Nat.strongRecOn with
  | _ k ih =>
    intro k1 hk
    by_cases c : k ≤ m
    · exact h.no ((h.mt b).mpr ⟨k, k1, c, hk⟩)
    · obtain ⟨u, h1, h2⟩ := wk_split (k - m) m (by rw [show m + (k - m) = k by omega]; exact hk)
      have hu : u ∉ ([] : List Nat) := by simp
      rw [h.hr] at hu
      have c2 : ∃ j, 1 ≤ j ∧ j < m ∧ Wk E j a u := by
        by_cases c3 : ∃ j, 1 ≤ j ∧ j < m ∧ Wk E j a u
        · exact c3
        · exact absurd ⟨h1, fun j g1 g2 g3 => c3 ⟨j, g1, g2, g3⟩⟩ hu
      obtain ⟨j, g1, g2, g3⟩ := c2
      exact ih (j + (k - m)) (by omega) (by omega) (wk_append g3 h2)
theorem few_unique {E : Nat → Nat → Prop} {a b c d : Nat} (h1 : Few E a b c) (h2 : Few E a b d) : c = d := by
  rcases Nat.lt_trichotomy c d with z | z | z
  · exact absurd h1.2.1 (h2.2.2 c h1.1 z)
  · exact z
  · exact absurd h2.2.1 (h1.2.2 d h2.1 z)
/-! ### a shortest way, by a line of places -/
/-- L: the line, its first place near; T: the ties by which the others were come to; ds: how many ties -/
structure Bfs (ts : List (Nat × Nat)) (W : List Nat) (a : Nat) (L T ds : List Nat) : Prop where
  l1 : L.length = T.length + 1
  l2 : ds.length = L.length
  l0 : L[0]? = some a
  d0 : ds[0]? = some 0
  nd : (L.drop 1).Nodup
  mono : ∀ (i j x y : Nat), i < j → ds[i]? = some x → ds[j]? = some y → x ≤ y
  by_ : ∀ (j t : Nat), T[j]? = some t → ∃ (u v i x : Nat), ts[t]? = some (u, v) ∧ t ∉ W ∧ L[j + 1]? = some v ∧ i ≤ j ∧ L[i]? = some u ∧ ds[i]? = some x ∧ ds[j + 1]? = some (x + 1) ∧ (0 < i → u ≠ a)
  wk : ∀ (j v x : Nat), L[j]? = some v → ds[j]? = some x → Wk (Edge ts W) x a v
/-- the first n of the line are done -/
structure Done (ts : List (Nat × Nat)) (W : List Nat) (n : Nat) (L ds : List Nat) : Prop where
  cl : ∀ (i u x v : Nat), i < n → L[i]? = some u → ds[i]? = some x → Edge ts W u v → ∃ (j y : Nat), L[j + 1]? = some v ∧ ds[j + 1]? = some y ∧ y ≤ x + 1
  up : ∀ (j y x : Nat), 0 < n → ds[j]? = some y → ds[n - 1]? = some x → y ≤ x + 1
  one : n = 0 → L.length = 1
theorem bfs_start (ts : List (Nat × Nat)) (W : List Nat) (a : Nat) : Bfs ts W a [a] [] [0] ∧ Done ts W 0 [a] [0] := by
  refine ⟨⟨rfl, rfl, rfl, rfl, by simp, fun i j x y h h1 h2 => ?_, fun j t h => by simp at h, fun j v x h1 h2 => ?_⟩, ⟨fun i u x v h => by omega, fun j y x h => by omega, fun _ => rfl⟩⟩
  · have := (List.getElem?_eq_some_iff.mp h2).1
    simp at this
    omega
  · have hj := (List.getElem?_eq_some_iff.mp h1).1
    simp at hj
    subst hj
    cases h1
    cases h2
    exact .nil a
/-- whoever is come to by so many ties stands in the line -/
theorem bfs_all {ts : List (Nat × Nat)} {W : List Nat} {a n : Nat} {L T ds : List Nat} (h : Bfs ts W a L T ds) (hd : Done ts W n L ds) : ∀ k v, 1 ≤ k → Wk (Edge ts W) k a v → (∀ x, n < L.length → ds[n]? = some x → k ≤ x) → ∃ (j y : Nat), L[j + 1]? = some v ∧ ds[j + 1]? = some y ∧ y ≤ k := by
  intro k
  induction k with
  | zero => intro v h1; omega
  | succ k ih =>
    intro v _ hw hx
    obtain ⟨u, h1, e⟩ := wk_succ hw
    have small : ∀ (i y : Nat), L[i]? = some u → ds[i]? = some y → y ≤ k → ∃ (j y : Nat), L[j + 1]? = some v ∧ ds[j + 1]? = some y ∧ y ≤ k + 1 := fun i y g1 g2 g3 => by
      have hin : i < n := by
        rcases Nat.lt_or_ge i n with z | z
        · exact z
        · exfalso
          have hi := (List.getElem?_eq_some_iff.mp g1).1
          have hn : n < L.length := by omega
          obtain ⟨x, ex⟩ : ∃ x, ds[n]? = some x := ⟨ds[n]'(by rw [h.l2]; exact hn), List.getElem?_eq_getElem _⟩
          have k1 := hx x hn ex
          by_cases c : i = n
          · subst c
            rw [g2] at ex
            cases ex
            omega
          · have := h.mono n i x y (by omega) ex g2
            omega
      obtain ⟨j, z, q1, q2, q3⟩ := hd.cl i u y v hin g1 g2 e
      exact ⟨j, z, q1, q2, by omega⟩
    rcases Nat.eq_zero_or_pos k with z | z
    · subst z
      have eu := wk_zero h1
      subst eu
      exact small 0 0 h.l0 h.d0 (Nat.le_refl _)
    · obtain ⟨j, y, g1, g2, g3⟩ := ih u z h1 fun x q1 q2 => by have := hx x q1 q2; omega
      exact small (j + 1) y g1 g2 g3
theorem get_drop {L : List Nat} {v : Nat} : v ∈ L.drop 1 ↔ ∃ j : Nat, L[j + 1]? = some v := by
  rw [List.mem_iff_getElem?]
  constructor
  · rintro ⟨i, hi⟩
    rw [List.getElem?_drop] at hi
    exact ⟨i, by rw [Nat.add_comm]; exact hi⟩
  · rintro ⟨j, hj⟩
    exact ⟨j, by rw [List.getElem?_drop, Nat.add_comm]; exact hj⟩
/-- while the ties from the place at n are gone through; G: those places that were come to -/
structure Mid (ts : List (Nat × Nat)) (W : List Nat) (a n here : Nat) (G : Nat → Prop) (L T ds : List Nat) : Prop where
  b : Bfs ts W a L T ds
  at_ : L[n]? = some here
  cl : ∀ (i u x v : Nat), i < n → L[i]? = some u → ds[i]? = some x → Edge ts W u v → ∃ (j y : Nat), L[j + 1]? = some v ∧ ds[j + 1]? = some y ∧ y ≤ x + 1
  up : ∀ (j y x : Nat), ds[j]? = some y → ds[n]? = some x → y ≤ x + 1
  dn : ∀ v, G v → v ∈ L.drop 1
theorem mid_start {ts : List (Nat × Nat)} {W : List Nat} {a n here : Nat} {L T ds : List Nat} (h : Bfs ts W a L T ds) (hd : Done ts W n L ds) (e : L[n]? = some here) : Mid ts W a n here (fun _ => False) L T ds := by
  refine ⟨h, e, hd.cl, fun j y x h1 h2 => ?_, fun v hv => hv.elim⟩
  have hj := (List.getElem?_eq_some_iff.mp h1).1
  have hn := (List.getElem?_eq_some_iff.mp h2).1
  rcases Nat.eq_zero_or_pos n with z | z
  · have h3 := hd.one z
    rw [h.l2, h3] at hj
    have ej : j = 0 := by omega
    subst ej
    rw [h.d0] at h1
    cases h1
    omega
  · obtain ⟨x', ex⟩ : ∃ x', ds[n - 1]? = some x' := ⟨ds[n - 1]'(by omega), List.getElem?_eq_getElem _⟩
    have h3 := hd.up j y x' z h1 ex
    have h4 := h.mono (n - 1) n x' x (by omega) ex h2
    omega
theorem get_snoc {L : List Nat} {i v : Nat} (w : Nat) (h : L[i]? = some v) : (L ++ [w])[i]? = some v := by
  rw [List.getElem?_append_left (List.getElem?_eq_some_iff.mp h).1]
  exact h
theorem of_snoc {L : List Nat} {i v w : Nat} (h : (L ++ [w])[i]? = some v) : (L[i]? = some v ∧ i < L.length) ∨ (i = L.length ∧ v = w) := by
  by_cases c : i < L.length
  · rw [List.getElem?_append_left c] at h
    exact .inl ⟨h, c⟩
  · have hi := (List.getElem?_eq_some_iff.mp h).1
    rw [List.length_append] at hi
    have e : i = L.length := by simp at hi; omega
    subst e
    rw [List.getElem?_append_right (Nat.le_refl _), Nat.sub_self] at h
    cases h
    exact .inr ⟨rfl, rfl⟩
theorem last_snoc (L : List Nat) (w : Nat) : (L ++ [w])[L.length]? = some w := by
  rw [List.getElem?_append_right (Nat.le_refl _), Nat.sub_self]
  rfl
theorem mid_new {ts : List (Nat × Nat)} {W : List Nat} {a n here v t x : Nat} {G G' : Nat → Prop} {L T ds : List Nat} (h : Mid ts W a n here G L T ds) (e : ts[t]? = some (here, v)) (hW : t ∉ W) (hv : v ∉ L.drop 1) (hx : ds[n]? = some x) (hG : ∀ w, G' w → G w ∨ w = v) :
    Mid ts W a n here G' (L ++ [v]) (T ++ [t]) (ds ++ [x + 1]) := by
  have hb := h.b
  have hn := (List.getElem?_eq_some_iff.mp h.at_).1
  have l1 := hb.l1
  have l2 := hb.l2
  have hdrop : (L ++ [v]).drop 1 = L.drop 1 ++ [v] := by rw [List.drop_append_of_le_length (by omega)]
  have ha : 0 < n → here ≠ a := fun hn0 hha => by
    subst hha
    obtain ⟨j, y, g1, _⟩ := h.cl 0 here 0 v hn0 hb.l0 hb.d0 ⟨t, e, hW⟩
    exact hv (get_drop.mpr ⟨j, g1⟩)
  have hwk := hb.wk n here x h.at_ hx
  refine ⟨⟨by simp; omega, by simp; omega, get_snoc _ hb.l0, get_snoc _ hb.d0, ?_, fun i j p q hij g1 g2 => ?_, fun j s g => ?_, fun j w p g1 g2 => ?_⟩, get_snoc _ h.at_, fun i u p w hi g1 g2 he => ?_, fun j y p g1 g2 => ?_, fun w hw => ?_⟩
  · rw [hdrop, List.nodup_append]
    exact ⟨hb.nd, by simp, fun p hp q hq => by rw [List.mem_singleton.mp hq]; rintro rfl; exact hv hp⟩
  · rcases of_snoc g2 with ⟨k2, k3⟩ | ⟨k2, k3⟩
    · rcases of_snoc g1 with ⟨k4, _⟩ | ⟨k4, _⟩
      · exact hb.mono i j p q hij k4 k2
      · omega
    · rcases of_snoc g1 with ⟨k4, _⟩ | ⟨k4, _⟩
      · have := h.up i p x k4 hx
        omega
      · omega
  · rcases of_snoc g with ⟨k2, k3⟩ | ⟨k2, k3⟩
    · obtain ⟨u, w, i, p, q1, q2, q3, q4, q5, q6, q7, q8⟩ := hb.by_ j s k2
      exact ⟨u, w, i, p, q1, q2, get_snoc _ q3, q4, get_snoc _ q5, get_snoc _ q6, get_snoc _ q7, q8⟩
    · subst k2 k3
      refine ⟨here, v, n, x, e, hW, ?_, by omega, get_snoc _ h.at_, get_snoc _ hx, ?_, ha⟩
      · rw [← l1]; exact last_snoc _ _
      · rw [← l1, ← l2]; exact last_snoc _ _
  · rcases of_snoc g1 with ⟨k2, k3⟩ | ⟨k2, k3⟩
    · rcases of_snoc g2 with ⟨k4, _⟩ | ⟨k4, _⟩
      · exact hb.wk j w p k2 k4
      · omega
    · rcases of_snoc g2 with ⟨k4, k5⟩ | ⟨_, k5⟩
      · omega
      · subst k3 k5
        exact .snoc hwk ⟨t, e, hW⟩
  · have hil : i < L.length := by omega
    rcases of_snoc g1 with ⟨k2, _⟩ | ⟨k2, _⟩
    · rcases of_snoc g2 with ⟨k4, _⟩ | ⟨k4, _⟩
      · obtain ⟨j, y, r1, r2, r3⟩ := h.cl i u p w hi k2 k4 he
        exact ⟨j, y, get_snoc _ r1, get_snoc _ r2, r3⟩
      · omega
    · omega
  · have hp : p = x := by
      rcases of_snoc g2 with ⟨k4, _⟩ | ⟨k4, _⟩
      · rw [hx] at k4; cases k4; rfl
      · omega
    subst hp
    rcases of_snoc g1 with ⟨k2, _⟩ | ⟨_, k2⟩
    · exact h.up j y p k2 hx
    · omega
  · rw [hdrop]
    rcases hG w hw with z | z
    · exact List.mem_append_left _ (h.dn w z)
    · rw [z]; simp
theorem mid_old {ts : List (Nat × Nat)} {W : List Nat} {a n here : Nat} {G G' : Nat → Prop} {L T ds : List Nat} (h : Mid ts W a n here G L T ds) (hG : ∀ w, G' w → G w ∨ w ∈ L.drop 1) : Mid ts W a n here G' L T ds :=
  ⟨h.b, h.at_, h.cl, h.up, fun v hv => (hG v hv).elim (h.dn v) id⟩
theorem mid_done {ts : List (Nat × Nat)} {W : List Nat} {a n here : Nat} {G : Nat → Prop} {L T ds : List Nat} (h : Mid ts W a n here G L T ds) (hG : ∀ v, Edge ts W here v → G v) : Bfs ts W a L T ds ∧ Done ts W (n + 1) L ds := by
  refine ⟨h.b, ⟨fun i u x v hi g1 g2 he => ?_, fun j y x _ g1 g2 => h.up j y x g1 g2, fun z => by omega⟩⟩
  by_cases c : i < n
  · exact h.cl i u x v c g1 g2 he
  · have e : i = n := by omega
    subst e
    rw [h.at_] at g1
    cases g1
    obtain ⟨j, hj⟩ := get_drop.mp (h.dn v (hG v he))
    have hl := (List.getElem?_eq_some_iff.mp hj).1
    obtain ⟨y, ey⟩ : ∃ y, ds[j + 1]? = some y := ⟨ds[j + 1]'(by rw [h.b.l2]; exact hl), List.getElem?_eq_getElem _⟩
    exact ⟨j, y, hj, ey, h.up _ _ _ ey g2⟩
/-- far was come to just now: by the fewest ties -/
theorem bfs_few {ts : List (Nat × Nat)} {W : List Nat} {a b n here : Nat} {G : Nat → Prop} {L T ds L' T' ds' : List Nat} (h : Bfs ts W a L T ds) (hd : Done ts W n L ds) (hn : n < L.length) (hb : b ∉ L.drop 1)
    (h' : Mid ts W a n here G L' T' ds') (hds : ds[n]? = ds'[n]?) {j y : Nat} (e1 : L'[j + 1]? = some b) (e2 : ds'[j + 1]? = some y) : Few (Edge ts W) a b y := by
  have hw := h'.b.wk _ _ _ e1 e2
  have hl := (List.getElem?_eq_some_iff.mp e1).1
  obtain ⟨t, et⟩ : ∃ t, T'[j]? = some t := ⟨T'[j]'(by have := h'.b.l1; omega), List.getElem?_eq_getElem _⟩
  obtain ⟨u, v, i, x, _, _, _, _, _, _, q7, _⟩ := h'.b.by_ j t et
  rw [e2] at q7
  have ey : y = x + 1 := Option.some.inj q7
  obtain ⟨z, ez⟩ : ∃ z, ds[n]? = some z := ⟨ds[n]'(by rw [h.l2]; exact hn), List.getElem?_eq_getElem _⟩
  have hz := h'.up (j + 1) y z e2 (by rw [← hds]; exact ez)
  refine ⟨by omega, hw, fun k k1 k2 hk => ?_⟩
  obtain ⟨j', _, g1, _⟩ := bfs_all h hd k b k1 hk fun x' _ ex' => by
    rw [ez] at ex'
    cases ex'
    omega
  exact hb (get_drop.mpr ⟨j', g1⟩)
theorem bfs_none {ts : List (Nat × Nat)} {W : List Nat} {a b n : Nat} {L T ds : List Nat} (h : Bfs ts W a L T ds) (hd : Done ts W n L ds) (hn : ¬ n < L.length) (hb : b ∉ L.drop 1) : ∀ k, 1 ≤ k → ¬ Wk (Edge ts W) k a b := by
  intro k k1 hk
  obtain ⟨j, _, g1, _⟩ := bfs_all h hd k b k1 hk fun x hx => absurd hx hn
  exact hb (get_drop.mpr ⟨j, g1⟩)
/-! ### the way back -/
inductive Pth (ts : List (Nat × Nat)) (W : List Nat) : Nat → List Nat → Nat → Prop where
  | one {t u v : Nat} : ts[t]? = some (u, v) → t ∉ W → Pth ts W u [t] v
  | cons {t u x v : Nat} {r : List Nat} : ts[t]? = some (u, x) → t ∉ W → Pth ts W x r v → Pth ts W u (t :: r) v
end My
namespace My
/-! ### parts by two searches in depth -/
theorem rch_refl {E : Nat → Nat → Prop} (u : Nat) : Rch E u u := ⟨0, .nil u⟩
theorem rch_trans {E : Nat → Nat → Prop} {u v w : Nat} (a : Rch E u v) (b : Rch E v w) : Rch E u w := by
  obtain ⟨j, a⟩ := a
  obtain ⟨k, b⟩ := b
  exact ⟨j + k, wk_append a b⟩
theorem rch_one {E : Nat → Nat → Prop} {u v : Nat} (a : E u v) : Rch E u v := ⟨1, .snoc (.nil u) a⟩
theorem rch_closed {E : Nat → Nat → Prop} {S : Nat → Prop} (h : ∀ u v, S u → E u v → S v) {u v : Nat} (hu : S u) (r : Rch E u v) : S v := by
  obtain ⟨k, r⟩ := r
  induction r with
  | nil => exact hu
  | snoc _ e ih => exact h _ _ (ih hu) e
theorem rch_flip {E : Nat → Nat → Prop} {u v : Nat} (r : Rch E u v) : Rch (fun a b => E b a) v u := by
  obtain ⟨k, r⟩ := r
  induction r with
  | nil => exact rch_refl _
  | snoc _ e ih => exact rch_trans (rch_one e) (ih)
/-- walking from inside a lot to outside of it, one leaves it somewhere -/
theorem rch_leave {E : Nat → Nat → Prop} {S : Nat → Prop} {u v : Nat} (hu : S u) (hv : ¬ S v) (r : Rch E u v) : ∃ x y, S x ∧ ¬ S y ∧ E x y ∧ Rch E u x ∧ Rch E y v := by
  obtain ⟨k, r⟩ := r
  induction r with
  | nil => exact absurd hu hv
  | @snoc k u x v a e ih =>
    by_cases c : S x
    · exact ⟨x, v, c, hv, e, ⟨_, a⟩, rch_refl v⟩
    · obtain ⟨x', y', h1, h2, h3, h4, h5⟩ := ih hu c
      exact ⟨x', y', h1, h2, h3, h4, rch_trans h5 (rch_one e)⟩
/-- a search in depth: what it left, its trail -/
structure Dfs (adj : Nat → List Nat) (p0 : Nat) (S0 seen : Nat → Prop) (left : List Nat) (tr : List (Nat × Nat)) : Prop where
  nd : (left ++ tr.map Prod.fst).Nodup
  iff_ : ∀ x, seen x ↔ S0 x ∨ x ∈ left ∨ x ∈ tr.map Prod.fst
  new : ∀ x, x ∈ left ∨ x ∈ tr.map Prod.fst → ¬ S0 x
  fin : ∀ x ∈ left, ∀ y ∈ adj x, seen y
  frm : ∀ f ∈ tr, ∀ y ∈ (adj f.1).take f.2, seen y
  chain : (tr.map Prod.fst).Pairwise fun a b => Rch (fun u v => v ∈ adj u) a b
  ok : ∀ x, x ∈ left ∨ x ∈ tr.map Prod.fst → Rch (fun u v => v ∈ adj u) p0 x
  mem : p0 ∈ left ∨ p0 ∈ tr.map Prod.fst
  star : ∀ A q B, left = A ++ q :: B → ∀ p, Rch (fun u v => v ∈ adj u) q p → S0 p ∨ p ∈ A ∨ p = q ∨ ∃ y, (y ∈ B ∨ y ∈ tr.map Prod.fst) ∧ Rch (fun u v => v ∈ adj u) q y ∧ Rch (fun u v => v ∈ adj u) y q ∧ Rch (fun u v => v ∈ adj u) y p
section
variable {adj : Nat → List Nat} {p0 : Nat} {S0 seen : Nat → Prop} {left : List Nat} {tr : List (Nat × Nat)} {x i : Nat}
theorem dfs_start (h : ¬ S0 p0) (hs : ∀ x, seen x ↔ S0 x ∨ x = p0) : Dfs adj p0 S0 seen [] [(p0, 0)] where
  nd := by simp
  iff_ := fun x => by rw [hs]; simp
  new := fun x hx => by
    rcases hx with z | z
    · cases z
    · have : x = p0 := by simpa using z
      rw [this]; exact h
  fin := fun x hx => by cases hx
  frm := fun f hf y hy => by
    have : f = (p0, 0) := by simpa using hf
    subst this
    simp at hy
  chain := by simp
  ok := fun x hx => by
    rcases hx with z | z
    · cases z
    · have : x = p0 := by simpa using z
      rw [this]; exact rch_refl _
  mem := .inr (by simp)
  star := fun A q B e => by simp at e
/-- the next one was seen -/
theorem dfs_old (h : Dfs adj p0 S0 seen left (tr ++ [(x, i)])) {y : Nat} (hy : (adj x)[i]? = some y) (hs : seen y) : Dfs adj p0 S0 seen left (tr ++ [(x, i + 1)]) := by
  have e : (tr ++ [(x, i + 1)]).map Prod.fst = (tr ++ [(x, i)]).map Prod.fst := by simp
  refine ⟨e ▸ h.nd, fun z => by rw [e]; exact h.iff_ z, fun z => by rw [e]; exact h.new z, h.fin, fun f hf z hz => ?_, by rw [e]; exact h.chain, fun z => by rw [e]; exact h.ok z, by rw [e]; exact h.mem, by rw [e]; exact h.star⟩
  rcases List.mem_append.mp hf with c | c
  · exact h.frm f (List.mem_append_left _ c) z hz
  · have : f = (x, i + 1) := by simpa using c
    subst this
    rw [show (adj x).take (i + 1) = (adj x).take i ++ [y] by rw [List.take_succ, hy]; rfl] at hz
    rcases List.mem_append.mp hz with c | c
    · exact h.frm (x, i) (List.mem_append_right _ (by simp)) z c
    · rw [List.mem_singleton.mp c]; exact hs
/-- the next one is new -/
theorem dfs_new (h : Dfs adj p0 S0 seen left (tr ++ [(x, i)])) {y : Nat} (hy : (adj x)[i]? = some y) (hs : ¬ seen y) {seen' : Nat → Prop} (hs' : ∀ z, seen' z ↔ seen z ∨ z = y) : Dfs adj p0 S0 seen' left (tr ++ [(x, i + 1)] ++ [(y, 0)]) := by
  have e : (tr ++ [(x, i + 1)] ++ [(y, 0)]).map Prod.fst = (tr ++ [(x, i)]).map Prod.fst ++ [y] := by simp
  have hn := (not_congr (h.iff_ y)).mp hs
  have hxy : y ∈ adj x := List.mem_of_getElem? hy
  have hxt : x ∈ (tr ++ [(x, i)]).map Prod.fst := by simp
  refine ⟨?_, fun z => ?_, fun z hz => ?_, fun z hz w hw => (hs' w).mpr (.inl (h.fin z hz w hw)), fun f hf z hz => ?_, ?_, fun z hz => ?_, ?_, fun A q B el p hp => ?_⟩
  · rw [e, ← List.append_assoc, List.nodup_append]
    refine ⟨h.nd, by simp, fun a ha b hb => ?_⟩
    rw [List.mem_singleton.mp hb]
    rintro rfl
    rcases List.mem_append.mp ha with c | c
    · exact hn (.inr (.inl c))
    · exact hn (.inr (.inr c))
  · rw [hs', h.iff_, e, List.mem_append, List.mem_singleton]
    constructor
    · rintro ((a | a | a) | a)
      · exact .inl a
      · exact .inr (.inl a)
      · exact .inr (.inr (.inl a))
      · exact .inr (.inr (.inr a))
    · rintro (a | a | a | a)
      · exact .inl (.inl a)
      · exact .inl (.inr (.inl a))
      · exact .inl (.inr (.inr a))
      · exact .inr a
  · rw [e, List.mem_append, List.mem_singleton] at hz
    rcases hz with c | c | c
    · exact h.new z (.inl c)
    · exact h.new z (.inr c)
    · rw [c]; exact fun q => hn (.inl q)
  · rcases List.mem_append.mp hf with c | c
    · rcases List.mem_append.mp c with c | c
      · exact (hs' z).mpr (.inl (h.frm f (List.mem_append_left _ c) z hz))
      · have : f = (x, i + 1) := by simpa using c
        subst this
        rw [show (adj x).take (i + 1) = (adj x).take i ++ [y] by rw [List.take_succ, hy]; rfl] at hz
        rcases List.mem_append.mp hz with c | c
        · exact (hs' z).mpr (.inl (h.frm (x, i) (List.mem_append_right _ (by simp)) z c))
        · exact (hs' z).mpr (.inr (List.mem_singleton.mp c))
    · have : f = (y, 0) := by simpa using c
      subst this
      simp at hz
  · rw [e, List.pairwise_append]
    refine ⟨h.chain, by simp, fun a ha b hb => ?_⟩
    rw [List.mem_singleton.mp hb]
    rw [List.map_append, List.mem_append] at ha
    have hc := h.chain
    rw [List.map_append, List.pairwise_append] at hc
    rcases ha with c | c
    · exact rch_trans (hc.2.2 a c x (by simp)) (rch_one hxy)
    · have : a = x := by simpa using c
      rw [this]
      exact rch_one hxy
  · rw [e, List.mem_append, List.mem_singleton] at hz
    rcases hz with c | c | c
    · exact h.ok z (.inl c)
    · exact h.ok z (.inr c)
    · rw [c]; exact rch_trans (h.ok x (.inr hxt)) (rch_one hxy)
  · rw [e, List.mem_append]
    rcases h.mem with c | c
    · exact .inl c
    · exact .inr (.inl c)
  · rcases h.star A q B el p hp with a | a | a | ⟨z, hz, r⟩
    · exact .inl a
    · exact .inr (.inl a)
    · exact .inr (.inr (.inl a))
    · refine .inr (.inr (.inr ⟨z, ?_, r⟩))
      rw [e, List.mem_append]
      rcases hz with c | c
      · exact .inl c
      · exact .inr (.inl c)
/-- the last one of the trail is left -/
theorem dfs_leave (h : Dfs adj p0 S0 seen left (tr ++ [(x, i)])) (hi : (adj x).length ≤ i) (hS : ∀ u v, S0 u → v ∈ adj u → S0 v) : Dfs adj p0 S0 seen (left ++ [x]) tr := by
  have em : (tr ++ [(x, i)]).map Prod.fst = tr.map Prod.fst ++ [x] := by simp
  have hfx : ∀ y ∈ adj x, seen y := fun y hy => h.frm (x, i) (List.mem_append_right _ (by simp)) y (by rw [List.take_of_length_le hi]; exact hy)
  have hx0 : ¬ S0 x := h.new x (.inr (by simp))
  have hnd := h.nd
  rw [em] at hnd
  have perm : (left ++ (tr.map Prod.fst ++ [x])).Perm (left ++ [x] ++ tr.map Prod.fst) := by
    rw [List.append_assoc]
    exact List.Perm.append_left left List.perm_append_comm
  have mm : ∀ z, (z ∈ left ++ [x] ∨ z ∈ tr.map Prod.fst) ↔ (z ∈ left ∨ z ∈ (tr ++ [(x, i)]).map Prod.fst) := fun z => by
    rw [em, List.mem_append, List.mem_append, List.mem_singleton]
    constructor
    · rintro ((a | a) | a)
      · exact .inl a
      · exact .inr (.inr a)
      · exact .inr (.inl a)
    · rintro (a | a | a)
      · exact .inl (.inl a)
      · exact .inr a
      · exact .inl (.inr a)
  have hch := h.chain
  rw [em, List.pairwise_append] at hch
  have finAll : ∀ z, z ∈ left ++ [x] → ∀ y ∈ adj z, seen y := fun z hz => by
    rcases List.mem_append.mp hz with c | c
    · exact h.fin z c
    · rw [List.mem_singleton.mp c]; exact hfx
  refine ⟨perm.nodup_iff.mp hnd, fun z => by rw [h.iff_, mm], fun z hz => h.new z ((mm z).mp hz), finAll, fun f hf => h.frm f (List.mem_append_left _ hf), hch.1, fun z hz => h.ok z ((mm z).mp hz), (mm _).mpr h.mem, fun A q B el p hp => ?_⟩
  rcases List.eq_nil_or_concat B with rfl | ⟨B', b, rfl⟩
  · -- the one just left
    have el2 : left ++ [x] = A ++ [q] := el
    obtain ⟨rfl, hq⟩ := List.append_inj' el2 rfl
    have hq : x = q := by simpa using hq
    subst hq
    by_cases c0 : S0 p ∨ p ∈ left ∨ p = x
    · rcases c0 with a | a | a
      · exact .inl a
      · exact .inr (.inl a)
      · exact .inr (.inr (.inl a))
    · obtain ⟨u, y, hu, hy, huy, r1, r2⟩ := rch_leave (S := fun z => S0 z ∨ z ∈ left ∨ z = x) (.inr (.inr rfl)) c0 hp
      have hsy : seen y := by
        rcases hu with a | a | a
        · exact absurd (.inl (hS _ _ a huy)) hy
        · exact h.fin u a y huy
        · rw [a] at huy; exact hfx y huy
      have hty : y ∈ tr.map Prod.fst := by
        rcases (h.iff_ y).mp hsy with a | a | a
        · exact absurd (.inl a) hy
        · exact absurd (.inr (.inl a)) hy
        · rw [em, List.mem_append, List.mem_singleton] at a
          rcases a with a | a
          · exact a
          · exact absurd (.inr (.inr a)) hy
      exact .inr (.inr (.inr ⟨y, .inr hty, rch_trans r1 (rch_one huy), hch.2.2 y hty x (by simp), r2⟩))
  · rw [List.concat_eq_append] at el ⊢
    have el2 : left ++ [x] = (A ++ q :: B') ++ [b] := by rw [el]; simp
    obtain ⟨rfl, hb⟩ := List.append_inj' el2 rfl
    have hb : x = b := by simpa using hb
    subst hb
    rcases h.star A q B' rfl p hp with a | a | a | ⟨z, hz, r⟩
    · exact .inl a
    · exact .inr (.inl a)
    · exact .inr (.inr (.inl a))
    · refine .inr (.inr (.inr ⟨z, ?_, r⟩))
      rw [em, List.mem_append, List.mem_singleton] at hz
      rcases hz with c | c | c
      · exact .inl (List.mem_append_left _ c)
      · exact .inr c
      · exact .inl (List.mem_append_right _ (by rw [c]; simp))
/-- at the end -/
theorem dfs_end (h : Dfs adj p0 S0 seen left []) (hS : ∀ u v, S0 u → v ∈ adj u → S0 v) :
    left.Nodup ∧ (∀ x, seen x ↔ S0 x ∨ x ∈ left) ∧ (∀ x, x ∈ left ↔ Rch (fun u v => v ∈ adj u) p0 x ∧ ¬ S0 x) ∧ (∀ u v, seen u → v ∈ adj u → seen v) ∧
      ∀ A q B, left = A ++ q :: B → ∀ p, Rch (fun u v => v ∈ adj u) q p → S0 p ∨ p ∈ A ∨ p = q ∨ ∃ y ∈ B, Rch (fun u v => v ∈ adj u) q y ∧ Rch (fun u v => v ∈ adj u) y q ∧ Rch (fun u v => v ∈ adj u) y p := by
  have hs : ∀ x, seen x ↔ S0 x ∨ x ∈ left := fun x => by rw [h.iff_]; simp
  have hcl : ∀ u v, seen u → v ∈ adj u → seen v := fun u v hu hv => by
    rcases (hs u).mp hu with a | a
    · exact (hs v).mpr (.inl (hS u v a hv))
    · exact h.fin u a v hv
  have hp0 : p0 ∈ left := by
    rcases h.mem with a | a
    · exact a
    · simp at a
  refine ⟨by simpa using h.nd, hs, fun x => ⟨fun hx => ⟨h.ok x (.inl hx), h.new x (.inl hx)⟩, fun ⟨r, hn⟩ => ?_⟩, hcl, fun A q B el p hp => ?_⟩
  · have := rch_closed hcl ((hs p0).mpr (.inr hp0)) r
    rcases (hs x).mp this with a | a
    · exact absurd a hn
    · exact a
  · rcases h.star A q B el p hp with a | a | a | ⟨z, hz, r⟩
    · exact .inl a
    · exact .inr (.inl a)
    · exact .inr (.inr (.inl a))
    · rcases hz with c | c
      · exact .inr (.inr (.inr ⟨z, c, r⟩))
      · simp at c
end
/-! ### the measure of a search -/
/-- steps that are still to be made: for points not seen, and for the trail -/
def todo (adj : Nat → List Nat) (seen : List Bool) : Nat → Nat
  | 0 => 0
  | n + 1 => todo adj seen n + (if seen[n]? = some false then (adj n).length + 2 else 0)
def owed (adj : Nat → List Nat) : List (Nat × Nat) → Nat
  | [] => 0
  | f :: r => ((adj f.1).length - f.2 + 1) + owed adj r
theorem owed_app (adj : Nat → List Nat) : ∀ a b : List (Nat × Nat), owed adj (a ++ b) = owed adj a + owed adj b
  | [], b => by simp [owed]
  | f :: r, b => by
    show _ + owed adj (r ++ b) = _ + owed adj r + owed adj b
    rw [owed_app adj r b]
    omega
theorem todo_set (adj : Nat → List Nat) {seen : List Bool} {y : Nat} (h : seen[y]? = some false) : ∀ n, todo adj (seen.set y true) n + (if y < n then (adj y).length + 2 else 0) = todo adj seen n
  | 0 => by simp [todo]
  | n + 1 => by
    have ih := todo_set adj h n
    show (todo adj (seen.set y true) n + (if (seen.set y true)[n]? = some false then (adj n).length + 2 else 0)) + _ = todo adj seen n + (if seen[n]? = some false then (adj n).length + 2 else 0)
    by_cases c : y = n
    · subst c
      have hl : y < seen.length := (List.getElem?_eq_some_iff.mp h).1
      have e1 : (seen.set y true)[y]? = some true := by simp [hl]
      rw [e1, h, if_pos (show y < y + 1 by omega), if_pos (show some false = some false from rfl), if_neg (show ¬ (some true = some false) by simp)]
      rw [if_neg (show ¬ y < y by omega)] at ih
      omega
    · have e1 : (seen.set y true)[n]? = seen[n]? := by rw [List.getElem?_set_ne c]
      rw [e1]
      by_cases d : y < n
      · rw [if_pos (show y < n + 1 by omega)]
        rw [if_pos d] at ih
        omega
      · rw [if_neg (show ¬ y < n + 1 by omega)]
        rw [if_neg d] at ih
        omega
end My
namespace My
open PySem L2 PyProof.Rows
theorem inV_iv (n : Nat) (W : List Nat) : inV (.int (n : Int)) (iv W) = decide (n ∈ W) := by
  unfold inV iv
  induction W with
  | nil => rfl
  | cons a r ih =>
    rw [List.map_cons, List.any_cons, ih]
    by_cases h : a = n
    · subst h
      have e : eqV (V.int (a : Int)) (V.int (a : Int)) = true := by
        show ((a : Int) == (a : Int)) = true
        simp
      rw [e]
      simp
    · have e : eqV (V.int (a : Int)) (V.int (n : Int)) = false := by
        show ((a : Int) == (n : Int)) = false
        simp
        omega
      rw [e]
      have h2 : ¬ n = a := fun z => h z.symm
      simp [h2]
theorem flat_iv (W : List Nat) : (iv W).all flatV = true := by
  rw [List.all_eq_true]
  intro x hx
  obtain ⟨n, _, rfl⟩ := List.mem_map.mp hx
  rfl
/-! ### to where the ties lead -/
def outN (ts : List (Nat × Nat)) (W : List Nat) (u : Nat) : Nat → List Nat
  | 0 => []
  | i + 1 => match ts[i]? with
    | some e => if e.1 = u ∧ i ∉ W then outN ts W u i ++ [e.2] else outN ts W u i
    | none => outN ts W u i
theorem outN_len (ts : List (Nat × Nat)) (W : List Nat) (u : Nat) : ∀ i, (outN ts W u i).length ≤ i
  | 0 => by simp [outN]
  | i + 1 => by
    have := outN_len ts W u i
    unfold outN
    split
    · split
      · simp; omega
      · omega
    · omega
theorem outN_mem (ts : List (Nat × Nat)) (W : List Nat) (u v : Nat) : ∀ i, v ∈ outN ts W u i ↔ ∃ j, j < i ∧ ts[j]? = some (u, v) ∧ j ∉ W
  | 0 => by simp [outN]
  | i + 1 => by
    have ih := outN_mem ts W u v i
    have lift : (∃ j, j < i ∧ ts[j]? = some (u, v) ∧ j ∉ W) → ∃ j, j < i + 1 ∧ ts[j]? = some (u, v) ∧ j ∉ W := fun ⟨j, h1, h2⟩ => ⟨j, by omega, h2⟩
    unfold outN
    split
    · rename_i e he
      split
      · rename_i c
        rw [List.mem_append, ih, List.mem_singleton]
        constructor
        · rintro (h | rfl)
          · exact lift h
          · exact ⟨i, by omega, by rw [he, ← c.1], c.2⟩
        · rintro ⟨j, h1, h2, h3⟩
          by_cases z : j = i
          · subst z
            rw [he] at h2
            right
            rw [Option.some.inj h2]
          · exact .inl ⟨j, by omega, h2, h3⟩
      · rename_i c
        rw [ih]
        refine ⟨lift, ?_⟩
        rintro ⟨j, h1, h2, h3⟩
        by_cases z : j = i
        · subst z
          rw [he] at h2
          refine absurd ⟨?_, h3⟩ c
          rw [Option.some.inj h2]
        · exact ⟨j, by omega, h2, h3⟩
    · rename_i he
      rw [ih]
      refine ⟨lift, ?_⟩
      rintro ⟨j, h1, h2, h3⟩
      by_cases z : j = i
      · subst z
        rw [he] at h2
        cases h2
      · exact ⟨j, by omega, h2, h3⟩
abbrev outs (ts : List (Nat × Nat)) (W : List Nat) (u : Nat) : List Nat := outN ts W u ts.length
theorem outs_mem {ts : List (Nat × Nat)} {W : List Nat} {u v : Nat} : v ∈ outs ts W u ↔ Edge ts W u v := by
  rw [outs, outN_mem]
  constructor
  · rintro ⟨j, _, h⟩
    exact ⟨j, h⟩
  · rintro ⟨j, h⟩
    exact ⟨j, (List.getElem?_eq_some_iff.mp h.1).1, h⟩
/-- the booleans that tell what was seen -/
abbrev bv (L : List Bool) : List V := L.map V.bl
abbrev Got (L : List Bool) (x : Nat) : Prop := L[x]? = some true
structure LfOk (adj : Nat → List Nat) (N : Nat) : Prop where
  n1 : N ≤ 60
  lt : ∀ u, ∀ v ∈ adj u, v < N
  sz : ∀ u, (adj u).length ≤ 80
structure LfRes (adj : Nat → List Nat) (N p : Nat) (S S' : List Bool) (L : List Nat) : Prop where
  nd : L.Nodup
  ln : S'.length = N
  lt : ∀ x ∈ L, x < N
  got : ∀ x, Got S' x ↔ Got S x ∨ x ∈ L
  mem : ∀ x, x ∈ L ↔ Rch (fun u v => v ∈ adj u) p x ∧ ¬ Got S x
  cl : ∀ u v, Got S' u → v ∈ adj u → Got S' v
  star : ∀ A q B, L = A ++ q :: B → ∀ x, Rch (fun u v => v ∈ adj u) q x → Got S x ∨ x ∈ A ∨ x = q ∨ ∃ y ∈ B, Rch (fun u v => v ∈ adj u) q y ∧ Rch (fun u v => v ∈ adj u) y q ∧ Rch (fun u v => v ∈ adj u) y x
theorem paired_end1 {α β : Type} {F : α → β → Prop} : ∀ {l1 : List α} {l2 : List β} {b : β}, Paired F l1 (l2 ++ [b]) → ∃ m a, l1 = m ++ [a] ∧ Paired F m l2 ∧ F a b
  | _, [], _, .cons r .nil => ⟨[], _, rfl, .nil, r⟩
  | _, _ :: l2, b, .cons r t => by
    obtain ⟨m, a, e, h1, h2⟩ := paired_end1 (l2 := l2) t
    exact ⟨_ :: m, a, by rw [e]; rfl, .cons r h1, h2⟩
theorem TiesAt.pop {H : Hp} {l : Addr} {tr : List (Nat × Nat)} {f : Nat × Nat} (h : TiesAt H l (tr ++ [f])) :
    ∃ xs p, H l = some (.lst xs) ∧ xs[xs.length - 1]? = some (.ref p) ∧ H p = some (.tup [.int (f.1 : Int), .int (f.2 : Int)]) ∧ TiesAt (upd H l (.lst xs.dropLast)) l tr := by
  obtain ⟨tas, h1, h2⟩ := h
  obtain ⟨m, a, rfl, h3, h4⟩ := paired_end1 h2
  refine ⟨_, a, h1, ?_, h4, m, ?_, paired_mono (fun q e hq => ?_) h3⟩
  · rw [List.map_append, List.length_append, List.length_map, List.getElem?_append_right (by simp), List.length_map]
    simp
  · rw [upd_same, List.map_append]
    show some (HO.lst (List.dropLast (m.map V.ref ++ [V.ref a]))) = _
    rw [List.dropLast_concat]
  · have nq : q ≠ l := ne_of hq h1 (by intro z; cases z)
    show upd _ _ _ q = _
    rw [upd_ne nq]
    exact hq
theorem bv_at {L : List Bool} {j : Nat} {b : Bool} (h : L[j]? = some b) : atI (bv L) (j : Int) = some (.bl b) := by
  refine atI_nat ?_
  rw [bv, List.getElem?_map, h]
  rfl
theorem ix_at {n j : Nat} (hj : j < n) : ixN n (j : Int) = some j := by
  unfold ixN
  rw [if_pos (by omega), if_pos (by omega)]
  simp
theorem bv_set (L : List Bool) (j : Nat) : (bv L).set j (.bl true) = bv (L.set j true) := by
  unfold bv
  rw [List.map_set]
theorem got_set {L : List Bool} {j : Nat} (hj : j < L.length) (x : Nat) : Got (L.set j true) x ↔ Got L x ∨ x = j := by
  unfold Got
  by_cases c : x = j
  · subst c
    simp [hj]
  · rw [List.getElem?_set_ne (fun z => c z.symm)]
    simp [c]
theorem bl_of {L : List Bool} {j : Nat} (hj : j < L.length) : L[j]? = some true ∨ L[j]? = some false := by
  rw [List.getElem?_eq_getElem hj]
  cases L[j] <;> simp
section
variable {P : Program} {w : World} {K : PySem.W.Frag} {mg : Str → Option Value} {base : Heap} {C : Addr}
def sp_left_from (_ : PySem.W.Frag) (C : Addr) : Sp := fun vs H Q _ => ∃ e p s adj N S, vs = [.ref e, .int ((p : Nat) : Int), .ref s] ∧ RowsAt H e N adj ∧ LfOk adj N ∧ p < N ∧ H s = some (.lst (bv S)) ∧ S.length = N ∧ ¬ Got S p ∧ (∀ u v, Got S u → v ∈ adj u → Got S v) ∧ ∀ H' l L S', H l = none → H' l = some (.lst (iv L)) → H' s = some (.lst (bv S')) → Kept s H H' → LfRes adj N p S S' L → Q (.ref l) H'
theorem ok_left_from (D : Def K mg "_left_from" s_left_from ["ends", "point", "seen"]) (B : Bs mg) (Glb : Glo mg) (WK : WebK K mg C) :
    Good P w K mg base "_left_from" s_left_from ["ends", "point", "seen"] 1 (sp_left_from K C) := by
  refine D.good fun f fd F => ?_
  refine F.ok sc_left_from (fun vs H Q E h => ?_) (fun cdv A outer s H vs Q E hr h => ?_)
  · obtain ⟨e, p, s, adj, N, S, rfl, hR, hA, hp, hs, hSl, hnp, hcl, q⟩ := h
    first | rfl | (rcases h with ⟨_, _, rfl, _⟩ | ⟨_, rfl, _⟩ <;> rfl)
  obtain ⟨e, p, s, adj, N, S, rfl, hR, hA, hp, hs, hSl, hnp, hcl, q⟩ := h
  refine ⟨_, (pss_cons (ps_set (i := 3) sc_left_from.nd rfl (by first | exact Or.inl rfl | exact Or.inr rfl) (pe_lst pa_nil))
  (pss_cons (ps_asg pe_bl (pg_sub (pv 2) (pv 1) set_list))
  (pss_cons (ps_set (i := 4) sc_left_from.nd rfl (by first | exact Or.inl rfl | exact Or.inr rfl) (pe_lst (pa_cons (pe_tup (pa_cons (pv 1) (pa_cons pe_int pa_nil))) pa_nil)))
  (pss_cons (ps_while PassesOwn.never (pt_cmpR (op_neD hr.units) (pv 4) (pe_lst pa_nil) (nomark _))
    (pss_cons (ps_asg (pe_bm0 PySem.F.plainAttrs_list PySem.F.slot_list_pop PySem.F.type_list_pop mt_pop (pv 4)) (pg_tup rfl (pgs_cons (pg_name (i := 5) sc_left_from.nd rfl (by first | exact Or.inl rfl | exact Or.inr rfl)) (pgs_cons (pg_name (i := 6) sc_left_from.nd rfl (by first | exact Or.inl rfl | exact Or.inr rfl)) pgs_nil))))
  (pss_cons (ps_if (pt_cmpR op_eq (pv 6) (pe_callB call_len_seq (by rfl) B.len (by decide +kernel) (pa_cons (pe_ix ix_list (pv 0) (pv 5) (fun _ _ => rfl)) pa_nil)) (nomark _))
    (pss_cons (ps_expr (pe_bm PySem.F.plainAttrs_list PySem.F.slot_list_append PySem.F.type_list_append mt_append (pv 3) (pa_cons (pv 5) pa_nil)))
  (pss_one ps_continue)) pss_nil)
  (pss_cons (ps_expr (pe_bm PySem.F.plainAttrs_list PySem.F.slot_list_append PySem.F.type_list_append mt_append (pv 4) (pa_cons (pe_tup (pa_cons (pv 5) (pa_cons (pe_op op_add (pv 6) pe_int) pa_nil))) pa_nil)))
  (pss_cons (ps_set (i := 7) sc_left_from.nd rfl (by first | exact Or.inl rfl | exact Or.inr rfl) (pe_ix ix_list (pe_ix ix_list (pv 0) (pv 5) (fun _ _ => rfl)) (pv 6) (fun _ _ => rfl)))
  (pss_one (ps_if (pt_not (pt_val (pe_ix ix_list (pv 2) (pv 7) (fun _ _ => rfl))))
    (pss_cons (ps_asg pe_bl (pg_sub (pv 2) (pv 7) set_list))
  (pss_one (ps_expr (pe_bm PySem.F.plainAttrs_list PySem.F.slot_list_append PySem.F.type_list_append mt_append (pv 4) (pa_cons (pe_tup (pa_cons (pv 7) (pa_cons pe_int pa_nil))) pa_nil))))) pss_nil)))))))
  (pss_one (ps_ret (pv 3))))))), ?_⟩
  have hN := hA.n1
  have hRk : ∀ H', Kept s H H' → RowsAt H' e N adj := fun H' k => by
    obtain ⟨fas, r1, r2, r3⟩ := hR
    have nes : ∀ b (L : List Nat), H b = some (.lst (iv L)) → b ≠ s := fun b L hb z => by
      rw [z, hs] at hb
      have hb := HO.lst.inj (Option.some.inj hb)
      cases S with
      | nil => simp at hSl; omega
      | cons t r =>
        cases L with
        | nil => cases hb
        | cons n r' => cases (List.cons.inj hb).1
    have ees : e ≠ s := fun z => by
      rw [z, hs] at r1
      have r1 := HO.lst.inj (Option.some.inj r1)
      cases S with
      | nil => simp at hSl; omega
      | cons t r =>
        cases fas with
        | nil => cases r1
        | cons n r' => cases (List.cons.inj r1).1
    exact ⟨fas, k _ _ r1 ees, r2, fun j x ej => k _ _ (r3 j x ej) (nes _ _ (r3 j x ej))⟩
  refine ⟨Nat.zero_le _, fun ll nll => ?_⟩
  have nls : ll ≠ s := (ne_of_none hs nll).symm
  refine ⟨_, rfl, _, rfl, s, _, _, p, rfl, rfl, (by rw [upd_ne nls.symm]; exact hs), ix_at (by rw [List.length_map, hSl]; exact hp), ?_⟩
  rw [bv_set]
  generalize e1 : upd (upd H ll (.lst [])) s (.lst (bv (S.set p true))) = H1
  have hs1 : H1 s = some (.lst (bv (S.set p true))) := by rw [← e1]; exact upd_same
  have hll1 : H1 ll = some (.lst (iv [])) := by rw [← e1, upd_ne nls]; exact upd_same
  have hk1 : Kept s H H1 := fun b o z n => by rw [← e1, upd_ne n]; exact same_new nll _ _ _ z
  refine ⟨_, rfl, (by show 2 ≤ sizeLine; decide), fun tp ntp => ⟨(by show 1 ≤ sizeLine; decide), fun tl ntl => ?_⟩⟩
  have nts : tp ≠ s := (ne_of_none hs1 ntp).symm
  have htl0 : TiesAt (upd (upd H1 tp (.tup [.int (p : Int), .int 0])) tl (.lst [.ref tp])) tl [(p, 0)] := ⟨[tp], upd_same, .cons (by show upd _ _ _ tp = _; rw [upd_ne (fun z => by rw [z] at ntl; rw [upd_same] at ntl; cases ntl), upd_same]; rfl) .nil⟩
  have hk2 : Kept s H (upd (upd H1 tp (.tup [.int (p : Int), .int 0])) tl (.lst [.ref tp])) := (hk1.new ntp).new ntl
  have hs2 := same_new ntl (.lst [.ref tp]) _ _ (same_new ntp (.tup [.int (p : Int), .int 0]) _ _ hs1)
  have hll2 := same_new ntl (.lst [.ref tp]) _ _ (same_new ntp (.tup [.int (p : Int), .int 0]) _ _ hll1)
  have ntl1 : H1 tl = none := by
    by_cases c : tl = tp
    · rw [c]; exact ntp
    · rw [upd_ne c] at ntl; exact ntl
  have ntls : tl ≠ s := (ne_of_none hs1 ntl1).symm
  have ntll : tl ≠ ll := (ne_of_none hll1 ntl1).symm
  have ntlH : H tl = none := by
    cases z : H tl with
    | none => rfl
    | some o => rw [hk1 _ _ z ntls] at ntl1; cases ntl1
  generalize upd (upd H1 tp (.tup [.int (p : Int), .int 0])) tl (.lst [.ref tp]) = H2 at htl0 hk2 hs2 hll2
  have hpS : p < S.length := by omega
  let Pv : Nat → L2.St → Hp → Prop := fun m σ H' => ∃ (v5 v6 v7 : Option V) (left : List Nat) (tr : List (Nat × Nat)) (Sc : List Bool), σ = [some (.ref e), some (.int (p : Int)), some (.ref s), some (.ref ll), some (.ref tl), v5, v6, v7] ∧ Kept s H H' ∧ H' ll = some (.lst (iv left)) ∧ TiesAt H' tl tr ∧ H' s = some (.lst (bv Sc)) ∧ Sc.length = N ∧ Dfs adj p (Got S) (Got Sc) left tr ∧ (∀ f ∈ tr, f.2 ≤ (adj f.1).length) ∧ todo adj Sc N + owed adj tr = m
  refine ⟨Pv, ⟨_, none, none, none, [], [(p, 0)], S.set p true, rfl, hk2, hll2, htl0, hs2, by rw [List.length_set]; exact hSl, dfs_start hnp (got_set hpS), fun f hf => by rw [List.mem_singleton.mp hf]; exact Nat.zero_le _, rfl⟩, ?_⟩
  rintro m σ H3 ⟨v5, v6, v7, left, tr, Sc, rfl, hk3, hll3, htl3, hs3, hSc, hD, hle, hμ⟩
  refine ⟨_, rfl, Nat.zero_le _, fun p0 np0 => ⟨_, _, dp_tz (htl3.same (same_new np0 _)), dp_iz (L := []) upd_same, shaped_tz _, shaped_iz _, _, rfl, ?_⟩⟩
  rw [eqv_tz]
  have hk4 := hk3.new (o := .lst []) np0
  have hll4 := same_new np0 (.lst []) _ _ hll3
  have htl4 := htl3.same (same_new np0 (.lst []))
  have hs4 := same_new np0 (.lst []) _ _ hs3
  generalize upd H3 p0 (.lst []) = H4 at hk4 hll4 htl4 hs4
  rcases List.eq_nil_or_concat tr with rfl | ⟨rest, ⟨x, i⟩, rfl⟩
  · refine iteNot' rfl ⟨_, rfl, ?_⟩
    obtain ⟨d1, d2, d3, d4, d5⟩ := dfs_end hD hcl
    exact q _ ll left Sc nll hll4 hs4 hk4 ⟨d1, hSc, fun x hx => by have := (List.getElem?_eq_some_iff.mp ((d2 x).mpr (.inr hx))).1; omega, d2, d3, d4, d5⟩
  rw [List.concat_eq_append] at *
  refine iteNot (by simp) ?_
  refine ⟨fun σ' H' => ∃ m', m' < m ∧ Pv m' σ' H', fun σ' H' h => h, ?_⟩
  obtain ⟨xs, pt, g1, g2, g3, g4⟩ := htl4.pop
  refine ⟨_, rfl, .inl ⟨rfl, _, SqL.of g1⟩, tl, _, _, rfl, rfl, g1, g2, ?_⟩
  have nptl : pt ≠ tl := ne_of g3 g1 (by intro z; cases z)
  have hk5 : Kept s H (upd H4 tl (.lst xs.dropLast)) := hk4.put ntlH
  have hll5 : (upd H4 tl (.lst xs.dropLast)) ll = some (.lst (iv left)) := by rw [upd_ne ntll.symm]; exact hll4
  have hs5 : (upd H4 tl (.lst xs.dropLast)) s = some (.lst (bv Sc)) := by rw [upd_ne ntls.symm]; exact hs4
  have hp5 : (upd H4 tl (.lst xs.dropLast)) pt = some (.tup [.int (x : Int), .int (i : Int)]) := by rw [upd_ne nptl]; exact g3
  generalize upd H4 tl (.lst xs.dropLast) = H5 at hk5 hll5 hs5 hp5 g4
  refine ⟨pt, _, rfl, SqT.of hp5, rfl, _, _, rfl, _, _, rfl, rfl, ?_⟩
  have hgx : Got Sc x := (hD.iff_ x).mpr (.inr (.inr (by simp)))
  have hxN : x < N := by have := (List.getElem?_eq_some_iff.mp hgx).1; omega
  have hix : i ≤ (adj x).length := hle (x, i) (by simp)
  have hszx := hA.sz x
  have hmany : left.length + rest.length + 1 ≤ N := by
    have h1 := few (N := N) hD.nd (fun z hz => by
      have hg : Got Sc z := by
        rw [hD.iff_]
        rcases List.mem_append.mp hz with c | c
        · exact .inr (.inl c)
        · exact .inr (.inr c)
      have := (List.getElem?_eq_some_iff.mp hg).1
      omega)
    rw [List.length_append, List.length_map, List.length_append, List.length_singleton] at h1
    omega
  have how : owed adj (rest ++ [(x, i)]) = owed adj rest + ((adj x).length - i + 1) := by
    rw [owed_app]
    show owed adj rest + (((adj x).length - i + 1) + 0) = _
    omega
  obtain ⟨rx, rxs, e1, e2, e3⟩ := (hRk _ hk5).get hxN
  refine ⟨_, rfl, _, rfl, _, rfl, _, _, _, .ref rx, rfl, rfl, SqL.of e1, e2, rx, _, rfl, .inl (SqL.of e3), rfl, _, rfl, ?_⟩
  by_cases c : i = (adj x).length
  · refine iteYes (int_eq.mpr (by rw [List.length_map, c])) ?_
    refine ⟨_, rfl, .inl ⟨rfl, _, SqL.of hll5⟩, _, rfl, ll, _, _, rfl, rfl, hll5, ?_, ?_⟩
    · rw [List.length_map]
      exact Nat.lt_of_lt_of_le (by omega : left.length < 1000) (by decide)
    refine ⟨_, ?_, _, _, v7, left ++ [x], rest, Sc, rfl, hk5.put nll, by rw [upd_same, iv_app], ?_, ?_, hSc, dfs_leave hD (by omega) hcl, fun f hf => hle f (List.mem_append_left _ hf), rfl⟩
    · rw [← hμ, how]
      omega
    · obtain ⟨tas, t1, t2⟩ := g4
      refine ⟨tas, by rw [upd_ne ntll]; exact t1, paired_mono (fun q' e' hq => ?_) t2⟩
      have : q' ≠ ll := ne_of hq hll5 (by intro z; cases z)
      show upd _ _ _ q' = _
      rw [upd_ne this]
      exact hq
    · rw [upd_ne nls.symm]
      exact hs5
  refine iteNo (fun z => c (by have := int_eq.mp z; rw [List.length_map] at this; omega)) ?_
  have hil : i < (adj x).length := by omega
  obtain ⟨xs1, hx1, hx1l⟩ := g4.get
  refine ⟨_, rfl, .inl ⟨rfl, _, SqL.of hx1⟩, _, rfl, _, rfl, _, _, rfl, rfl, (by show 2 ≤ sizeLine; decide), fun tq ntq => ?_⟩
  obtain ⟨ys, k1, k2, k3⟩ := g4.pushV (u := x) (v := i + 1) (x := V.int (x : Int)) (y := V.int ((i : Int) + 1)) rfl rfl ntq
  refine ⟨tl, _, _, rfl, rfl, k1, by rw [k2]; exact Nat.lt_of_lt_of_le (by omega : rest.length < 1000) (by decide), ?_⟩
  have hk6 : Kept s H (upd (upd H5 tq (.tup [.int (x : Int), .int ((i : Int) + 1)])) tl (.lst (ys ++ [.ref tq]))) := (hk5.new ntq).put ntlH
  have hll6 : (upd (upd H5 tq (.tup [.int (x : Int), .int ((i : Int) + 1)])) tl (.lst (ys ++ [.ref tq]))) ll = some (.lst (iv left)) := by rw [upd_ne ntll.symm]; exact same_new ntq _ _ _ hll5
  have hs6 : (upd (upd H5 tq (.tup [.int (x : Int), .int ((i : Int) + 1)])) tl (.lst (ys ++ [.ref tq]))) s = some (.lst (bv Sc)) := by rw [upd_ne ntls.symm]; exact same_new ntq _ _ _ hs5
  dsimp only
  generalize upd (upd H5 tq (.tup [.int (x : Int), .int ((i : Int) + 1)])) tl (.lst (ys ++ [.ref tq])) = H6 at hk6 hll6 hs6 k3
  obtain ⟨rx6, rxs6, f1, f2, f3⟩ := (hRk _ hk6).get hxN
  have hy : (adj x)[i]? = some ((adj x)[i]'hil) := List.getElem?_eq_getElem hil
  generalize (adj x)[i]'hil = y at hy
  have hyN : y < N := hA.lt x y (List.mem_of_getElem? hy)
  refine ⟨_, rfl, _, rfl, _, _, _, .ref rx6, rfl, rfl, SqL.of f1, f2, _, rfl, _, _, _, .int (y : Int), rfl, rfl, SqL.of f3, iv_at hy, ?_⟩
  have how2 : owed adj (rest ++ [(x, i + 1)]) = owed adj rest + ((adj x).length - (i + 1) + 1) := by
    rw [owed_app]
    show owed adj rest + (((adj x).length - (i + 1) + 1) + 0) = _
    omega
  have hle2 : ∀ f ∈ rest ++ [(x, i + 1)], f.2 ≤ (adj f.1).length := fun f hf => by
    rcases List.mem_append.mp hf with z | z
    · exact hle f (List.mem_append_left _ z)
    · rw [List.mem_singleton.mp z]
      exact hil
  rcases bl_of (L := Sc) (j := y) (by omega) with hb | hb
  · refine ⟨_, rfl, _, rfl, _, _, _, _, rfl, rfl, SqL.of hs6, bv_at hb, _, rfl, iteF ?_⟩
    refine ⟨_, ?_, _, _, _, left, rest ++ [(x, i + 1)], Sc, rfl, hk6, hll6, k3, hs6, hSc, dfs_old hD hy hb, hle2, rfl⟩
    rw [← hμ, how, how2]
    omega
  · refine ⟨_, rfl, _, rfl, _, _, _, _, rfl, rfl, SqL.of hs6, bv_at hb, _, rfl, iteT ?_⟩
    have hnew : ¬ Got Sc y := fun z => by unfold Got at z; rw [hb] at z; cases z
    refine ⟨_, rfl, _, rfl, s, _, _, y, rfl, rfl, hs6, ix_at (by rw [List.length_map, hSc]; exact hyN), ?_⟩
    rw [bv_set]
    have hk7 : Kept s H (upd H6 s (.lst (bv (Sc.set y true)))) := fun b o z n => by rw [upd_ne n]; exact hk6 _ _ z n
    have hll7 : (upd H6 s (.lst (bv (Sc.set y true)))) ll = some (.lst (iv left)) := by rw [upd_ne nls]; exact hll6
    have hs7 : (upd H6 s (.lst (bv (Sc.set y true)))) s = some (.lst (bv (Sc.set y true))) := upd_same
    have hT7 : TiesAt (upd H6 s (.lst (bv (Sc.set y true)))) tl (rest ++ [(x, i + 1)]) := by
      obtain ⟨tas, t1, t2⟩ := k3
      refine ⟨tas, by rw [upd_ne ntls]; exact t1, paired_mono (fun q' e' hq => ?_) t2⟩
      have : q' ≠ s := ne_of hq hs6 (by intro z; cases z)
      show upd _ _ _ q' = _
      rw [upd_ne this]
      exact hq
    generalize upd H6 s (.lst (bv (Sc.set y true))) = H7 at hk7 hll7 hs7 hT7
    obtain ⟨xs7, hx7, hx7l⟩ := hT7.get
    refine ⟨_, rfl, .inl ⟨rfl, _, SqL.of hx7⟩, _, rfl, (by show 2 ≤ sizeLine; decide), fun tr2 ntr => ?_⟩
    obtain ⟨zs, m1, m2, m3⟩ := hT7.pushV (u := y) (v := 0) (x := V.int (y : Int)) (y := V.int 0) rfl rfl ntr
    refine ⟨tl, _, _, rfl, rfl, m1, by rw [m2, List.length_append, List.length_singleton]; exact Nat.lt_of_lt_of_le (by omega : rest.length + 1 < 1000) (by decide), ?_⟩
    have hset := todo_set adj hb N
    rw [if_pos hyN] at hset
    have how3 : owed adj (rest ++ [(x, i + 1)] ++ [(y, 0)]) = owed adj (rest ++ [(x, i + 1)]) + ((adj y).length + 1) := by
      rw [owed_app]
      show _ + (((adj y).length - 0 + 1) + 0) = _
      omega
    refine ⟨_, ?_, _, _, _, left, rest ++ [(x, i + 1)] ++ [(y, 0)], Sc.set y true, rfl, (hk7.new ntr).put ntlH, by rw [upd_ne ntll.symm]; exact same_new ntr _ _ _ hll7, m3, by rw [upd_ne ntls.symm]; exact same_new ntr _ _ _ hs7, by rw [List.length_set]; exact hSc, dfs_new hD hy hnew (got_set (by omega)), fun f hf => ?_, rfl⟩
    · rw [← hμ, how, how3, how2]
      omega
    · rcases List.mem_append.mp hf with z | z
      · exact hle2 f z
      · rw [List.mem_singleton.mp z]
        exact Nat.zero_le _
end
end My
namespace My
open PySem PySem.W L2 L2.DX PyProof.Rows
/-! ### the parts of a web -/
def Mut (E : Nat → Nat → Prop) (u v : Nat) : Prop := Rch E u v ∧ Rch E v u
theorem mut_refl {E : Nat → Nat → Prop} (u : Nat) : Mut E u u := ⟨rch_refl u, rch_refl u⟩
theorem Mut.symm {E : Nat → Nat → Prop} {u v : Nat} (h : Mut E u v) : Mut E v u := ⟨h.2, h.1⟩
theorem Mut.trans {E : Nat → Nat → Prop} {u v w : Nat} (h : Mut E u v) (k : Mut E v w) : Mut E u w := ⟨rch_trans h.1 k.1, rch_trans k.2 h.2⟩
theorem rch_back {E F : Nat → Nat → Prop} (h : ∀ a b, F a b ↔ E b a) {u v : Nat} : Rch F u v ↔ Rch E v u := by
  constructor
  · intro r
    obtain ⟨k, r⟩ := rch_flip r
    refine rch_closed (S := fun x => Rch E v x) (fun a b ha e => rch_trans ha (rch_one ((h b a).mp e))) (rch_refl v) ⟨k, r⟩
  · intro r
    obtain ⟨k, r⟩ := rch_flip r
    refine rch_closed (S := fun x => Rch F u x) (fun a b ha e => rch_trans ha (rch_one ((h a b).mpr e))) (rch_refl u) ⟨k, r⟩
theorem mut_back {E F : Nat → Nat → Prop} (h : ∀ a b, F a b ↔ E b a) {u v : Nat} : Mut F u v ↔ Mut E u v := by
  unfold Mut
  rw [rch_back h, rch_back h]
  exact ⟨fun z => ⟨z.2, z.1⟩, fun z => ⟨z.2, z.1⟩⟩
theorem rch_low {E : Nat → Nat → Prop} {N : Nat} (h : ∀ a b, E a b → a < N) {u v : Nat} (hv : v < N) (r : Rch E u v) : u < N := by
  by_cases c : u = v
  · omega
  · obtain ⟨x, y, hx, hy, e, _⟩ := rch_leave (S := fun z => z = u) rfl (fun z => c z.symm) r
    rw [hx] at e
    exact h _ _ e
/-- the sequence in which a search leaves the points -/
def StarL (E : Nat → Nat → Prop) (L : List Nat) : Prop := ∀ A q B, L = A ++ q :: B → ∀ x, Rch E q x → x ∈ A ∨ x = q ∨ ∃ y ∈ B, Rch E q y ∧ Rch E y q ∧ Rch E y x
theorem star_nil {E : Nat → Nat → Prop} : StarL E [] := fun A q B e => by simp at e
theorem star_app {E : Nat → Nat → Prop} {L M : List Nat} (h : StarL E L) (k : ∀ A q B, M = A ++ q :: B → ∀ x, Rch E q x → x ∈ L ∨ x ∈ A ∨ x = q ∨ ∃ y ∈ B, Rch E q y ∧ Rch E y q ∧ Rch E y x) : StarL E (L ++ M) := by
  intro A q B e x r
  rcases List.append_eq_append_iff.mp e with ⟨a', h1, h2⟩ | ⟨c', h1, h2⟩
  · rcases k a' q B h2 x r with z | z | z | z
    · exact .inl (by rw [h1]; exact List.mem_append_left _ z)
    · exact .inl (by rw [h1]; exact List.mem_append_right _ z)
    · exact .inr (.inl z)
    · exact .inr (.inr z)
  · cases c' with
    | nil =>
      simp at h1 h2
      rcases k [] q B (by rw [← h2]; rfl) x r with z | z | z | z
      · exact .inl (by rw [← h1]; exact z)
      · simp at z
      · exact .inr (.inl z)
      · exact .inr (.inr z)
    | cons c0 cr =>
      have e0 : q = c0 := (List.cons.inj h2).1
      have e1 : B = cr ++ M := (List.cons.inj h2).2
      subst e0
      rcases h A q cr h1 x r with z | z | ⟨y, hy, z⟩
      · exact .inl z
      · exact .inr (.inl z)
      · exact .inr (.inr ⟨y, by rw [e1]; exact List.mem_append_left _ hy, z⟩)
theorem star_class {E : Nat → Nat → Prop} {q : Nat} {B : List Nat} : ∀ (n : Nat) {A1 A2 : List Nat} {x : Nat}, A2.length ≤ n → StarL E (A1 ++ x :: (A2 ++ q :: B)) → (A1 ++ x :: (A2 ++ q :: B)).Nodup → Rch E x q → Mut E x q ∨ ∃ y ∈ B, Mut E x y := by
  intro n
  induction n with
  | zero =>
    intro A1 A2 x hn hs hd r
    have e : A2 = [] := List.length_eq_zero_iff.mp (by omega)
    subst e
    rw [List.nil_append] at hs hd
    have hd2 := List.nodup_append.mp hd
    rcases hs A1 x _ rfl q r with z | z | ⟨y, hy, r1, r2, r3⟩
    · exact absurd rfl (hd2.2.2 q z q (by simp))
    · have := (List.nodup_cons.mp hd2.2.1).1
      rw [z] at this
      exact absurd List.mem_cons_self this
    · rcases List.mem_cons.mp hy with z | z
      · rw [z] at r1 r2
        exact .inl ⟨r1, r2⟩
      · exact .inr ⟨y, z, r1, r2⟩
  | succ n ih =>
    intro A1 A2 x hn hs hd r
    have hd2 := List.nodup_append.mp hd
    rcases hs A1 x _ rfl q r with z | z | ⟨y, hy, r1, r2, r3⟩
    · exact absurd rfl (hd2.2.2 q z q (by simp))
    · have := (List.nodup_cons.mp hd2.2.1).1
      rw [z] at this
      exact absurd (by simp) this
    · rcases List.mem_append.mp hy with z | z
      · obtain ⟨C1, C2, rfl⟩ := List.append_of_mem z
        have e2 : A1 ++ x :: (C1 ++ y :: C2 ++ q :: B) = (A1 ++ x :: C1) ++ y :: (C2 ++ q :: B) := by simp
        rw [e2] at hs hd
        have hl : C2.length ≤ n := by
          rw [List.length_append, List.length_cons] at hn
          omega
        rcases ih hl hs hd r3 with w | ⟨v, hv, w⟩
        · exact .inl (Mut.trans ⟨r1, r2⟩ w)
        · exact .inr ⟨v, hv, Mut.trans ⟨r1, r2⟩ w⟩
      · rcases List.mem_cons.mp z with w | w
        · rw [w] at r1 r2
          exact .inl ⟨r1, r2⟩
        · exact .inr ⟨y, w, r1, r2⟩
theorem class_of {E : Nat → Nat → Prop} {A B : List Nat} {q : Nat} {S : Nat → Prop} (hs : StarL E (A ++ q :: B)) (hd : (A ++ q :: B).Nodup) (hall : ∀ x, Rch E x q → x ∈ A ++ q :: B) (hS : ∀ x, S x ↔ ∃ y ∈ B, Mut E y x) (hq : ¬ S q) (x : Nat) : (Rch E x q ∧ ¬ S x) ↔ Mut E q x := by
  constructor
  · rintro ⟨r, hn⟩
    rcases List.mem_append.mp (hall x r) with z | z
    · obtain ⟨A1, A2, rfl⟩ := List.append_of_mem z
      rw [show A1 ++ x :: A2 ++ q :: B = A1 ++ x :: (A2 ++ q :: B) by simp] at hs hd
      rcases star_class A2.length (Nat.le_refl _) hs hd r with w | ⟨y, hy, w⟩
      · exact w.symm
      · exact absurd ((hS x).mpr ⟨y, hy, w.symm⟩) hn
    · rcases List.mem_cons.mp z with w | w
      · rw [w]; exact mut_refl q
      · exact absurd ((hS x).mpr ⟨x, w, mut_refl x⟩) hn
  · intro h
    refine ⟨h.2, fun z => hq ?_⟩
    obtain ⟨y, hy, w⟩ := (hS x).mp z
    exact (hS q).mpr ⟨y, hy, w.trans h.symm⟩
/-! ### as they are told -/
noncomputable def bdec (p : Prop) : Bool := @decide p (Classical.propDecidable p)
theorem bdec_iff {p : Prop} : bdec p = true ↔ p := by
  unfold bdec
  exact @decide_eq_true_iff p (Classical.propDecidable p)
noncomputable def clsL (E : Nat → Nat → Prop) (N p : Nat) : List Nat := (List.range N).filter fun x => bdec (Mut E p x)
theorem clsL_mem {E : Nat → Nat → Prop} {N p x : Nat} : x ∈ clsL E N p ↔ x < N ∧ Mut E p x := by
  unfold clsL
  rw [List.mem_filter, List.mem_range, bdec_iff]
theorem clsL_rising {E : Nat → Nat → Prop} {N p : Nat} : (clsL E N p).Pairwise (· < ·) := by
  unfold clsL
  exact List.Pairwise.filter _ List.pairwise_lt_range
theorem clsL_same {E : Nat → Nat → Prop} {N p q : Nat} (h : Mut E p q) : clsL E N p = clsL E N q := by
  unfold clsL
  congr 1
  funext x
  have e : Mut E p x ↔ Mut E q x := ⟨fun z => h.symm.trans z, fun z => h.trans z⟩
  rw [show (Mut E p x) = (Mut E q x) from propext e]
noncomputable def headsL (E : Nat → Nat → Prop) (N : Nat) : List Nat := (List.range N).filter fun p => bdec (∀ x, x < p → ¬ Mut E p x)
theorem headsL_mem {E : Nat → Nat → Prop} {N p : Nat} : p ∈ headsL E N ↔ p < N ∧ ∀ x, x < p → ¬ Mut E p x := by
  unfold headsL
  rw [List.mem_filter, List.mem_range, bdec_iff]
theorem headsL_rising {E : Nat → Nat → Prop} {N : Nat} : (headsL E N).Pairwise (· < ·) := by
  unfold headsL
  exact List.Pairwise.filter _ List.pairwise_lt_range
noncomputable def partsL (E : Nat → Nat → Prop) (N : Nat) : List (List Nat) := (headsL E N).map (clsL E N)
theorem least_of {P : Nat → Prop} : ∀ n, P n → ∃ m, P m ∧ ∀ x, x < m → ¬ P x := by
  intro n
  induction n using Nat.strongRecOn with
  | ind n ih =>
    intro hn
    by_cases c : ∃ x, x < n ∧ P x
    · obtain ⟨x, hx, h⟩ := c
      exact ih x hx h
    · exact ⟨n, hn, fun x hx h => c ⟨x, hx, h⟩⟩
/-- each point's least companion -/
theorem head_of {E : Nat → Nat → Prop} {N p : Nat} (hp : p < N) : ∃ h ∈ headsL E N, Mut E p h := by
  obtain ⟨m, h1, h2⟩ := least_of (P := fun x => Mut E p x) p (mut_refl p)
  refine ⟨m, headsL_mem.mpr ⟨?_, fun x hx hm => h2 x hx (h1.trans hm)⟩, h1⟩
  rcases Nat.lt_or_ge p m with c | c
  · exact absurd (mut_refl p) (h2 p c)
  · omega
theorem head_unique {E : Nat → Nat → Prop} {N a b : Nat} (ha : a ∈ headsL E N) (hb : b ∈ headsL E N) (h : Mut E a b) : a = b := by
  rw [headsL_mem] at ha hb
  rcases Nat.lt_trichotomy a b with c | c | c
  · exact absurd h.symm (hb.2 a c)
  · exact c
  · exact absurd h (ha.2 b c)
theorem clsL_head {E : Nat → Nat → Prop} {N p : Nat} (hp : p ∈ headsL E N) : ∃ r, clsL E N p = p :: r := by
  have h0 := headsL_mem.mp hp
  have hm : p ∈ clsL E N p := clsL_mem.mpr ⟨h0.1, mut_refl p⟩
  have hr := clsL_rising (E := E) (N := N) (p := p)
  cases e : clsL E N p with
  | nil => rw [e] at hm; simp at hm
  | cons a r =>
    rw [e] at hm hr
    have ha : a ∈ clsL E N p := by rw [e]; simp
    rcases List.mem_cons.mp hm with z | z
    · exact ⟨r, by rw [z]⟩
    · have h1 := (List.pairwise_cons.mp hr).1 p z
      exact absurd (clsL_mem.mp ha).2 (h0.2 a h1)
theorem parts_back {E F : Nat → Nat → Prop} (h : ∀ a b, F a b ↔ E b a) (N : Nat) : partsL F N = partsL E N := by
  have e : Mut F = Mut E := by
    funext u v
    exact propext (mut_back h)
  unfold partsL headsL clsL
  rw [e]
/-! ### sorted -/
abbrev dn (L : List Nat) : PyData := .list (L.map fun n : Nat => PyData.int (n : Int))
theorem keyTok_dn (a : Nat) (r : List Nat) : ∃ t, keyToks (dn (a :: r)) = .inl 1 :: .inl (a : Int) :: t := by
  refine ⟨keyToksAll (r.map fun n : Nat => PyData.int (n : Int)), ?_⟩
  show keyToks (.list (PyData.int (a : Int) :: (r.map fun n : Nat => PyData.int (n : Int)))) = _
  rw [keyToks, keyToksAll, keyToks]
  rfl
theorem dataLe_refl (d : PyData) : dataLe false id d d = true := by
  show (!(listOrd itemOrd).blt (keyToks d) (keyToks d)) = true
  rw [(listOrd itemOrd).irrefl]
  rfl
theorem dataLe_dn {a b : Nat} {r t : List Nat} (h : a ≠ b) : dataLe false id (dn (a :: r)) (dn (b :: t)) = decide (a ≤ b) := by
  obtain ⟨x, hx⟩ := keyTok_dn a r
  obtain ⟨y, hy⟩ := keyTok_dn b t
  show (!(lexLt itemOrd (keyToks (dn (b :: t))) (keyToks (dn (a :: r))))) = _
  rw [hx, hy, lex_cons, lex_cons]
  have e1 : itemOrd.blt (Sum.inl 1) (Sum.inl 1) = false := itemOrd.irrefl _
  have e2 : itemOrd.blt (Sum.inl (b : Int)) (Sum.inl (a : Int)) = decide ((b : Int) < (a : Int)) := rfl
  have e3 : itemOrd.blt (Sum.inl (a : Int)) (Sum.inl (b : Int)) = decide ((a : Int) < (b : Int)) := rfl
  rw [e1, e2, e3]
  by_cases c : a ≤ b
  · have h1 : (a : Int) < (b : Int) := by omega
    have h2 : ¬ (b : Int) < (a : Int) := by omega
    simp [c, h1, h2]
  · have h1 : ¬ (a : Int) < (b : Int) := by omega
    have h2 : (b : Int) < (a : Int) := by omega
    simp [c, h2]
theorem sort_parts {E : Nat → Nat → Prop} {N : Nat} {hs : List Nat} (hp : hs.Perm (headsL E N)) : ((hs.map (clsL E N)).map dn).mergeSort (dataLe false id) = (partsL E N).map dn := by
  have hmem : ∀ a ∈ hs, a ∈ headsL E N := fun a ha => hp.mem_iff.mp ha
  rw [List.map_map, ← List.map_mergeSort (f := dn ∘ clsL E N) (r := fun a b : Nat => decide (a ≤ b)) (s := dataLe false id) (l := hs) (fun a ha b hb => ?_)]
  · unfold partsL
    rw [List.map_map]
    congr 1
    have h1 : (hs.mergeSort fun a b : Nat => decide (a ≤ b)).Pairwise (fun a b => decide (a ≤ b) = true) := List.pairwise_mergeSort (fun a b c h k => by simp at *; omega) (fun a b => by simp; omega) hs
    have h2 : (hs.mergeSort fun a b : Nat => decide (a ≤ b)).Perm (headsL E N) := (List.mergeSort_perm _ _).trans hp
    refine h2.eq_of_pairwise ?_ (h1.imp fun h => of_decide_eq_true h) (headsL_rising.imp fun h => Nat.le_of_lt h)
    intro a b _ _ h k
    omega
  · by_cases c : a = b
    · subst c
      show decide (a ≤ a) = dataLe false id _ _
      rw [dataLe_refl]
      simp
    · obtain ⟨r, er⟩ := clsL_head (hmem a ha)
      obtain ⟨t, et⟩ := clsL_head (hmem b hb)
      show decide (a ≤ b) = dataLe false id (dn (clsL E N a)) (dn (clsL E N b))
      rw [er, et, dataLe_dn c]
end My
namespace My
open PySem L2 PyProof.Rows
abbrev cn (L : List Nat) : List Int := L.map fun n : Nat => (n : Int)
theorem cn_rising {L : List Nat} (h : L.Pairwise (· < ·)) : (cn L).Pairwise (· < ·) := List.Pairwise.map _ (fun a b hab => by show (a : Int) < (b : Int); omega) h
theorem cn_nodup {L : List Nat} (h : L.Nodup) : (cn L).Nodup := List.Pairwise.map (R := (· ≠ ·)) _ (fun a b hab z => hab (by omega)) h
theorem cls_sorted {E : Nat → Nat → Prop} {N q : Nat} {M : List Nat} {ys : List Int} (hn : M.Nodup) (hm : ∀ x, x ∈ M ↔ x < N ∧ Mut E q x) (hp : ys.Perm (cn M)) (hs : ys.Pairwise (· ≤ ·)) : ys = cn (clsL E N q) := by
  refine rising_ext (rising_of hs ((hp.nodup_iff).mpr (cn_nodup hn))) (cn_rising clsL_rising) fun z => ?_
  rw [hp.mem_iff, List.mem_map, List.mem_map]
  constructor
  · rintro ⟨x, hx, rfl⟩
    exact ⟨x, clsL_mem.mpr ((hm x).mp hx), rfl⟩
  · rintro ⟨x, hx, rfl⟩
    exact ⟨x, (hm x).mpr (clsL_mem.mp hx), rfl⟩
noncomputable def headO (E : Nat → Nat → Prop) (N p : Nat) : Nat := @dite _ (p < N) (Classical.propDecidable _) (fun h => Classical.choose (head_of (E := E) h)) fun _ => 0
theorem headO_spec {E : Nat → Nat → Prop} {N p : Nat} (h : p < N) : headO E N p ∈ headsL E N ∧ Mut E p (headO E N p) := by
  unfold headO
  rw [dif_pos h]
  exact Classical.choose_spec (head_of (E := E) h)
theorem reps_heads {E : Nat → Nat → Prop} {N : Nat} {HS : List Nat} (hR : HS.Pairwise fun a b => ¬ Mut E a b) (hlt : ∀ q ∈ HS, q < N) (hall : ∀ x, x < N → ∃ q ∈ HS, Mut E x q) : ∃ hs : List Nat, hs.Perm (headsL E N) ∧ HS.map (clsL E N) = hs.map (clsL E N) := by
  refine ⟨HS.map (headO E N), ?_, ?_⟩
  · have hnd : (HS.map (headO E N)).Nodup := by
      rw [List.Nodup, List.pairwise_map]
      refine List.Pairwise.imp_of_mem ?_ hR
      intro a b ha hb h e
      have h1 := (headO_spec (E := E) (hlt a ha)).2
      have h2 := (headO_spec (E := E) (hlt b hb)).2
      rw [e] at h1
      exact h (h1.trans h2.symm)
    refine (List.perm_ext_iff_of_nodup hnd (headsL_rising.imp fun h => Nat.ne_of_lt h)).mpr fun x => ?_
    rw [List.mem_map]
    constructor
    · rintro ⟨q, hq, rfl⟩
      exact (headO_spec (hlt q hq)).1
    · intro hx
      have hx0 := headsL_mem.mp hx
      obtain ⟨q, hq, hm⟩ := hall x hx0.1
      have h2 := headO_spec (E := E) (hlt q hq)
      exact ⟨q, hq, (head_unique hx h2.1 (hm.trans h2.2)).symm⟩
  · rw [List.map_map]
    refine List.map_congr_left fun q hq => ?_
    exact clsL_same (headO_spec (hlt q hq)).2
abbrev Ed (ts : List (Nat × Nat)) : Nat → Nat → Prop := Edge ts []
theorem ed_low {ts : List (Nat × Nat)} {N : Nat} (ho : OkWeb N ts) {a b : Nat} (e : Ed ts a b) : a < N ∧ b < N := by
  obtain ⟨i, h, _⟩ := e
  exact ho.ok _ (List.mem_of_getElem? h)
theorem ed_swaps {ts : List (Nat × Nat)} (a b : Nat) : Ed (swaps ts) a b ↔ Ed ts b a := by
  unfold Ed Edge swaps
  constructor
  · rintro ⟨i, h, n⟩
    rw [List.getElem?_map] at h
    cases e : ts[i]? with
    | none => rw [e] at h; cases h
    | some p =>
      rw [e] at h
      cases h
      exact ⟨i, e, n⟩
  · rintro ⟨i, h, n⟩
    refine ⟨i, ?_, n⟩
    rw [List.getElem?_map, h]
    rfl
theorem edf {ts : List (Nat × Nat)} : (fun u v => v ∈ outs ts [] u) = Ed ts := by
  funext u v
  exact propext outs_mem
theorem lf_ok {ts : List (Nat × Nat)} {N : Nat} (ho : OkWeb N ts) : LfOk (outs ts []) N :=
  ⟨ho.n1, fun u v h => (ed_low ho (outs_mem.mp h)).2, fun u => Nat.le_trans (outN_len ts [] u ts.length) ho.m⟩
def LolAt (H : Hp) (l : Addr) (LL : List (List Nat)) : Prop := ∃ as : List Addr, H l = some (.lst (as.map V.ref)) ∧ Paired (fun (p : Addr) (L : List Nat) => H p = some (.lst (iv L))) as LL
theorem LolAt.same {H H' : Hp} {l : Addr} {LL : List (List Nat)} (h : LolAt H l LL) (s : Same H H') : LolAt H' l LL := by
  obtain ⟨as, h1, h2⟩ := h
  exact ⟨as, s _ _ h1, paired_mono (fun p e hp => s _ _ hp) h2⟩
theorem outN_at {ts : List (Nat × Nat)} {i u v : Nat} (h : ts[i]? = some (u, v)) (j : Nat) : outN ts [] j (i + 1) = if u = j then outN ts [] j i ++ [v] else outN ts [] j i := by
  show (match ts[i]? with | some e => if e.1 = j ∧ i ∉ [] then outN ts [] j i ++ [e.2] else outN ts [] j i | none => outN ts [] j i) = _
  rw [h]
  by_cases c : u = j
  · show (if u = j ∧ i ∉ [] then _ else _) = _
    rw [if_pos c, if_pos ⟨c, by simp⟩]
  · show (if u = j ∧ i ∉ [] then _ else _) = _
    rw [if_neg c, if_neg (fun z => c z.1)]
theorem swaps_at {ts : List (Nat × Nat)} {i u v : Nat} (h : ts[i]? = some (u, v)) : (swaps ts)[i]? = some (v, u) := by
  unfold swaps
  rw [List.getElem?_map, h]
  rfl
theorem swaps_len (ts : List (Nat × Nat)) : (swaps ts).length = ts.length := by
  unfold swaps
  rw [List.length_map]
/-- rows that grow -/
theorem row_put {H : Hp} {fas : List Addr} {f g : Nat → List Nat} {u v : Nat} {xu : Addr} (hn : fas.Nodup) (eu : fas[u]? = some xu) (h : ∀ (j : Nat) (x : Addr), fas[j]? = some x → H x = some (.lst (iv (f j)))) (hg : ∀ j, g j = if u = j then f j ++ [v] else f j) :
    ∀ (j : Nat) (x : Addr), fas[j]? = some x → (upd H xu (.lst (iv (f u) ++ [.int (v : Int)]))) x = some (.lst (iv (g j))) := fun j x e => by
  by_cases c : u = j
  · subst c
    rw [eu] at e
    cases e
    rw [upd_same, hg, if_pos rfl, iv_app]
  · have nx : x ≠ xu := fun z => c (nodup_get hn eu (by rw [← z]; exact e))
    rw [upd_ne nx, hg, if_neg c]
    exact h j x e
structure Pass1 (ts : List (Nat × Nat)) (N i : Nat) (L : List Nat) (S : List Bool) : Prop where
  nd : L.Nodup
  lt : ∀ x ∈ L, x < N
  got : ∀ x, Got S x ↔ x ∈ L
  ln : S.length = N
  cl : ∀ u v, Got S u → v ∈ outs ts [] u → Got S v
  up : ∀ x, x < i → x ∈ L
  star : StarL (Ed ts) L
theorem rep_false (N : Nat) : (List.replicate (N : Int).toNat [V.bl false]).flatten = bv (List.replicate N false) := by
  rw [Int.toNat_natCast]
  induction N with
  | zero => rfl
  | succ n ih =>
    rw [List.replicate_succ, List.replicate_succ, List.flatten_cons, ih]
    rfl
theorem no_got (N x : Nat) : ¬ Got (List.replicate N false) x := fun h => by
  unfold Got at h
  rw [List.getElem?_replicate] at h
  split at h
  · cases h
  · cases h
theorem pass1_start (ts : List (Nat × Nat)) (N : Nat) : Pass1 ts N 0 [] (List.replicate N false) :=
  ⟨by simp, by simp, fun x => ⟨fun h => absurd h (no_got N x), fun h => by simp at h⟩, by simp, fun u v h => absurd h (no_got N u), fun x h => by omega, star_nil⟩
theorem pass1_old {ts : List (Nat × Nat)} {N i : Nat} {L : List Nat} {S : List Bool} (h : Pass1 ts N i L S) (hi : Got S i) : Pass1 ts N (i + 1) L S :=
  ⟨h.nd, h.lt, h.got, h.ln, h.cl, fun x hx => by
    by_cases c : x = i
    · rw [c]; exact (h.got i).mp hi
    · exact h.up x (by omega), h.star⟩
theorem pass1_new {ts : List (Nat × Nat)} {N i : Nat} {L M : List Nat} {S S' : List Bool} (h : Pass1 ts N i L S) (r : LfRes (outs ts []) N i S S' M) (hi : ¬ Got S i) : Pass1 ts N (i + 1) (L ++ M) S' := by
  refine ⟨?_, fun x hx => ?_, fun x => ?_, r.ln, r.cl, fun x hx => ?_, star_app h.star fun A q B e x rr => ?_⟩
  · rw [List.nodup_append]
    refine ⟨h.nd, r.nd, fun a ha b hb e => ?_⟩
    rw [← e] at hb
    exact ((r.mem a).mp hb).2 ((h.got a).mpr ha)
  · rcases List.mem_append.mp hx with z | z
    · exact h.lt x z
    · exact r.lt x z
  · rw [r.got, h.got, List.mem_append]
  · by_cases c : x = i
    · rw [c]
      exact List.mem_append_right _ ((r.mem i).mpr ⟨rch_refl i, hi⟩)
    · exact List.mem_append_left _ (h.up x (by omega))
  · have hr := r.star A q B e x (by rw [edf]; exact rr)
    rw [edf] at hr
    rcases hr with z | z
    · exact .inl ((h.got x).mp z)
    · exact .inr z
theorem iv_bv {L : List Nat} {S : List Bool} (h : iv L = bv S) : S = [] := by
  cases S with
  | nil => rfl
  | cons b r =>
    cases L with
    | nil => cases h
    | cons n t => cases (List.cons.inj h).1
theorem LolAt.put {H : Hp} {l p : Addr} {LL : List (List Nat)} {S S2 : List Bool} (h : LolAt H l LL) (hl : l ≠ p) (hp : H p = some (.lst (bv S))) (hS : S ≠ []) {H' : Hp} (k : Kept p H H') : LolAt H' l LL := by
  obtain ⟨as, h1, h2⟩ := h
  refine ⟨as, k _ _ h1 hl, paired_mono (fun q L hq => k _ _ hq fun z => ?_) h2⟩
  rw [z, hp] at hq
  exact hS (iv_bv (HO.lst.inj (Option.some.inj hq)).symm)
theorem LolAt.push {H : Hp} {l p : Addr} {LL : List (List Nat)} {L : List Nat} (h : LolAt H l LL) (np : H p = none) : ∃ xs, (upd H p (.lst (iv L))) l = some (.lst xs) ∧ xs.length = LL.length ∧ LolAt (upd (upd H p (.lst (iv L))) l (.lst (xs ++ [.ref p]))) l (LL ++ [L]) := by
  obtain ⟨as, h1, h2⟩ := h
  have nl : l ≠ p := ne_of_none h1 np
  refine ⟨as.map V.ref, by rw [upd_ne nl]; exact h1, by rw [List.length_map]; exact paired_len h2, as ++ [p], by rw [upd_same, List.map_append]; rfl, paired_app ?_ (by rw [upd_ne nl.symm, upd_same])⟩
  have key : ∀ (q : Addr) (M : List Nat), q ∈ as → H q = some (.lst (iv M)) → q ≠ l := fun q M hq e z => by
    rw [z, h1] at e
    have e := HO.lst.inj (Option.some.inj e)
    have hm : V.ref q ∈ iv M := by rw [← e]; exact List.mem_map.mpr ⟨q, hq, rfl⟩
    obtain ⟨n, _, z2⟩ := List.mem_map.mp hm
    cases z2
  clear h1
  have go : ∀ {bs : List Addr} {MM : List (List Nat)}, (∀ q ∈ bs, q ∈ as) → Paired (fun (p : Addr) (L : List Nat) => H p = some (.lst (iv L))) bs MM → Paired (fun (q : Addr) (M : List Nat) => (upd (upd H p (.lst (iv L))) l (.lst (as.map V.ref ++ [.ref p]))) q = some (.lst (iv M))) bs MM := by
    intro bs MM hb hp
    induction hp with
    | nil => exact .nil
    | @cons q M bs MM r t ih =>
      refine .cons ?_ (ih fun x hx => hb x (List.mem_cons_of_mem _ hx))
      rw [upd_ne (key q M (hb q List.mem_cons_self) r), upd_ne (ne_of_none r np)]
      exact r
  exact go (fun q hq => hq) h2
/-- what a list tells is new -/
def NewIn (H H' : Hp) (l : Addr) : Prop := ∀ xs q, H' l = some (.lst xs) → V.ref q ∈ xs → H q = none
theorem NewIn.keep {H H' H2 : Hp} {l : Addr} (h : NewIn H H' l) (e : H2 l = H' l) : NewIn H H2 l := fun xs q hx hq => h xs q (e ▸ hx) hq
structure Pass2 (ts : List (Nat × Nat)) (N : Nat) (B : List Nat) (S : List Bool) (HS : List Nat) : Prop where
  ln : S.length = N
  got : ∀ x, Got S x ↔ ∃ y ∈ B, Mut (Ed ts) y x
  cl : ∀ u v, Got S u → v ∈ outs (swaps ts) [] u → Got S v
  rep : HS.Pairwise fun a b => ¬ Mut (Ed ts) a b
  sub : ∀ q ∈ HS, q ∈ B
  all : ∀ y ∈ B, ∃ q ∈ HS, Mut (Ed ts) y q
theorem pass2_start (ts : List (Nat × Nat)) (N : Nat) : Pass2 ts N [] (List.replicate N false) [] :=
  ⟨by simp, fun x => ⟨fun h => absurd h (no_got N x), fun ⟨y, hy, _⟩ => by simp at hy⟩, fun u v h => absurd h (no_got N u), by simp, by simp, by simp⟩
theorem pass2_old {ts : List (Nat × Nat)} {N q : Nat} {B : List Nat} {S : List Bool} {HS : List Nat} (h : Pass2 ts N B S HS) (hq : Got S q) : Pass2 ts N (B ++ [q]) S HS := by
  obtain ⟨y0, hy0, m0⟩ := (h.got q).mp hq
  refine ⟨h.ln, fun x => ?_, h.cl, h.rep, fun z hz => List.mem_append_left _ (h.sub z hz), fun y hy => ?_⟩
  · rw [h.got]
    constructor
    · rintro ⟨y, hy, m⟩
      exact ⟨y, List.mem_append_left _ hy, m⟩
    · rintro ⟨y, hy, m⟩
      rcases List.mem_append.mp hy with z | z
      · exact ⟨y, z, m⟩
      · rw [List.mem_singleton.mp z] at m
        exact ⟨y0, hy0, m0.trans m⟩
  · rcases List.mem_append.mp hy with z | z
    · exact h.all y z
    · rw [List.mem_singleton.mp z]
      obtain ⟨r, hr, m⟩ := h.all y0 hy0
      exact ⟨r, hr, m0.symm.trans m⟩
theorem pass2_mem {ts : List (Nat × Nat)} {N q : Nat} {A B L : List Nat} {S S' : List Bool} {HS M : List Nat} (ho : OkWeb N ts) (h : Pass2 ts N B S HS) (hL : L = A ++ q :: B.reverse) (hst : StarL (Ed ts) L) (hnd : L.Nodup) (hall : ∀ x, x < N → x ∈ L) (hqN : q < N) (hq : ¬ Got S q) (r : LfRes (outs (swaps ts) []) N q S S' M) (x : Nat) : x ∈ M ↔ x < N ∧ Mut (Ed ts) q x := by
  subst hL
  have hc := class_of hst hnd (fun y hy => hall y (rch_low (fun a b e => (ed_low ho e).1) hqN hy)) (S := Got S) (fun y => by rw [h.got]; simp) hq x
  rw [r.mem, edf, rch_back (fun a b => ed_swaps a b), hc]
  exact ⟨fun z => ⟨rch_low (fun a b e => (ed_low ho e).1) hqN z.2, z⟩, fun z => z.2⟩
theorem pass2_new {ts : List (Nat × Nat)} {N q : Nat} {B : List Nat} {S S' : List Bool} {HS M : List Nat} (ho : OkWeb N ts) (h : Pass2 ts N B S HS) (hq : ¬ Got S q) (hqN : q < N) (r : LfRes (outs (swaps ts) []) N q S S' M) (hm : ∀ x, x ∈ M ↔ x < N ∧ Mut (Ed ts) q x) : Pass2 ts N (B ++ [q]) S' (HS ++ [q]) := by
  refine ⟨r.ln, fun x => ?_, r.cl, ?_, fun z hz => ?_, fun y hy => ?_⟩
  · rw [r.got, h.got, hm]
    constructor
    · rintro (⟨y, hy, m⟩ | ⟨_, m⟩)
      · exact ⟨y, List.mem_append_left _ hy, m⟩
      · exact ⟨q, by simp, m⟩
    · rintro ⟨y, hy, m⟩
      rcases List.mem_append.mp hy with z | z
      · exact .inl ⟨y, z, m⟩
      · rw [List.mem_singleton.mp z] at m
        exact .inr ⟨rch_low (fun a b e => (ed_low ho e).1) hqN m.2, m⟩
  · rw [List.pairwise_append]
    refine ⟨h.rep, by simp, fun a ha b hb m => ?_⟩
    rw [List.mem_singleton.mp hb] at m
    exact hq ((h.got q).mpr ⟨a, h.sub a ha, m⟩)
  · rcases List.mem_append.mp hz with w | w
    · exact List.mem_append_left _ (h.sub z w)
    · exact List.mem_append_right _ w
  · rcases List.mem_append.mp hy with z | z
    · obtain ⟨p, hp, m⟩ := h.all y z
      exact ⟨p, List.mem_append_left _ hp, m⟩
    · rw [List.mem_singleton.mp z]
      exact ⟨q, by simp, mut_refl q⟩
section
variable {P : Program} {w : World} {K : PySem.W.Frag} {mg : Str → Option Value} {base : Heap} {C : Addr}
/-- steps: whence, whither, and a number that nobody asks -/
def StepsG (H : Hp) (l : Addr) (ts : List (Nat × Nat)) : Prop := ∃ sas : List Addr, H l = some (.lst (sas.map V.ref)) ∧ sas.length = ts.length ∧ ∀ (i u v : Nat), ts[i]? = some (u, v) → ∃ (p : Addr) (k : Nat), sas[i]? = some p ∧ H p = some (.tup [.int (u : Int), .int (v : Int), .int (k : Int)])
theorem StepsAt.g {H : Hp} {l : Addr} {ts : List (Nat × Nat)} (h : StepsAt H l ts) : StepsG H l ts := by
  obtain ⟨sas, h1, h2, h3⟩ := h
  exact ⟨sas, h1, h2, fun i u v e => by obtain ⟨p, a, b⟩ := h3 i u v e; exact ⟨p, i, a, b⟩⟩
def spparts_in_turn (_ : PySem.W.Frag) (_ : Addr) : Sp := fun vs H Q _ => ∃ N s ts, vs = [.int ((N : Nat) : Int), .ref s] ∧ StepsG H s ts ∧ OkWeb N ts ∧ ∀ H' l (hs : List Nat), H l = none → Same H H' → hs.Perm (headsL (Ed ts) N) → LolAt H' l (hs.map (clsL (Ed ts) N)) → NewIn H H' l → Q (.ref l) H'
theorem okparts_in_turn (D : Def K mg "parts_in_turn" sparts_in_turn ["points", "steps"]) (B : Bs mg) (Glb : Glo mg) (WK : WebK K mg C)
    (h_left_from : Good P w K mg base "_left_from" s_left_from ["ends", "point", "seen"] 1 (sp_left_from K C)) :
    Good P w K mg base "parts_in_turn" sparts_in_turn ["points", "steps"] 2 (spparts_in_turn K C) := by
  refine D.good fun f fd F => ?_
  obtain ⟨f_left_from, d_left_from, O_left_from, m_left_from, k_left_from, b_left_from, F_left_from⟩ := h_left_from
  refine F.ok scparts_in_turn (fun vs H Q E h => ?_) (fun cdv A outer s H vs Q E hr h => ?_)
  · obtain ⟨N, s, ts, rfl, hs, ho, q⟩ := h
    first | rfl | (rcases h with ⟨_, _, rfl, _⟩ | ⟨_, rfl, _⟩ <;> rfl)
  obtain ⟨N, s, ts, rfl, hs, ho, q⟩ := h
  refine ⟨_, (pss_cons (ps_setLc (i := 2) (own := [("_", 6)]) (g := gName 6) (by rfl) scparts_in_turn.nd rfl rfl (sw_true rfl rfl rfl (by decide +kernel)) (pi_range1 (by rfl) B.range (pa_cons (pv 0) pa_nil)) (blkOk_by (own := [("_", 6)]) (N := ["points", "steps", "ahead", "behind", "near", "far", "_", "left", "seen", "point", "parts"]) (sc := defScope sparts_in_turn) (by decide +kernel)) (fun _ _ _ _ _ => (pg_name (i := 6) scparts_in_turn.nd rfl (by first | exact Or.inl rfl | exact Or.inr rfl))) (fun _ _ _ _ _ => pts_nil) (fun _ _ _ _ _ => (pe_lst pa_nil)))
  (pss_cons (ps_setLc (i := 3) (own := [("_", 6)]) (g := gName 6) (by rfl) scparts_in_turn.nd rfl rfl (sw_true rfl rfl rfl (by decide +kernel)) (pi_range1 (by rfl) B.range (pa_cons (pv 0) pa_nil)) (blkOk_by (own := [("_", 6)]) (N := ["points", "steps", "ahead", "behind", "near", "far", "_", "left", "seen", "point", "parts"]) (sc := defScope sparts_in_turn) (by decide +kernel)) (fun _ _ _ _ _ => (pg_name (i := 6) scparts_in_turn.nd rfl (by first | exact Or.inl rfl | exact Or.inr rfl))) (fun _ _ _ _ _ => pts_nil) (fun _ _ _ _ _ => (pe_lst pa_nil)))
  (pss_cons (ps_for PassesOwn.never rfl (pi_list (pv 1)) (pg_tup rfl (pgs_cons (pg_name (i := 4) scparts_in_turn.nd rfl (by first | exact Or.inl rfl | exact Or.inr rfl)) (pgs_cons (pg_name (i := 5) scparts_in_turn.nd rfl (by first | exact Or.inl rfl | exact Or.inr rfl)) (pgs_cons (pg_name (i := 6) scparts_in_turn.nd rfl (by first | exact Or.inl rfl | exact Or.inr rfl)) pgs_nil))))
    (pss_cons (ps_expr (pe_bm PySem.F.plainAttrs_list PySem.F.slot_list_append PySem.F.type_list_append mt_append (pe_ix ix_list (pv 2) (pv 4) (fun _ _ => rfl)) (pa_cons (pv 5) pa_nil)))
  (pss_one (ps_expr (pe_bm PySem.F.plainAttrs_list PySem.F.slot_list_append PySem.F.type_list_append mt_append (pe_ix ix_list (pv 3) (pv 5) (fun _ _ => rfl)) (pa_cons (pv 4) pa_nil))))))
  (pss_cons (ps_set (i := 7) scparts_in_turn.nd rfl (by first | exact Or.inl rfl | exact Or.inr rfl) (pe_lst pa_nil))
  (pss_cons (ps_set (i := 8) scparts_in_turn.nd rfl (by first | exact Or.inl rfl | exact Or.inr rfl) (pe_op op_rep (pe_lst (pa_cons pe_bl pa_nil)) (pv 0)))
  (pss_cons (ps_for PassesOwn.never rfl (pi_range1 (by rfl) B.range (pa_cons (pv 0) pa_nil)) (pg_name (i := 9) scparts_in_turn.nd rfl (by first | exact Or.inl rfl | exact Or.inr rfl))
    (pss_one (ps_if (pt_not (pt_val (pe_ix ix_list (pv 8) (pv 9) (fun _ _ => rfl))))
    (pss_one (ps_expr (pe_bm PySem.F.plainAttrs_list PySem.F.slot_list_extend PySem.F.type_list_extend mt_extend (pv 7) (pa_cons (pe_call O_left_from hr rfl m_left_from k_left_from b_left_from .nil pass0 (pa_cons (pv 2) (pa_cons (pv 9) (pa_cons (pv 8) pa_nil)))) pa_nil)))) pss_nil)))
  (pss_cons (ps_set (i := 10) scparts_in_turn.nd rfl (by first | exact Or.inl rfl | exact Or.inr rfl) (pe_lst pa_nil))
  (pss_cons (ps_set (i := 8) scparts_in_turn.nd rfl (by first | exact Or.inl rfl | exact Or.inr rfl) (pe_op op_rep (pe_lst (pa_cons pe_bl pa_nil)) (pv 0)))
  (pss_cons (ps_for PassesOwn.never rfl (pi_list (pe_revL (pv 7))) (pg_name (i := 9) scparts_in_turn.nd rfl (by first | exact Or.inl rfl | exact Or.inr rfl))
    (pss_one (ps_if (pt_not (pt_val (pe_ix ix_list (pv 8) (pv 9) (fun _ _ => rfl))))
    (pss_one (ps_expr (pe_bm PySem.F.plainAttrs_list PySem.F.slot_list_append PySem.F.type_list_append mt_append (pv 10) (pa_cons (pe_callB cr_sortedI (by rfl) B.sorted (by decide +kernel) (pa_cons (pe_call O_left_from hr rfl m_left_from k_left_from b_left_from .nil pass0 (pa_cons (pv 3) (pa_cons (pv 9) (pa_cons (pv 8) pa_nil)))) pa_nil)) pa_nil)))) pss_nil)))
  (pss_one (ps_ret (pv 10)))))))))))), ?_⟩
  have hN := ho.n1
  have hm := ho.m
  refine ⟨_, rfl, _, rfl, by omega, by omega, fun D1 nD1 => ?_⟩
  refine lc_range (lo := 0) (n := N) (fun i H' => Fresh H D1 i H') (Fresh.zero nD1) ?_ ?_
  · intro i H' hi hf
    exact ⟨rfl, Nat.zero_le _, fun p np => hf.step nD1 (by omega) np⟩
  rintro H1 ⟨fas, f1, f2, f3, f4, f5, f6⟩
  refine ⟨_, rfl, _, rfl, by omega, by omega, fun D2 nD2 => ?_⟩
  refine lc_range (lo := 0) (n := N) (fun i H' => Fresh H1 D2 i H') (Fresh.zero nD2) ?_ ?_
  · intro i H' hi hf
    exact ⟨rfl, Nat.zero_le _, fun p np => hf.step nD2 (by omega) np⟩
  rintro H2 ⟨os, g1, g2, g3, g4, g5, g6⟩
  obtain ⟨sas, s1, s2, s3⟩ := hs
  have fo : ∀ x ∈ fas, x ∉ os := fun x hx z => by
    have h := (g3 x z).1
    rw [f6 x hx] at h
    cases h
  have D1f : D1 ∉ fas := fun z => (f3 D1 z).2 rfl
  have D1o : D1 ∉ os := fun z => by
    have h := (g3 D1 z).1
    rw [f5] at h
    cases h
  have D2o : D2 ∉ os := fun z => (g3 D2 z).2 rfl
  have D2f : D2 ∉ fas := fun z => by
    have h := f6 D2 z
    rw [nD2] at h
    cases h
  have nin : ∀ {b : Addr}, b ∉ fas → b ∉ os → b ∉ fas ++ os := fun h1 h2 z => (List.mem_append.mp z).elim h1 h2
  have old : ∀ b o, H b = some o → H2 b = some o ∧ b ∉ fas ++ os := fun b o e => by
    have h5 := f4 _ _ e
    refine ⟨g4 _ _ h5, nin (fun z => ?_) (fun z => ?_)⟩
    · rw [(f3 b z).1] at e; cases e
    · rw [(g3 b z).1] at h5; cases h5
  have hD12 : H2 D1 = some (.lst (fas.map V.ref)) := g4 _ _ f5
  refine ⟨_, rfl, s, rfl, ⟨_, SqL.of (old _ _ s1).1⟩, ?_⟩
  refine for_list (K := K) (a := s) (xs := sas.map V.ref) (fun i σ H' => ∃ v4 v5 v6 : Option V, σ = [some (.int (N : Int)), some (.ref s), some (.ref D1), some (.ref D2), v4, v5, v6, none, none, none, none] ∧ KeptR (fas ++ os) H2 H' ∧ (∀ (j : Nat) (x : Addr), fas[j]? = some x → H' x = some (.lst (iv (outN ts [] j i)))) ∧ (∀ (j : Nat) (x : Addr), os[j]? = some x → H' x = some (.lst (iv (outN (swaps ts) [] j i))))) ?_ ?_ ?_ ?_
  · exact ⟨_, _, _, rfl, .refl _ _, fun j x e => g4 _ _ (f6 x (List.mem_of_getElem? e)), fun j x e => g6 x (List.mem_of_getElem? e)⟩
  · rintro i σ H' hi ⟨v4, v5, v6, rfl, hk, _⟩
    exact SqL.of (hk _ _ (old _ _ s1).1 (old _ _ s1).2)
  · rintro i x σ H3 hx ⟨v4, v5, v6, rfl, hk, hf, hos⟩
    have hi := (List.getElem?_eq_some_iff.mp hx).1
    rw [List.length_map] at hi
    obtain ⟨⟨u, v⟩, he⟩ : ∃ e, ts[i]? = some e := ⟨ts[i]'(by omega), List.getElem?_eq_getElem _⟩
    obtain ⟨p, kk, e1, e2⟩ := s3 i u v he
    rw [List.getElem?_map, e1] at hx
    cases hx
    obtain ⟨hu, hv⟩ := ho.ok _ (List.mem_of_getElem? he)
    have hp3 : H3 p = some (.tup [.int (u : Int), .int (v : Int), .int (kk : Int)]) := hk _ _ (old _ _ e2).1 (old _ _ e2).2
    obtain ⟨xu, eu⟩ : ∃ x, fas[u]? = some x := ⟨fas[u]'(by omega), List.getElem?_eq_getElem _⟩
    obtain ⟨xv, ev⟩ : ∃ x, os[v]? = some x := ⟨os[v]'(by omega), List.getElem?_eq_getElem _⟩
    have mu := List.mem_of_getElem? eu
    have mv := List.mem_of_getElem? ev
    have hxu := hf u xu eu
    have hbi : i < 1000 := by omega
    refine ⟨p, _, rfl, SqT.of hp3, rfl, _, _, rfl, _, _, rfl, _, _, rfl, rfl, ?_⟩
    refine ⟨_, rfl, _, rfl, _, _, _, .ref xu, rfl, rfl, SqL.of (hk _ _ hD12 (nin D1f D1o)), atI_nat (by rw [List.getElem?_map, eu]; rfl), .inl ⟨rfl, _, SqL.of hxu⟩, _, rfl, xu, _, _, rfl, rfl, hxu, ?_, ?_⟩
    · rw [List.length_map]
      exact Nat.lt_of_le_of_lt (outN_len ts [] u i) (Nat.lt_trans hbi (by decide))
    have hk4 : KeptR (fas ++ os) H2 (upd H3 xu (.lst (iv (outN ts [] u i) ++ [.int (v : Int)]))) := hk.put (List.mem_append_left _ mu)
    have hf4 := row_put f2 eu hf (g := fun j => outN ts [] j (i + 1)) (v := v) (outN_at he)
    have ho4 : ∀ (j : Nat) (x : Addr), os[j]? = some x → (upd H3 xu (.lst (iv (outN ts [] u i) ++ [.int (v : Int)]))) x = some (.lst (iv (outN (swaps ts) [] j i))) := fun j x e => by
      rw [upd_ne (fun z => fo xu mu (by rw [← z]; exact List.mem_of_getElem? e))]
      exact hos j x e
    generalize upd H3 xu (.lst (iv (outN ts [] u i) ++ [.int (v : Int)])) = H4 at hk4 hf4 ho4
    have hxv := ho4 v xv ev
    refine ⟨_, rfl, _, rfl, _, _, _, .ref xv, rfl, rfl, SqL.of (hk4 _ _ g5 (nin D2f D2o)), atI_nat (by rw [List.getElem?_map, ev]; rfl), .inl ⟨rfl, _, SqL.of hxv⟩, _, rfl, xv, _, _, rfl, rfl, hxv, ?_, ?_⟩
    · rw [List.length_map]
      exact Nat.lt_of_le_of_lt (outN_len (swaps ts) [] v i) (Nat.lt_trans hbi (by decide))
    refine ⟨_, _, _, rfl, hk4.put (List.mem_append_right _ mv), fun j x e => ?_, row_put (u := v) (v := u) (f := fun j => outN (swaps ts) [] j i) (g := fun j => outN (swaps ts) [] j (i + 1)) g2 ev ho4 (outN_at (swaps_at he))⟩
    rw [upd_ne (fun z => fo x (List.mem_of_getElem? e) (by rw [z]; exact mv))]
    exact hf4 j x e
  rintro σ H3 ⟨v4, v5, v6, rfl, hk, hf, hos⟩
  rw [List.length_map, s2] at hf hos
  rw [← swaps_len ts] at hos
  have hS03 : Same H H3 := fun b o e => hk _ _ (old _ _ e).1 (old _ _ e).2
  have hR1 : RowsAt H3 D1 N (outs ts []) := ⟨fas, hk _ _ hD12 (nin D1f D1o), f1, hf⟩
  have hR2 : RowsAt H3 D2 N (outs (swaps ts) []) := ⟨os, hk _ _ g5 (nin D2f D2o), g1, hos⟩
  clear hk hf hos hD12
  refine ⟨Nat.zero_le _, fun ll nll => ⟨(by show 1 ≤ sizeLine; decide), fun b1 nb1 => ⟨_, rfl, b1, _, _, rfl, rfl, upd_same, by omega, by omega, ?_, fun sl nsl => ?_⟩⟩⟩
  · show 1 * (N : Int).toNat ≤ sizeLine
    rw [Int.toNat_natCast, Nat.one_mul]
    exact Nat.le_trans hN (by decide)
  rw [rep_false]
  have hS34 : Same H3 (upd (upd (upd H3 ll (.lst [])) b1 (.lst [.bl false])) sl (.lst (bv (List.replicate N false)))) := fun b o e => same_new nsl _ _ _ (same_new nb1 _ _ _ (same_new nll _ _ _ e))
  have hsl4 : (upd (upd (upd H3 ll (.lst [])) b1 (.lst [.bl false])) sl (.lst (bv (List.replicate N false)))) sl = some (.lst (bv (List.replicate N false))) := upd_same
  have hll4 : (upd (upd (upd H3 ll (.lst [])) b1 (.lst [.bl false])) sl (.lst (bv (List.replicate N false)))) ll = some (.lst (iv [])) := same_new nsl _ _ _ (same_new nb1 _ _ _ upd_same)
  have nls : ll ≠ sl := ne_of_none (same_new nb1 (.lst [.bl false]) _ _ (upd_same (H := H3) (a := ll) (o := .lst []))) nsl
  have nsl3 : H3 sl = none := by
    have h1 : Same H3 (upd (upd H3 ll (.lst [])) b1 (.lst [.bl false])) := fun b o e => same_new nb1 _ _ _ (same_new nll _ _ _ e)
    exact h1.free nsl
  generalize upd (upd (upd H3 ll (.lst [])) b1 (.lst [.bl false])) sl (.lst (bv (List.replicate N false))) = H4 at hS34 hsl4 hll4
  refine ⟨_, rfl, _, rfl, by omega, by omega, ?_⟩
  refine for_range (lo := 0) (n := N) (fun i σ H' => ∃ (v9 : Option V) (L : List Nat) (S : List Bool), σ = [some (.int (N : Int)), some (.ref s), some (.ref D1), some (.ref D2), v4, v5, v6, some (.ref ll), some (.ref sl), v9, none] ∧ Same H3 H' ∧ H' ll = some (.lst (iv L)) ∧ H' sl = some (.lst (bv S)) ∧ Pass1 ts N i L S) ⟨_, [], _, rfl, hS34, hll4, hsl4, pass1_start ts N⟩ ?_ ?_
  · rintro i σ H5 hi ⟨v9, L, S, rfl, hS5, hll5, hsl5, p1⟩
    rw [Int.zero_add]
    rcases bl_of (L := S) (j := i) (by rw [p1.ln]; exact hi) with hb | hb
    · exact ⟨_, rfl, _, rfl, _, _, _, _, rfl, rfl, SqL.of hsl5, bv_at hb, _, rfl, iteF ⟨_, L, S, rfl, hS5, hll5, hsl5, pass1_old p1 hb⟩⟩
    · refine ⟨_, rfl, _, rfl, _, _, _, _, rfl, rfl, SqL.of hsl5, bv_at hb, _, rfl, iteT ?_⟩
      have hno : ¬ Got S i := fun z => by unfold Got at z; rw [hb] at z; cases z
      refine ⟨_, rfl, .inl ⟨rfl, _, SqL.of hll5⟩, _, rfl, _, rfl, _, rfl, D1, i, sl, outs ts [], N, S, rfl, hR1.same hS5, lf_ok ho, hi, hsl5, p1.ln, hno, p1.cl, fun H6 m M S' nm hm6 hs6 hk6 res => ?_⟩
      have hll6 := hk6 _ _ hll5 nls
      have p1' := pass1_new p1 res hno
      have hfew := few p1'.nd p1'.lt
      rw [List.length_append] at hfew
      refine ⟨ll, m, _, _, rfl, rfl, hll6, hm6, ?_, ?_⟩
      · rw [List.length_map, List.length_map]
        exact Nat.le_trans hfew (Nat.le_trans hN (by decide))
      refine ⟨_, L ++ M, S', rfl, fun b o e => ?_, by rw [upd_same, iv, iv, iv, List.map_append], by rw [upd_ne nls.symm]; exact hs6, p1'⟩
      rw [upd_ne (ne_of_none e nll)]
      exact hk6 _ _ (hS5 _ _ e) (ne_of_none e nsl3)
  rintro σ H5 ⟨v9, L, S1, rfl, hS5, hll5, hsl5, p1⟩
  have hS05 := hS03.trans hS5
  have pN : ∀ x, x < N → x ∈ L := p1.up
  refine ⟨Nat.zero_le _, fun pl npl => ⟨(by show 1 ≤ sizeLine; decide), fun b2 nb2 => ⟨_, rfl, b2, _, _, rfl, rfl, upd_same, by omega, by omega, ?_, fun tl ntl => ?_⟩⟩⟩
  · show 1 * (N : Int).toNat ≤ sizeLine
    rw [Int.toNat_natCast, Nat.one_mul]
    exact Nat.le_trans hN (by decide)
  rw [rep_false]
  have hSq : Same H5 (upd (upd H5 pl (.lst [])) b2 (.lst [.bl false])) := fun b o e => same_new nb2 _ _ _ (same_new npl _ _ _ e)
  have hS56 : Same H5 (upd (upd (upd H5 pl (.lst [])) b2 (.lst [.bl false])) tl (.lst (bv (List.replicate N false)))) := fun b o e => same_new ntl _ _ _ (hSq _ _ e)
  have hpl6 : LolAt (upd (upd (upd H5 pl (.lst [])) b2 (.lst [.bl false])) tl (.lst (bv (List.replicate N false)))) pl [] := ⟨[], same_new ntl _ _ _ (same_new nb2 _ _ _ upd_same), .nil⟩
  have htl6 : (upd (upd (upd H5 pl (.lst [])) b2 (.lst [.bl false])) tl (.lst (bv (List.replicate N false)))) tl = some (.lst (bv (List.replicate N false))) := upd_same
  have npt : pl ≠ tl := ne_of_none (same_new nb2 (.lst [.bl false]) _ _ (upd_same (H := H5) (a := pl) (o := .lst []))) ntl
  have ntl5 : H5 tl = none := hSq.free ntl
  have npl0 : H pl = none := hS05.free npl
  generalize upd (upd (upd H5 pl (.lst [])) b2 (.lst [.bl false])) tl (.lst (bv (List.replicate N false))) = H6 at hS56 hpl6 htl6
  refine ⟨_, rfl, ll, _, rfl, SqL.of (hS56 _ _ hll5), fun rl nrl => ⟨rl, rfl, ⟨_, SqL.of upd_same⟩, ?_⟩⟩
  have hS57 : Same H5 (upd H6 rl (.lst (iv L).reverse)) := fun b o e => same_new nrl _ _ _ (hS56 _ _ e)
  have hpl7 := hpl6.same (same_new nrl (.lst (iv L).reverse))
  have htl7 := same_new nrl (.lst (iv L).reverse) _ _ htl6
  have hrl7 : (upd H6 rl (.lst (iv L).reverse)) rl = some (.lst (iv L.reverse)) := by rw [upd_same, iv, iv, List.map_reverse]
  have nrt : rl ≠ tl := (ne_of_none htl6 nrl).symm
  have nrp : rl ≠ pl := by
    obtain ⟨as, e, _⟩ := hpl6
    exact (ne_of_none e nrl).symm
  have hni7 : NewIn H (upd H6 rl (.lst (iv L).reverse)) pl := fun xs q hx hq => by
    obtain ⟨as, e, hp⟩ := hpl7
    cases hp
    rw [e] at hx
    cases hx
    simp at hq
  generalize upd H6 rl (.lst (iv L).reverse) = H7 at hni7 hS57 hpl7 htl7 hrl7
  refine for_list (K := K) (a := rl) (xs := iv L.reverse) (fun i σ H' => ∃ (v9 : Option V) (S : List Bool) (HS : List Nat), σ = [some (.int (N : Int)), some (.ref s), some (.ref D1), some (.ref D2), v4, v5, v6, some (.ref ll), some (.ref tl), v9, some (.ref pl)] ∧ Same H5 H' ∧ H' rl = some (.lst (iv L.reverse)) ∧ H' tl = some (.lst (bv S)) ∧ LolAt H' pl (HS.map (clsL (Ed ts) N)) ∧ NewIn H H' pl ∧ Pass2 ts N (L.reverse.take i) S HS) ⟨_, _, [], rfl, hS57, hrl7, htl7, hpl7, hni7, pass2_start ts N⟩ (fun i σ H' _ ⟨_, _, _, _, _, h, _⟩ => SqL.of h) ?_ ?_
  · rintro i x σ H8 hx ⟨v9', S, HS, rfl, hS8, hrl8, htl8, hpl8, hni8, p2⟩
    rw [List.getElem?_map] at hx
    obtain ⟨q0, hq0, rfl⟩ : ∃ q, L.reverse[i]? = some q ∧ x = V.int (q : Int) := by
      cases e : L.reverse[i]? with
      | none => rw [e] at hx; cases hx
      | some q => rw [e] at hx; exact ⟨q, rfl, (Option.some.inj hx).symm⟩
    have hqN : q0 < N := p1.lt q0 (List.mem_reverse.mp (List.mem_of_getElem? hq0))
    have htk := take_snocE hq0
    have hL : L = (L.reverse.drop (i + 1)).reverse ++ q0 :: (L.reverse.take i).reverse := by
      have e1 : L.reverse = L.reverse.take i ++ q0 :: L.reverse.drop (i + 1) := by
        conv => lhs; rw [← List.take_append_drop (i + 1) L.reverse, htk]
        simp
      have e2 := congrArg List.reverse e1
      rw [List.reverse_reverse] at e2
      exact e2.trans (by rw [List.reverse_append, List.reverse_cons, List.append_assoc]; rfl)
    rcases bl_of (L := S) (j := q0) (by rw [p2.ln]; exact hqN) with hb | hb
    · exact ⟨_, rfl, _, rfl, _, _, _, _, rfl, rfl, SqL.of htl8, bv_at hb, _, rfl, iteF ⟨_, S, HS, rfl, hS8, hrl8, htl8, hpl8, hni8, by rw [htk]; exact pass2_old p2 hb⟩⟩
    · refine ⟨_, rfl, _, rfl, _, _, _, _, rfl, rfl, SqL.of htl8, bv_at hb, _, rfl, iteT ?_⟩
      have hno : ¬ Got S q0 := fun z => by unfold Got at z; rw [hb] at z; cases z
      have hSne : S ≠ [] := fun z => by have := p2.ln; rw [z] at this; simp at this; omega
      obtain ⟨as8, hpl8a, hpl8b⟩ := id hpl8
      refine ⟨_, rfl, .inl ⟨rfl, _, SqL.of hpl8a⟩, _, rfl, _, rfl, _, rfl, D2, q0, tl, outs (swaps ts) [], N, S, rfl, hR2.same (hS5.trans hS8), lf_ok (okWeb_swaps ho), hqN, htl8, p2.ln, hno, p2.cl, fun H9 m M S' nm hm9 hs9 hk9 res => ?_⟩
      have hmm := pass2_mem ho p2 hL p1.star p1.nd pN hqN hno res
      have p2' := pass2_new ho p2 hno hqN res hmm
      refine ⟨m, cn M, rfl, SqL.of (by rw [hm9, iv_iz]), fun ys yl hperm hsort nyl => ?_⟩
      have hys := cls_sorted (E := Ed ts) (N := N) (q := q0) res.nd hmm hperm hsort
      subst hys
      have hpl9 := hpl8.put (S2 := S) npt htl8 hSne hk9
      obtain ⟨xs, g1', g2', g3'⟩ := hpl9.push (L := clsL (Ed ts) N q0) nyl
      rw [show (cn (clsL (Ed ts) N q0)).map V.int = iv (clsL (Ed ts) N q0) from (iv_iz _).symm]
      refine ⟨pl, _, _, rfl, rfl, g1', ?_, ?_⟩
      · rw [g2', List.length_map]
        have hnd : HS.Nodup := p2.rep.imp fun {a b} h e => h (by rw [e]; exact mut_refl b)
        have := few (N := N) hnd (fun y hy => p1.lt y (List.mem_reverse.mp (List.mem_of_mem_take (p2.sub y hy))))
        exact Nat.lt_of_le_of_lt (Nat.le_trans this hN) (by decide)
      refine ⟨_, S', HS ++ [q0], rfl, fun b o e => ?_, ?_, ?_, by rw [List.map_append]; exact g3', ?_, by rw [htk]; exact p2'⟩
      · rw [upd_ne (ne_of_none e npl)]
        exact same_new nyl _ _ _ (hk9 _ _ (hS8 _ _ e) (ne_of_none e ntl5))
      · rw [upd_ne nrp]
        exact same_new nyl _ _ _ (hk9 _ _ hrl8 nrt)
      · rw [upd_ne npt.symm]
        exact same_new nyl _ _ _ hs9
      · intro zs q1 hz hq1
        rw [upd_same] at hz
        cases hz
        have hpl8k : H9 pl = H8 pl := by
          rw [hpl8a]
          exact hk9 _ _ hpl8a npt
        rcases List.mem_append.mp hq1 with z | z
        · refine hni8 xs q1 ?_ z
          rw [← hpl8k]
          rw [upd_ne (ne_of_none (hk9 _ _ hpl8a npt) nyl)] at g1'
          exact g1'
        · have z := V.ref.inj (List.mem_singleton.mp z)
          rw [z]
          exact hS05.free (hS8.free (by
            cases e : H8 yl with
            | none => rfl
            | some o =>
              by_cases c : yl = tl
              · rw [c, hs9] at nyl; cases nyl
              · rw [hk9 _ _ e c] at nyl; cases nyl))
  rintro σ H8 ⟨v9', S, HS, rfl, hS8, hrl8, htl8, hpl8, hni8, p2⟩
  rw [List.length_map, List.take_length] at p2
  obtain ⟨hs, hperm, heq⟩ := reps_heads (N := N) p2.rep (fun q hq => p1.lt q (List.mem_reverse.mp (p2.sub q hq))) (fun x hx => p2.all x (List.mem_reverse.mpr (pN x hx)))
  rw [heq] at hpl8
  exact ⟨_, rfl, q H8 pl hs npl0 (hS05.trans hS8) hperm hpl8 hni8⟩
end
end My
namespace My
open PySem L2 PyProof.Rows
/-! ### lists of lists as data -/
theorem dn_dz (L : List Nat) : dn L = dz (cn L) := by
  show PyData.list _ = PyData.list _
  rw [List.map_map]
  rfl
theorem dn_inj {L M : List Nat} (h : dn L = dn M) : L = M := by
  have h := PyData.list.inj h
  exact (List.map_inj_right (fun a b e => by have := PyData.int.inj e; omega)).mp h
theorem dpAll_lol {K : PySem.W.Frag} {H : Hp} : ∀ {as : List Addr} {LL : List (List Nat)}, Paired (fun (p : Addr) (L : List Nat) => H p = some (.lst (iv L))) as LL → DpAll K H (as.map V.ref) (LL.map dn)
  | _, _, .nil => .nil
  | _, _, .cons (b := L) h r => .cons (by rw [dn_dz]; exact dp_iv h) (dpAll_lol r)
theorem alikeAll_dn : ∀ L M : List Nat, PySem.W.alikeAll (L.map fun n : Nat => PyData.int (n : Int)) (M.map fun n : Nat => PyData.int (n : Int)) = true
  | [], _ => by rw [List.map_nil, PySem.W.alikeAll]
  | _ :: _, [] => by simp [PySem.W.alikeAll]
  | a :: L, b :: M => by
    rw [List.map_cons, List.map_cons, PySem.W.alikeAll, alikeAll_dn L M]
    simp [PySem.W.alike]
theorem lol_alike (LL : List (List Nat)) : PySem.W.AllAlike (LL.map dn) := by
  intro d hd e he
  obtain ⟨L, _, rfl⟩ := List.mem_map.mp hd
  obtain ⟨M, _, rfl⟩ := List.mem_map.mp he
  rw [PySem.W.alike]
  exact alikeAll_dn L M
theorem lol_sortable (LL : List (List Nat)) : PySem.W.Sortable (LL.map dn) := .others (enc := dn) fun b => ⟨fun z => (by cases z), fun xs z => (by cases z)⟩
theorem dn_depth (L : List Nat) : (dn L).depth ≤ 8 := by
  rw [dn_dz]
  show PyData.depth (.list ((cn L).map PyData.int)) ≤ 8
  unfold PyData.depth
  rw [depthAll_iz]
  omega
theorem lol_pick {H : Hp} {as : List Addr} {LL : List (List Nat)} (hp : Paired (fun (p : Addr) (L : List Nat) => H p = some (.lst (iv L))) as LL) : ∀ {zs : List V} {PP : List (List Nat)}, Paired (fun (z : V) (d : PyData) => ∃ j : Nat, (as.map V.ref)[j]? = some z ∧ (LL.map dn)[j]? = some d) zs (PP.map dn) →
    ∃ bs : List Addr, zs = bs.map V.ref ∧ Paired (fun (p : Addr) (L : List Nat) => H p = some (.lst (iv L))) bs PP ∧ ∀ b ∈ bs, b ∈ as
  | _, [], .nil => ⟨[], rfl, .nil, fun b hb => by simp at hb⟩
  | _, L :: PP, .cons ⟨j, h1, h2⟩ t => by
    obtain ⟨bs, e1, e2, e3⟩ := lol_pick hp t
    rw [List.getElem?_map] at h1 h2
    cases ea : as[j]? with
    | none => rw [ea] at h1; cases h1
    | some a =>
      cases el : LL[j]? with
      | none => rw [el] at h2; cases h2
      | some M =>
        rw [ea] at h1
        rw [el] at h2
        have eM : M = L := dn_inj (Option.some.inj h2)
        obtain ⟨M', k1, k2⟩ := paired_get hp ea
        rw [el] at k1
        cases k1
        subst eM
        have ez := Option.some.inj h1
        refine ⟨a :: bs, by rw [e1, ← ez]; rfl, .cons k2 e2, fun b hb => ?_⟩
        rcases List.mem_cons.mp hb with z | z
        · rw [z]; exact List.mem_of_getElem? ea
        · exact e3 b z
theorem LolAt.add {H : Hp} {l x : Addr} {LL : List (List Nat)} {L : List Nat} (h : LolAt H l LL) (hx : H x = some (.lst (iv L))) (nx : x ≠ l) : ∃ xs, H l = some (.lst xs) ∧ xs.length = LL.length ∧ LolAt (upd H l (.lst (xs ++ [.ref x]))) l (LL ++ [L]) := by
  obtain ⟨as, h1, h2⟩ := h
  refine ⟨as.map V.ref, h1, by rw [List.length_map]; exact paired_len h2, as ++ [x], by rw [upd_same, List.map_append]; rfl, paired_app ?_ (by rw [upd_ne nx]; exact hx)⟩
  have key : ∀ (q : Addr) (M : List Nat), q ∈ as → H q = some (.lst (iv M)) → q ≠ l := fun q M hq e z => by
    rw [z, h1] at e
    have e := HO.lst.inj (Option.some.inj e)
    have hm : V.ref q ∈ iv M := by rw [← e]; exact List.mem_map.mpr ⟨q, hq, rfl⟩
    obtain ⟨n, _, z2⟩ := List.mem_map.mp hm
    cases z2
  clear h1
  have go : ∀ {bs : List Addr} {MM : List (List Nat)}, (∀ q ∈ bs, q ∈ as) → Paired (fun (p : Addr) (L : List Nat) => H p = some (.lst (iv L))) bs MM → Paired (fun (q : Addr) (M : List Nat) => (upd H l (.lst (as.map V.ref ++ [.ref x]))) q = some (.lst (iv M))) bs MM := by
    intro bs MM hb hp
    induction hp with
    | nil => exact .nil
    | @cons q M bs MM r t ih =>
      refine .cons ?_ (ih fun y hy => hb y (List.mem_cons_of_mem _ hy))
      rw [upd_ne (key q M (hb q List.mem_cons_self) r)]
      exact r
  exact go (fun q hq => hq) h2
theorem LolAt.get {H : Hp} {l : Addr} {LL : List (List Nat)} (h : LolAt H l LL) {i : Nat} {L : List Nat} (e : LL[i]? = some L) : ∃ xs x, H l = some (.lst xs) ∧ atI xs (i : Int) = some (.ref x) ∧ H x = some (.lst (iv L)) := by
  obtain ⟨as, h1, h2⟩ := h
  have hi : i < as.length := by rw [paired_len h2]; exact (List.getElem?_eq_some_iff.mp e).1
  obtain ⟨M, k1, k2⟩ := paired_get h2 (List.getElem?_eq_getElem hi)
  rw [e] at k1
  cases k1
  exact ⟨_, as[i], h1, atI_nat (by rw [List.getElem?_map, List.getElem?_eq_getElem hi]; rfl), k2⟩
theorem range_map_at {α : Type} (f : Nat → α) {N i : Nat} (h : i < N) : ((List.range N).map f)[i]? = some (f i) := by
  rw [List.getElem?_map, List.getElem?_range h]
  rfl
/-! ### what is come to, as a list -/
noncomputable def rchL (E : Nat → Nat → Prop) (N p : Nat) : List Nat := (List.range N).filter fun x => bdec (Rch E p x)
theorem rchL_mem {E : Nat → Nat → Prop} {N p x : Nat} : x ∈ rchL E N p ↔ x < N ∧ Rch E p x := by
  unfold rchL
  rw [List.mem_filter, List.mem_range, bdec_iff]
theorem rchL_rising {E : Nat → Nat → Prop} {N p : Nat} : (rchL E N p).Pairwise (· < ·) := by
  unfold rchL
  exact List.Pairwise.filter _ List.pairwise_lt_range
theorem rch_up {E : Nat → Nat → Prop} {N : Nat} (h : ∀ a b, E a b → b < N) {u v : Nat} (hu : u < N) (r : Rch E u v) : v < N := by
  obtain ⟨k, r⟩ := r
  cases r with
  | nil => exact hu
  | snoc _ e => exact h _ _ e
theorem filter_cls {ts : List (Nat × Nat)} {N p : Nat} (hp : p < N) : (rchL (Ed ts) N p).filter (fun o => decide (p ∈ rchL (Ed ts) N o)) = clsL (Ed ts) N p := by
  unfold rchL clsL
  rw [List.filter_filter]
  refine List.filter_congr fun x hx => ?_
  rw [Bool.eq_iff_iff, Bool.and_eq_true, bdec_iff, bdec_iff, decide_eq_true_iff]
  show p ∈ rchL (Ed ts) N x ∧ Rch (Ed ts) p x ↔ Mut (Ed ts) p x
  rw [rchL_mem]
  exact ⟨fun z => ⟨z.2, z.1.2⟩, fun z => ⟨⟨hp, z.2⟩, z.1⟩⟩
noncomputable def headsN (E : Nat → Nat → Prop) (i : Nat) : List Nat := (List.range i).filter fun p => bdec (∀ x, x < p → ¬ Mut E p x)
theorem headsN_yes {E : Nat → Nat → Prop} {N i : Nat} (hi : i < N) (h : i ∈ headsL E N) : headsN E (i + 1) = headsN E i ++ [i] := by
  unfold headsN
  rw [List.range_succ, List.filter_append]
  congr 1
  rw [List.filter_cons, List.filter_nil]
  exact if_pos (bdec_iff.mpr (headsL_mem.mp h).2)
theorem headsN_no {E : Nat → Nat → Prop} {N i : Nat} (hi : i < N) (h : i ∉ headsL E N) : headsN E (i + 1) = headsN E i := by
  unfold headsN
  rw [List.range_succ, List.filter_append, List.filter_cons, List.filter_nil, if_neg (fun z => h (headsL_mem.mpr ⟨hi, bdec_iff.mp z⟩)), List.append_nil]
theorem cls_first {E : Nat → Nat → Prop} {N p : Nat} (hp : p < N) : ∃ a r, clsL E N p = a :: r ∧ (a = p ↔ p ∈ headsL E N) := by
  have hm : p ∈ clsL E N p := clsL_mem.mpr ⟨hp, mut_refl p⟩
  have hr := clsL_rising (E := E) (N := N) (p := p)
  cases e : clsL E N p with
  | nil => rw [e] at hm; simp at hm
  | cons a r =>
    refine ⟨a, r, rfl, ?_, ?_⟩
    · rintro rfl
      refine headsL_mem.mpr ⟨hp, fun x hx hmx => ?_⟩
      have hx2 : x ∈ clsL E N a := clsL_mem.mpr ⟨by omega, hmx⟩
      rw [e] at hx2 hr
      rcases List.mem_cons.mp hx2 with z | z
      · omega
      · have := (List.pairwise_cons.mp hr).1 x z
        omega
    · intro h
      obtain ⟨r', e'⟩ := clsL_head h
      rw [e] at e'
      exact (List.cons.inj e').1
theorem nodup_len {N : Nat} {L : List Nat} (h : L.Pairwise (· < ·)) (hl : ∀ x ∈ L, x < N) : L.length ≤ N := few (h.imp fun z => Nat.ne_of_lt z) hl
theorem parts_len {E : Nat → Nat → Prop} {N : Nat} : (partsL E N).length ≤ N := by
  unfold partsL
  rw [List.length_map]
  exact nodup_len headsL_rising fun x hx => (headsL_mem.mp hx).1
section
variable {P : Program} {w : World} {K : PySem.W.Frag} {mg : Str → Option Value} {base : Heap} {C : Addr}
def spparts_of (_ : PySem.W.Frag) (C : Addr) : Sp := fun vs H Q _ => ∃ a N ts, vs = [.ref a] ∧ WebAt C a N ts H ∧ OkWeb N ts ∧ ∀ H' l, H l = none → Same H H' → LolAt H' l (partsL (Ed ts) N) → NewIn H H' l → Q (.ref l) H'
theorem okparts_of (D : Def K mg "parts_of" sparts_of ["web"]) (B : Bs mg) (Glb : Glo mg) (WK : WebK K mg C)
    (hneed_web : Good P w K mg base "need_web" sneed_web ["web"] 3 (spneed_web K C))
    (hparts_in_turn : Good P w K mg base "parts_in_turn" sparts_in_turn ["points", "steps"] 2 (spparts_in_turn K C))
    (hweb_steps : Good P w K mg base "web_steps" sweb_steps ["web"] 3 (spweb_steps K C))
    (hWeb_places : GoodP P w K mg base C "places" "Web.places" sWeb_places ["self"] 1 (spWeb_places K C)) :
    Good P w K mg base "parts_of" sparts_of ["web"] 4 (spparts_of K C) := by
  refine D.good fun f fd F => ?_
  obtain ⟨fneed_web, dneed_web, Oneed_web, mneed_web, kneed_web, bneed_web, Fneed_web⟩ := hneed_web
  obtain ⟨fparts_in_turn, dparts_in_turn, Oparts_in_turn, mparts_in_turn, kparts_in_turn, bparts_in_turn, Fparts_in_turn⟩ := hparts_in_turn
  obtain ⟨fweb_steps, dweb_steps, Oweb_steps, mweb_steps, kweb_steps, bweb_steps, Fweb_steps⟩ := hweb_steps
  obtain ⟨qWeb_places, fWeb_places, dWeb_places, OWeb_places, pWeb_places, bWeb_places⟩ := hWeb_places
  refine F.ok scparts_of (fun vs H Q E h => ?_) (fun cdv A outer s H vs Q E hr h => ?_)
  · obtain ⟨a, N, ts, rfl, hw, ho, q⟩ := h
    first | rfl | (rcases h with ⟨_, _, rfl, _⟩ | ⟨_, rfl, _⟩ <;> rfl)
  obtain ⟨a, N, ts, rfl, hw, ho, q⟩ := h
  refine ⟨_, (pss_cons (ps_expr (pe_call Oneed_web hr rfl mneed_web kneed_web bneed_web .nil pass0 (pa_cons (pv 0) pa_nil)))
  (pss_one (ps_ret (pe_callB (cr_sortD hr.units) (by rfl) B.sorted (by decide +kernel) (pa_cons (pe_call Oparts_in_turn (hr.mono (by decide)) rfl mparts_in_turn kparts_in_turn bparts_in_turn .nil pass0 (pa_cons (pe_prop (pv 0) WK.cl pWeb_places OWeb_places (hr.mono (by decide)) bWeb_places .nil pass0 (by rfl)) (pa_cons (pe_call Oweb_steps hr rfl mweb_steps kweb_steps bweb_steps .nil pass0 (pa_cons (pv 0) pa_nil)) pa_nil))) pa_nil))))), ?_⟩
  obtain ⟨dx, tl, fl, ol, h1, h23⟩ := id hw
  refine ⟨_, rfl, a, N, ts, rfl, hw, ?_⟩
  refine ⟨_, rfl, a, dx, _, rfl, h1, a, N, ts, rfl, hw, _, rfl, a, N, ts, rfl, hw, ho, fun H1 l nl hS1 hst => ?_⟩
  refine ⟨N, l, ts, rfl, hst.g, ho, fun H2 pl hs npl hS2 hperm ⟨as, g1, g2⟩ hni => ?_⟩
  refine ⟨pl, as.map V.ref, (hs.map (clsL (Ed ts) N)).map dn, rfl, SqL.of g1, dpAll_lol g2, lol_alike _, lol_sortable _, fun d hd => ?_, ?_, fun zs p hz np => ?_⟩
  · obtain ⟨L, _, rfl⟩ := List.mem_map.mp hd
    exact dn_depth L
  · rw [List.length_map, paired_len g2, List.length_map, hperm.length_eq]
    exact Nat.le_trans (nodup_len headsL_rising fun x hx => (headsL_mem.mp hx).1) (Nat.le_trans ho.n1 (by decide))
  rw [sort_parts hperm] at hz
  obtain ⟨bs, rfl, k1, k2⟩ := lol_pick g2 hz
  have hS02 := hS1.trans hS2
  refine q _ p (hS02.free np) (fun b o e => same_new np _ _ _ (hS02 _ _ e)) ⟨bs, upd_same, paired_mono (fun x L hx => same_new np _ _ _ hx) k1⟩ fun xs x hx hq => ?_
  rw [upd_same] at hx
  cases hx
  obtain ⟨b, hb, e⟩ := List.mem_map.mp hq
  cases e
  exact hS1.free (hni _ _ g1 (List.mem_map.mpr ⟨_, k2 _ hb, rfl⟩))
end
end My
namespace My
open PySem L2 PyProof.Rows
def Closed (N : Nat) (ts : List (Nat × Nat)) : Prop := 0 < ts.length ∧ (partsL (Ed ts) N).length = 1
noncomputable def closedB (N : Nat) (ts : List (Nat × Nat)) : Bool := decide (0 < ts.length) && decide ((partsL (Ed ts) N).length = 1)
theorem layAll_dn : ∀ LL : List (List Nat), PyData.canLayAll0 (LL.map dn) = true
  | [] => rfl
  | L :: r => by
    show (PyData.canLay0 (dn L) && PyData.canLayAll0 (r.map dn)) = true
    rw [layAll_dn r, dn_dz]
    have h1 : PyData.canLay0 (dz (cn L)) = true := by
      show PyData.canLay0 (.list ((cn L).map PyData.int)) = true
      unfold PyData.canLay0
      exact layAll_iz _
    rw [h1]
    rfl
theorem depthAll_dn : ∀ LL : List (List Nat), PyData.depthAll (LL.map dn) ≤ 1
  | [] => by
    show PyData.depthAll [] ≤ 1
    decide
  | L :: r => by
    show max (PyData.depth (dn L)) (PyData.depthAll (r.map dn)) ≤ 1
    have h1 := depthAll_dn r
    have h2 : PyData.depth (dn L) = 1 := by
      rw [dn_dz]
      show PyData.depth (.list ((cn L).map PyData.int)) = 1
      unfold PyData.depth
      rw [depthAll_iz]
    omega
theorem shaped_lol (LL : List (List Nat)) : SeqAt.shaped (.list (LL.map dn)) = true := by
  unfold SeqAt.shaped
  have h1 : PyData.canLay0 (.list (LL.map dn)) = true := by
    unfold PyData.canLay0
    exact layAll_dn LL
  have h2 : PyData.depth (.list (LL.map dn)) ≤ 64 := by
    unfold PyData.depth
    have := depthAll_dn LL
    omega
  rw [h1, decide_eq_true h2]
  rfl
theorem shaped_dn (L : List Nat) : SeqAt.shaped (dn L) = true := by rw [dn_dz]; exact shaped_iz _
theorem dp_lol {K : PySem.W.Frag} {H : Hp} {l : Addr} {LL : List (List Nat)} (h : LolAt H l LL) : Dp K H (.ref l) (.list (LL.map dn)) := by
  obtain ⟨as, h1, h2⟩ := h
  exact .lst (SqL.of h1) (dpAll_lol h2)
theorem dp_dn {K : PySem.W.Frag} {H : Hp} {l : Addr} {L : List Nat} (h : H l = some (.lst (iv L))) : Dp K H (.ref l) (dn L) := by rw [dn_dz]; exact dp_iv h
theorem eqv_dn (L : List Nat) : PyData.eqv (dn L) (dn L) = true := SeqAt.eqv_refl _ (SeqAt.canLay_of_shaped (shaped_dn L))
theorem any_dn {LL : List (List Nat)} {L : List Nat} (h : L ∈ LL) : ((LL.map dn).any fun z => PyData.eqv z (dn L)) = true := List.any_eq_true.mpr ⟨dn L, List.mem_map.mpr ⟨L, h, rfl⟩, eqv_dn L⟩
section
variable {P : Program} {w : World} {K : PySem.W.Frag} {mg : Str → Option Value} {base : Heap} {C : Addr}
def spis_close (_ : PySem.W.Frag) (C : Addr) : Sp := fun vs H Q _ => ∃ a N ts, vs = [.ref a] ∧ WebAt C a N ts H ∧ OkWeb N ts ∧ ∀ H', Same H H' → Q (.bl (closedB N ts)) H'
theorem okis_close (D : Def K mg "is_close" sis_close ["web"]) (B : Bs mg) (Glb : Glo mg) (WK : WebK K mg C)
    (hneed_web : Good P w K mg base "need_web" sneed_web ["web"] 3 (spneed_web K C))
    (hparts_of : Good P w K mg base "parts_of" sparts_of ["web"] 4 (spparts_of K C))
    (hWeb_many : GoodP P w K mg base C "many" "Web.many" sWeb_many ["self"] 1 (spWeb_many K C)) :
    Good P w K mg base "is_close" sis_close ["web"] 5 (spis_close K C) := by
  refine D.good fun f fd F => ?_
  obtain ⟨fneed_web, dneed_web, Oneed_web, mneed_web, kneed_web, bneed_web, Fneed_web⟩ := hneed_web
  obtain ⟨fparts_of, dparts_of, Oparts_of, mparts_of, kparts_of, bparts_of, Fparts_of⟩ := hparts_of
  obtain ⟨qWeb_many, fWeb_many, dWeb_many, OWeb_many, pWeb_many, bWeb_many⟩ := hWeb_many
  refine F.ok scis_close (fun vs H Q E h => ?_) (fun cdv A outer s H vs Q E hr h => ?_)
  · obtain ⟨a, N, ts, rfl, hw, ho, q⟩ := h
    first | rfl | (rcases h with ⟨_, _, rfl, _⟩ | ⟨_, rfl, _⟩ <;> rfl)
  obtain ⟨a, N, ts, rfl, hw, ho, q⟩ := h
  refine ⟨_, (pss_cons (ps_expr (pe_call Oneed_web (hr.mono (by decide)) rfl mneed_web kneed_web bneed_web .nil pass0 (pa_cons (pv 0) pa_nil)))
  (pss_one (ps_ret (pe_and (pe_cmpR op_gt (pe_prop (pv 0) WK.cl pWeb_many OWeb_many (hr.mono (by decide)) bWeb_many .nil pass0 (by rfl)) pe_int (nomark _)) (pe_one (pe_cmpR op_eq (pe_callB call_len_seq (by rfl) B.len (by decide +kernel) (pa_cons (pe_call Oparts_of hr rfl mparts_of kparts_of bparts_of .nil pass0 (pa_cons (pv 0) pa_nil)) pa_nil)) pe_int (nomark _))))))), ?_⟩
  obtain ⟨dx, tl, fl, ol, h1, h23⟩ := id hw
  refine ⟨_, rfl, a, N, ts, rfl, hw, ?_⟩
  refine ⟨_, rfl, a, dx, _, rfl, h1, a, N, ts, rfl, hw, _, _, rfl, rfl, _, rfl, ?_⟩
  dsimp only
  have qc : closedB N ts = (decide (0 < ts.length) && decide ((partsL (Ed ts) N).length = 1)) := rfl
  by_cases c : 0 < ts.length
  · refine iteYes (by omega) ⟨_, rfl, a, N, ts, rfl, hw, ho, fun H1 l nl hS1 ⟨as, g1, g2⟩ _ => ⟨l, _, rfl, .inl (SqL.of g1), rfl, ?_⟩⟩
    have := q H1 hS1
    rw [qc, decide_eq_true c, Bool.true_and, ← paired_len g2] at this
    rw [List.length_map]
    have e : (V.int (as.length : Int) = V.int 1) ↔ as.length = 1 := ⟨fun z => by have := int_eq.mp z; omega, fun z => by rw [z]; rfl⟩
    rw [show (decide (V.int (as.length : Int) = V.int 1)) = decide (as.length = 1) from decide_eq_decide.mpr e]
    exact this
  · refine iteNo (by omega) ?_
    have := q H fun b o e => e
    rw [qc, decide_eq_false c, Bool.false_and] at this
    exact this
end
end My
namespace My
open PySem L2 PyProof.Rows
/-- a value, and which triple it is -/
inductive Tri (H : Hp) : V → Option (Option Int × Option Int × Option (List (Option Int))) → Prop where
  | int (n : Int) : Tri H (.int n) none
  | non : Tri H .non none
  | bl (b : Bool) : Tri H (.bl b) none
  | str (s : Str) : Tri H (.str s) none
  | lst {a : Addr} {xs : List V} (h : H a = some (.lst xs)) : Tri H (.ref a) none
  | dK {a : Addr} {ks : List (Key × V)} (h : H a = some (.dK ks)) : Tri H (.ref a) none
  | tup {a : Addr} {xs : List V} (h : H a = some (.tup xs)) (n : xs.length ≠ 3) : Tri H (.ref a) none
  | tri {a : Addr} {x y z : V} {i j : Option Int} {o : Option (List (Option Int))} (h : H a = some (.tup [x, y, z])) (hx : Num H x i) (hy : Num H y j) (hz : Val H z o) : Tri H (.ref a) (some (i, j, o))
theorem Tri.same {H H' : Hp} {v : V} {t : Option (Option Int × Option Int × Option (List (Option Int)))} (h : Tri H v t) (s : Same H H') : Tri H' v t := by
  cases h with
  | int n => exact .int n
  | non => exact .non
  | bl b => exact .bl b
  | str x => exact .str x
  | lst h => exact .lst (s _ _ h)
  | dK h => exact .dK (s _ _ h)
  | tup h n => exact .tup (s _ _ h) n
  | tri h hx hy hz => exact .tri (s _ _ h) (hx.same s) (hy.same s) (hz.same s)
/-- a road around the i-th to the j-th step of W -/
structure RoadAt (ts : List (Nat × Nat)) (W : List Nat) (i j : Nat) (R : List Nat) : Prop where
  i1 : 1 ≤ i
  ij : i ≤ j
  jl : j < W.length
  ch : Chain ts R
  ends : ∃ x y wj wi e f g h, R[0]? = some x ∧ R[R.length - 1]? = some y ∧ W[j]? = some wj ∧ W[i - 1]? = some wi ∧ ts[x]? = some e ∧ ts[y]? = some f ∧ ts[wj]? = some g ∧ ts[wi]? = some h ∧ e.1 = g.1 ∧ f.2 = h.2
  nj : ∀ w, W[j]? = some w → w ∉ R
  ni : ∀ w, W[i - 1]? = some w → w ∉ R
def RoadOk (ts : List (Nat × Nat)) (W : List Nat) (t : Option (Option Int × Option Int × Option (List (Option Int)))) : Prop := ∃ i j R, t = some (some ((i : Nat) : Int), some ((j : Nat) : Int), some (nz R)) ∧ RoadAt ts W i j R
abbrev two (a b : Nat) : PyData := .tuple [.int (a : Int), .int (b : Int)]
theorem dp_two {K : PySem.W.Frag} {H : Hp} {p : Addr} {a b : Nat} (h : H p = some (.tup [.int (a : Int), .int (b : Int)])) : Dp K H (.ref p) (two a b) := .tup (SqT.of h) (.cons (.int _) (.cons (.int _) .nil))
theorem shaped_two (a b : Nat) : SeqAt.shaped (two a b) = true := by
  unfold SeqAt.shaped
  simp [PyData.canLay0, PyData.canLayAll0, PyData.depth, PyData.depthAll]
theorem eqv_twos (a b c d : Nat) : PyData.eqv (two a b) (two c d) = decide (a = c ∧ b = d) := by
  show (((a : Int) == (c : Int)) && (((b : Int) == (d : Int)) && true)) = _
  rw [Bool.eq_iff_iff]
  simp only [Bool.and_eq_true, beq_iff_eq, decide_eq_true_iff, and_true]
  omega
theorem btwO_yes {a b : Int} {o : Option Int} (h : btwO a b o = true) : ∃ n, o = some n ∧ a ≤ n ∧ n ≤ b := by
  cases o with
  | none => cases h
  | some n =>
    have h1 : (decide (a ≤ n) && decide (n ≤ b)) = true := h
    rw [Bool.and_eq_true, decide_eq_true_iff, decide_eq_true_iff] at h1
    exact ⟨n, rfl, h1.1, h1.2⟩
theorem btwO_of {a b n : Int} (h1 : a ≤ n) (h2 : n ≤ b) : btwO a b (some n) = true := btw h1 h2
section
variable {P : Program} {w : World} {K : PySem.W.Frag} {mg : Str → Option Value} {base : Heap} {C : Addr}
def spneed_close (_ : PySem.W.Frag) (C : Addr) : Sp := fun vs H Q _ => ∃ a N ts, vs = [.ref a] ∧ WebAt C a N ts H ∧ OkWeb N ts ∧ closedB N ts = true ∧ ∀ H', Same H H' → Q .non H'
theorem okneed_close (D : Def K mg "need_close" sneed_close ["web"]) (B : Bs mg) (Glb : Glo mg) (WK : WebK K mg C)
    (his_close : Good P w K mg base "is_close" sis_close ["web"] 5 (spis_close K C)) :
    Good P w K mg base "need_close" sneed_close ["web"] 6 (spneed_close K C) := by
  refine D.good fun f fd F => ?_
  obtain ⟨fis_close, dis_close, Ois_close, mis_close, kis_close, bis_close, Fis_close⟩ := his_close
  refine F.ok scneed_close (fun vs H Q E h => ?_) (fun cdv A outer s H vs Q E hr h => ?_)
  · obtain ⟨a, N, ts, rfl, hw, ho, hcl, q⟩ := h
    first | rfl | (rcases h with ⟨_, _, rfl, _⟩ | ⟨_, rfl, _⟩ <;> rfl)
  obtain ⟨a, N, ts, rfl, hw, ho, hcl, q⟩ := h
  refine ⟨_, (pss_one (ps_if (pt_not (pt_val (pe_call Ois_close hr rfl mis_close kis_close bis_close .nil pass0 (pa_cons (pv 0) pa_nil))))
    (pss_one ps_never) pss_nil)), ?_⟩
  refine ⟨_, rfl, a, N, ts, rfl, hw, ho, fun H1 hS1 => ⟨_, rfl, ?_⟩⟩
  rw [hcl]
  exact iteF (q H1 hS1)
def spneed_walk_of_close (_ : PySem.W.Frag) (C : Addr) : Sp := fun vs H Q _ => ∃ a N ts s W, vs = [.ref a, .ref s] ∧ WebAt C a N ts H ∧ OkWeb N ts ∧ closedB N ts = true ∧ SeqAt H s W ∧ Chain ts W ∧ W.length ≤ 400 ∧ ∀ H', Same H H' → Q .non H'
theorem okneed_walk_of_close (D : Def K mg "need_walk_of_close" sneed_walk_of_close ["web", "walk"]) (B : Bs mg) (Glb : Glo mg) (WK : WebK K mg C)
    (hneed_web : Good P w K mg base "need_web" sneed_web ["web"] 3 (spneed_web K C))
    (hneed_walk : Good P w K mg base "need_walk" sneed_walk ["web", "walk"] 7 (spneed_walk K C))
    (hneed_close : Good P w K mg base "need_close" sneed_close ["web"] 6 (spneed_close K C)) :
    Good P w K mg base "need_walk_of_close" sneed_walk_of_close ["web", "walk"] 8 (spneed_walk_of_close K C) := by
  refine D.good fun f fd F => ?_
  obtain ⟨fneed_web, dneed_web, Oneed_web, mneed_web, kneed_web, bneed_web, Fneed_web⟩ := hneed_web
  obtain ⟨fneed_walk, dneed_walk, Oneed_walk, mneed_walk, kneed_walk, bneed_walk, Fneed_walk⟩ := hneed_walk
  obtain ⟨fneed_close, dneed_close, Oneed_close, mneed_close, kneed_close, bneed_close, Fneed_close⟩ := hneed_close
  refine F.ok scneed_walk_of_close (fun vs H Q E h => ?_) (fun cdv A outer s H vs Q E hr h => ?_)
  · obtain ⟨a, N, ts, s, W, rfl, hw, ho, hcl, hs, hW, hl, q⟩ := h
    first | rfl | (rcases h with ⟨_, _, rfl, _⟩ | ⟨_, rfl, _⟩ <;> rfl)
  obtain ⟨a, N, ts, s, W, rfl, hw, ho, hcl, hs, hW, hl, q⟩ := h
  refine ⟨_, (pss_cons (ps_expr (pe_call Oneed_web (hr.mono (by decide)) rfl mneed_web kneed_web bneed_web .nil pass0 (pa_cons (pv 0) pa_nil)))
  (pss_cons (ps_expr (pe_call Oneed_walk hr rfl mneed_walk kneed_walk bneed_walk .nil pass0 (pa_cons (pv 0) (pa_cons (pv 1) pa_nil))))
  (pss_one (ps_expr (pe_call Oneed_close (hr.mono (by decide)) rfl mneed_close kneed_close bneed_close .nil pass0 (pa_cons (pv 0) pa_nil)))))), ?_⟩
  refine ⟨_, rfl, a, N, ts, rfl, hw, _, rfl, _, rfl, a, N, ts, s, W, rfl, hw, hs, hW, hl, fun H1 hS1 => ?_⟩
  exact ⟨_, rfl, a, N, ts, rfl, hw.same hS1, ho, hcl, fun H2 hS2 => q H2 (hS1.trans hS2)⟩
end
end My
namespace My
open PySem L2 PyProof.Rows
theorem len_sub {α : Type} [DecidableEq α] : ∀ {A B : List α}, A.Nodup → (∀ x ∈ A, x ∈ B) → A.length ≤ B.length
  | [], _, _, _ => Nat.zero_le _
  | a :: r, B, hn, h => by
    obtain ⟨h1, h2⟩ := List.nodup_cons.mp hn
    have ha := h a List.mem_cons_self
    have := len_sub (B := B.erase a) h2 fun x hx => (List.mem_erase_of_ne (fun z => h1 (by rw [← z]; exact hx))).mpr (h x (List.mem_cons_of_mem _ hx))
    rw [List.length_erase_of_mem ha] at this
    have := List.length_pos_of_mem ha
    rw [List.length_cons]
    omega
theorem parts_one {E : Nat → Nat → Prop} {N : Nat} (h0 : 0 < N) : (partsL E N).length = 1 ↔ ∀ b, b < N → ∀ x, x < N → Rch E b x := by
  unfold partsL
  rw [List.length_map]
  constructor
  · intro h b hb x hx
    obtain ⟨p, hp⟩ := List.length_eq_one_iff.mp h
    obtain ⟨p1, m1, e1⟩ := head_of (E := E) hb
    obtain ⟨p2, m2, e2⟩ := head_of (E := E) hx
    rw [hp] at m1 m2
    rw [List.mem_singleton.mp m1] at e1
    rw [List.mem_singleton.mp m2] at e2
    exact rch_trans e1.1 e2.2
  · intro h
    have z0 : 0 ∈ headsL E N := headsL_mem.mpr ⟨h0, fun x hx => absurd hx (Nat.not_lt_zero x)⟩
    have all : ∀ p ∈ headsL E N, p ∈ [0] := fun p hp => by
      obtain ⟨p1, p2⟩ := headsL_mem.mp hp
      cases p with
      | zero => exact List.mem_singleton.mpr rfl
      | succ p => exact absurd ⟨h _ p1 0 h0, h 0 h0 _ p1⟩ (p2 0 (Nat.succ_pos p))
    have l1 := len_sub (headsL_rising.imp (fun {a b} (z : a < b) (e : a = b) => by omega)) all
    have l2 := List.length_pos_of_mem z0
    rw [List.length_singleton] at l1
    omega
/-- a ring through all places -/
def Ringed (N : Nat) (ts : List (Nat × Nat)) : Prop := ∀ p, p < N → (p, (p + 1) % N) ∈ ts
theorem ringed_rch {N : Nat} {ts : List (Nat × Nat)} (h : Ringed N ts) {b : Nat} (hb : b < N) : ∀ k, Rch (Ed ts) b ((b + k) % N)
  | 0 => by
    rw [Nat.add_zero, Nat.mod_eq_of_lt hb]
    exact rch_refl _
  | k + 1 => by
    have h1 := ringed_rch h hb k
    have h2 := h ((b + k) % N) (Nat.mod_lt _ (by omega))
    rw [Nat.mod_add_mod] at h2
    obtain ⟨j, hj⟩ := List.getElem?_of_mem h2
    exact rch_trans h1 (rch_one ⟨j, hj, by simp⟩)
theorem ringed_closed {N : Nat} {ts : List (Nat × Nat)} (h0 : 0 < N) (h : Ringed N ts) : closedB N ts = true := by
  have ht : 0 < ts.length := List.length_pos_of_mem (h 0 h0)
  unfold closedB
  rw [decide_eq_true ht, decide_eq_true ((parts_one h0).mpr fun b hb x hx => ?_)]
  · rfl
  · have := ringed_rch h hb (N - b + x)
    rw [show b + (N - b + x) = x + N by omega, Nat.add_mod_right, Nat.mod_eq_of_lt hx] at this
    exact this
section
variable {P : Program} {w : World} {K : PySem.W.Frag} {mg : Str → Option Value} {base : Heap} {C : Addr}
def sp_law_pot (K : PySem.W.Frag) (_ : Addr) : Sp := fun vs H Q _ => ∃ a, ∃ ns : List Int, vs = [.ref a, .int 0] ∧ SqL K H a (ns.map V.int) ∧ ∀ p H', PotAt H' p → Same H H' → H p = none → Q (.ref p) H'
theorem ok_law_pot (D : Def K mg "_law_pot" s_law_pot ["_law_script", "_law_k"]) (B : Bs mg) (Glb : Glo mg) (WK : WebK K mg C) :
    Good P w K mg base "_law_pot" s_law_pot ["_law_script", "_law_k"] 1 (sp_law_pot K C) := by
  refine D.good fun f fd F => ?_
  refine F.ok sc_law_pot (fun vs H Q E h => ?_) (fun cdv A outer s H vs Q E hr h => ?_)
  · obtain ⟨a, ns, rfl, hS, q⟩ := h
    first | rfl | (rcases h with ⟨_, _, rfl, _⟩ | ⟨_, rfl, _⟩ <;> rfl)
  obtain ⟨a, ns, rfl, hS, q⟩ := h
  refine ⟨_, (pss_cons (ps_set (i := 2) sc_law_pot.nd rfl (by first | exact Or.inl rfl | exact Or.inr rfl) (pe_ifExp (pt_cmpR op_lt (pv 1) (pe_callB call_len_seq (by rfl) B.len (by decide +kernel) (pa_cons (pv 0) pa_nil)) (nomark _)) (pe_callB call_abs (by rfl) B.abs (by decide +kernel) (pa_cons (pe_ix ix_list (pv 0) (pv 1) (fun _ _ => rfl)) pa_nil)) (pe_op op_add (pe_op op_mul pe_int (pv 1)) pe_int)))
  (pss_cons (ps_set (i := 3) sc_law_pot.nd rfl (by first | exact Or.inl rfl | exact Or.inr rfl) (pe_op op_add (pe_op op_mod (pe_callTy call_int1 (by rfl) B.int (by decide +kernel) (pa_cons (pe_op op_add (pe_op op_add (pe_op op_mul (pe_op op_mod (pe_callTy call_int1 (by rfl) B.int (by decide +kernel) (pa_cons (pv 2) pa_nil)) pe_int) pe_int) (pe_op op_mul pe_int (pv 1))) pe_int) pa_nil)) pe_int) pe_int))
  (pss_one (ps_ret (pe_lst (pa_cons (pe_callB (call_max2 rfl) (by rfl) B.max (by decide +kernel) (pa_cons pe_int (pa_cons (pe_op op_sub (pv 2) (pe_op op_pow pe_int pe_int)) pa_nil))) (pa_cons (pv 3) pa_nil))))))), ?_⟩
  refine ⟨_, rfl, _, rfl, _, _, rfl, .inl hS, _, _, rfl, rfl, _, rfl, ?_⟩
  refine ite2 (fun c1 => ?pos) (fun c1 => ?neg)
  case' pos =>
    obtain ⟨n, rest, rfl⟩ : ∃ n rest, ns = n :: rest := by
      cases ns with
      | nil => exact absurd (of_decide_eq_true c1) (by decide)
      | cons n rest => exact ⟨n, rest, rfl⟩
    refine ⟨_, rfl, _, rfl, _, _, _, .int n, rfl, rfl, hS, atI_nat (j := 0) rfl, _, rfl, ?_⟩
    have hz0 : (0 : Int) ≤ (if n < 0 then -n else n) := by split <;> omega
  case' neg =>
    refine ⟨_, rfl, _, _, rfl, rfl, .inl ⟨by decide, by decide⟩, _, _, rfl, rfl, ?_⟩
    have hz0 : (0 : Int) ≤ (1033 * 0 + 733) := by decide
  all_goals
    refine ⟨_, rfl, .inl ⟨_, rfl, _, _, rfl, rfl, (by show (0 : Int) < 2147483549; decide), _, _, rfl, rfl, .inl ⟨?_, ?_⟩, _, rfl, _, _, rfl, rfl, .inl ⟨by decide, by decide⟩, _, _, rfl, rfl, _, _, rfl, rfl, .inl ⟨_, rfl, _, _, rfl, rfl, (by show (0 : Int) < 2147483563; decide), _, _, rfl, rfl, ?_⟩⟩⟩
    · omega
    · omega
    refine ⟨_, rfl, _, _, rfl, rfl, ⟨by decide, by decide, by decide⟩, _, _, rfl, rfl, _, _, rfl, _, rfl, (by show 2 ≤ sizeLine; decide), fun p np => q p _ ⟨_, _, upd_same, ?_, ?_, ?_⟩ (same_new np _) np⟩
    · split <;> omega
    · omega
    · omega
def sp_law_draw (_ : PySem.W.Frag) (_ : Addr) : Sp := fun vs H Q _ => ∃ a n, vs = [.ref a, .int ((n : Nat) : Int)] ∧ PotAt H a ∧ 0 < n ∧ n ≤ 1000 ∧ ∀ (d : Nat) H', d < n → Kept a H H' → PotAt H' a → Q (.int (d : Int)) H'
theorem ok_law_draw (D : Def K mg "_law_draw" s_law_draw ["_law_pot_here", "_law_sides"]) (B : Bs mg) (Glb : Glo mg) (WK : WebK K mg C) :
    Good P w K mg base "_law_draw" s_law_draw ["_law_pot_here", "_law_sides"] 1 (sp_law_draw K C) := by
  refine D.good fun f fd F => ?_
  refine F.ok sc_law_draw (fun vs H Q E h => ?_) (fun cdv A outer s H vs Q E hr h => ?_)
  · obtain ⟨a, n, rfl, ⟨x, y, ha, hx, hy, hy2⟩, hn, hn2, q⟩ := h
    first | rfl | (rcases h with ⟨_, _, rfl, _⟩ | ⟨_, rfl, _⟩ <;> rfl)
  obtain ⟨a, n, rfl, ⟨x, y, ha, hx, hy, hy2⟩, hn, hn2, q⟩ := h
  refine ⟨_, (pss_cons (ps_if (pt_cmpR op_gt (pe_ix ix_list (pv 0) pe_int (fun _ _ => rfl)) pe_int (nomark _))
    (pss_cons (ps_asg (pe_callB call_divmod (by rfl) B.divmod (by decide +kernel) (pa_cons (pe_ix ix_list (pv 0) pe_int (fun _ _ => rfl)) (pa_cons (pv 1) pa_nil))) (pg_tup rfl (pgs_cons (pg_sub (pv 0) pe_int set_list) (pgs_cons (pg_name (i := 2) sc_law_draw.nd rfl (by first | exact Or.inl rfl | exact Or.inr rfl)) pgs_nil))))
  (pss_one (ps_ret (pv 2)))) pss_nil)
  (pss_cons (ps_asg (pe_op op_mod (pe_callTy call_int1 (by rfl) B.int (by decide +kernel) (pa_cons (pe_op op_add (pe_op op_mul (pe_ix ix_list (pv 0) pe_int (fun _ _ => rfl)) pe_int) pe_int) pa_nil)) pe_int) (pg_sub (pv 0) pe_int set_list))
  (pss_one (ps_ret (pe_op op_mod (pe_callTy call_int1 (by rfl) B.int (by decide +kernel) (pa_cons (pe_op op_fdiv (pe_op op_mod (pe_callTy call_int1 (by rfl) B.int (by decide +kernel) (pa_cons (pe_op op_mul (pe_ix ix_list (pv 0) pe_int (fun _ _ => rfl)) (pe_ix ix_list (pv 0) pe_int (fun _ _ => rfl))) pa_nil)) pe_int) pe_int) pa_nil)) (pv 1)))))), ?_⟩
  refine ⟨_, rfl, _, _, _, .int x, rfl, rfl, SqL.of ha, rfl, _, _, rfl, rfl, _, rfl, ?_⟩
  refine ite2 (fun c1 => ?_) (fun c1 => ?_)
  · have hpos : (0 : Int) < x := of_decide_eq_true c1
    refine ⟨_, rfl, _, _, _, .int x, rfl, rfl, SqL.of ha, rfl, _, rfl, _, _, rfl, ⟨by omega, by omega⟩, fun p np => ?_⟩
    have hpa : a ≠ p := ne_of_none ha np
    have ha' : (upd H p (.tup [.int (x / (n : Int)), .int (x % (n : Int))])) a = some (.lst [.int x, .int y]) := by
      rw [upd_ne hpa]
      exact ha
    have ed : (((x % (n : Int)).toNat : Nat) : Int) = x % (n : Int) := Int.toNat_of_nonneg (Int.emod_nonneg _ (by omega))
    have el := Int.emod_lt_of_pos x (show (0 : Int) < (n : Int) by omega)
    refine ⟨_, _, rfl, SqT.of upd_same, rfl, _, _, rfl, _, rfl, _, _, _, 0, rfl, rfl, ha', rfl, _, _, rfl, rfl, ?_⟩
    refine ⟨_, rfl, ?_⟩
    have := q (x % (n : Int)).toNat (upd (upd H p (.tup [.int (x / (n : Int)), .int (x % (n : Int))])) a (.lst [.int (x / (n : Int)), .int y])) (by omega) (fun b o e nb => by rw [upd_ne nb, upd_ne (ne_of_none e np)]; exact e)
      ⟨_, _, upd_same, Int.ediv_nonneg hx (by omega), hy, hy2⟩
    rw [ed] at this
    exact this
  · refine ⟨_, rfl, _, _, _, .int y, rfl, rfl, SqL.of ha, rfl, _, _, rfl, rfl, .inl ⟨by omega, by omega⟩, _, _, rfl, rfl, .inl ⟨_, rfl, _, _, rfl, rfl, (by show (0 : Int) < 2147483563; decide), _, rfl, _, _, _, 1, rfl, rfl, ha, rfl, ?_⟩⟩
    have hz0 : (0 : Int) ≤ (y * 40693 + 30047) % 2147483563 := by omega
    have hz1 : (y * 40693 + 30047) % 2147483563 < (2147483563 : Int) := by omega
    refine ⟨_, rfl, _, _, _, .int ((y * 40693 + 30047) % 2147483563), rfl, rfl, SqL.of upd_same, rfl, _, rfl, _, _, _, .int ((y * 40693 + 30047) % 2147483563), rfl, rfl, SqL.of upd_same, rfl, _, _, rfl, rfl, .inl ⟨by omega, by omega⟩, .inl ⟨_, rfl, _, _, rfl, rfl, (by show (0 : Int) < 2147483549; decide), _, _, rfl, rfl, ⟨by decide, by decide⟩, .inl ⟨_, rfl, _, rfl, _, _, rfl, rfl, (by show (0 : Int) < (n : Int); omega), ?_⟩⟩⟩
    have fin : ∀ z : Int, 0 ≤ z → z < 2147483563 → Q (V.int (z * z % 2147483549 / 23 % (n : Int))) (upd H a (.lst [.int x, .int z])) := fun z hz0 hz1 => by
      have ed : (((z * z % 2147483549 / 23 % (n : Int)).toNat : Nat) : Int) = z * z % 2147483549 / 23 % (n : Int) := Int.toNat_of_nonneg (Int.emod_nonneg _ (by omega))
      have el := Int.emod_lt_of_pos (z * z % 2147483549 / 23) (show (0 : Int) < (n : Int) by omega)
      have := q (z * z % 2147483549 / 23 % (n : Int)).toNat (upd H a (.lst [.int x, .int z])) (by omega) (fun b o e nb => by rw [upd_ne nb]; exact e) ⟨_, _, upd_same, hx, hz0, by omega⟩
      rw [ed] at this
      exact this
    exact fin _ hz0 hz1
def sp_law_pick (_ : PySem.W.Frag) (_ : Addr) : Sp := fun vs H Q _ => ∃ a l, ∃ xs : List V, vs = [.ref a, .ref l] ∧ H l = some (.lst xs) ∧ l ≠ a ∧ 0 < xs.length ∧ xs.length ≤ 1000 ∧ PotAt H a ∧ ∀ v H', v ∈ xs → Kept a H H' → PotAt H' a → Q v H'
theorem ok_law_pick (D : Def K mg "_law_pick" s_law_pick ["_law_pot_here", "_law_some"]) (B : Bs mg) (Glb : Glo mg) (WK : WebK K mg C)
    (h_law_draw : Good P w K mg base "_law_draw" s_law_draw ["_law_pot_here", "_law_sides"] 1 (sp_law_draw K C)) :
    Good P w K mg base "_law_pick" s_law_pick ["_law_pot_here", "_law_some"] 2 (sp_law_pick K C) := by
  refine D.good fun f fd F => ?_
  obtain ⟨f_law_draw, d_law_draw, O_law_draw, m_law_draw, k_law_draw, b_law_draw, F_law_draw⟩ := h_law_draw
  refine F.ok sc_law_pick (fun vs H Q E h => ?_) (fun cdv A outer s H vs Q E hr h => ?_)
  · obtain ⟨a, l, xs, rfl, hl, hla, h0, hlen, hp, q⟩ := h
    first | rfl | (rcases h with ⟨_, _, rfl, _⟩ | ⟨_, rfl, _⟩ <;> rfl)
  obtain ⟨a, l, xs, rfl, hl, hla, h0, hlen, hp, q⟩ := h
  refine ⟨_, (pss_one (ps_ret (pe_ix ix_list (pv 1) (pe_call O_law_draw hr rfl m_law_draw k_law_draw b_law_draw .nil pass0 (pa_cons (pv 0) (pa_cons (pe_callB call_len_seq (by rfl) B.len (by decide +kernel) (pa_cons (pv 1) pa_nil)) pa_nil))) (fun _ _ => rfl)))), ?_⟩
  refine ⟨_, rfl, _, rfl, _, rfl, l, _, rfl, .inl (SqL.of hl), a, xs.length, rfl, hp, h0, hlen, fun d H' hd hk hp' => ?_⟩
  exact ⟨_, _, _, _, rfl, rfl, SqL.of (hk l _ hl hla), atI_nat (List.getElem?_eq_getElem hd), q _ H' (List.getElem_mem hd) hk hp'⟩
end
end My
namespace My
open PySem L2 PyProof.Rows
theorem cutV_to {xs : List V} {k : Nat} : cutV xs none (some (k : Int)) = xs.take k := by
  unfold cutV
  rw [HT.sIx_none, HT.sIx_nat]
  show (xs.drop 0).take _ = _
  rw [List.drop_zero]
  by_cases h : k ≤ xs.length
  · rw [Nat.min_eq_left h]; rfl
  · rw [Nat.min_eq_right (by omega), List.take_of_length_le (by omega), List.take_of_length_le (by omega)]
theorem cutV_from {xs : List V} {k : Nat} : cutV xs (some (k : Int)) none = xs.drop k := by
  unfold cutV
  rw [HT.sIx_none, HT.sIx_nat]
  by_cases h : k ≤ xs.length
  · rw [Nat.min_eq_left h, List.take_of_length_le (by rw [List.length_drop]; omega)]
  · rw [Nat.min_eq_right (by omega), List.drop_of_length_le (by omega), List.drop_of_length_le (by omega)]
    simp
theorem TiesAt.take {H : Hp} {l : Addr} {ts : List (Nat × Nat)} {k : Nat} {xs : List V} (h : TiesAt H l ts) (hx : H l = some (.lst xs)) {p : Addr} (hp : H p = some (.lst (xs.take k))) : TiesAt H p (ts.take k) := by
  obtain ⟨tas, h1, h2⟩ := h
  rw [hx] at h1
  cases h1
  refine ⟨tas.take k, by rw [hp, List.map_take], ?_⟩
  clear hx hp
  induction h2 generalizing k with
  | nil => simp; exact .nil
  | cons r t ih =>
    cases k with
    | zero => exact .nil
    | succ k => exact .cons r ih
theorem TiesAt.drop {H : Hp} {l : Addr} {ts : List (Nat × Nat)} {k : Nat} {xs : List V} (h : TiesAt H l ts) (hx : H l = some (.lst xs)) {p : Addr} (hp : H p = some (.lst (xs.drop k))) : TiesAt H p (ts.drop k) := by
  obtain ⟨tas, h1, h2⟩ := h
  rw [hx] at h1
  cases h1
  refine ⟨tas.drop k, by rw [hp, List.map_drop], ?_⟩
  clear hx hp
  induction h2 generalizing k with
  | nil => simp; exact .nil
  | cons r t ih =>
    cases k with
    | zero => exact .cons r t
    | succ k => exact ih
theorem TiesAt.app {H : Hp} {l m p : Addr} {ts us : List (Nat × Nat)} {xs zs : List V} (h : TiesAt H l ts) (k : TiesAt H m us) (hx : H l = some (.lst xs)) (hz : H m = some (.lst zs)) (hp : H p = some (.lst (xs ++ zs))) : TiesAt H p (ts ++ us) := by
  obtain ⟨tas, h1, h2⟩ := h
  obtain ⟨uas, k1, k2⟩ := k
  rw [hx] at h1
  rw [hz] at k1
  cases h1
  cases k1
  exact ⟨tas ++ uas, by rw [hp, List.map_append], paired_apps h2 k2⟩
abbrev ringN (N n : Nat) : List (Nat × Nat) := (List.range n).map fun p => (p, (p + 1) % N)
theorem ringN_succ (N n : Nat) : ringN N (n + 1) = ringN N n ++ [(n, (n + 1) % N)] := by
  unfold ringN
  rw [List.range_succ, List.map_append]
  rfl
theorem sml1000 {n : Nat} (h : n ≤ 1000) : n < sizeLine := Nat.lt_of_le_of_lt h (by decide)
theorem erase_perm {α : Type} : ∀ {L : List α} {d : Nat} {x : α}, L[d]? = some x → (x :: L.eraseIdx d).Perm L
  | [], _, _, h => by simp at h
  | y :: r, 0, x, h => by
    have : y = x := by simpa using h
    subst this
    exact List.Perm.refl _
  | y :: r, d + 1, x, h => by
    have ih := erase_perm (L := r) (d := d) (x := x) (by simpa using h)
    exact (List.Perm.swap y x _).trans (ih.cons y)
theorem paired_erase {α β : Type} {F : α → β → Prop} : ∀ {l1 : List α} {l2 : List β} (k : Nat), Paired F l1 l2 → Paired F (l1.eraseIdx k) (l2.eraseIdx k)
  | _, _, _, .nil => .nil
  | _, _, 0, .cons _ t => t
  | _, _, k + 1, .cons r t => .cons r (paired_erase k t)
theorem map_erase {α β : Type} (f : α → β) : ∀ (L : List α) (d : Nat), (L.map f).eraseIdx d = (L.eraseIdx d).map f
  | [], _ => rfl
  | _ :: _, 0 => rfl
  | x :: r, d + 1 => congrArg (List.cons _) (map_erase f r d)
theorem TiesAt.popAt {H : Hp} {l : Addr} {ts : List (Nat × Nat)} {k : Nat} {xs : List V} {e : Nat × Nat} (h : TiesAt H l ts) (hx : H l = some (.lst xs)) (he : ts[k]? = some e) : ∃ p, xs[k]? = some (.ref p) ∧ TupAt H p e ∧ TiesAt (upd H l (.lst (xs.eraseIdx k))) l (ts.eraseIdx k) := by
  obtain ⟨tas, h1, h2⟩ := h
  rw [hx] at h1
  cases h1
  have hlt : k < tas.length := by rw [paired_len h2]; exact (List.getElem?_eq_some_iff.mp he).1
  obtain ⟨e', he', hp⟩ := paired_get h2 (List.getElem?_eq_getElem hlt)
  rw [he] at he'
  cases he'
  refine ⟨tas[k], by rw [List.getElem?_map, List.getElem?_eq_getElem hlt]; rfl, hp, tas.eraseIdx k, by rw [upd_same, map_erase], paired_erase k (paired_mono (fun q f hq => ?_) h2)⟩
  show upd _ _ _ q = _
  rw [upd_ne (ne_of hq hx (by intro z; cases z))]
  exact hq
theorem TiesAt.pushRef {H : Hp} {l p : Addr} {ts : List (Nat × Nat)} {xs : List V} {e : Nat × Nat} (h : TiesAt H l ts) (hx : H l = some (.lst xs)) (hp : TupAt H p e) : TiesAt (upd H l (.lst (xs ++ [.ref p]))) l (ts ++ [e]) := by
  obtain ⟨tas, h1, h2⟩ := h
  rw [hx] at h1
  cases h1
  have key : ∀ (q : Addr) (f : Nat × Nat), TupAt H q f → TupAt (upd H l (.lst (tas.map V.ref ++ [.ref p]))) q f := fun q f hq => by
    show upd _ _ _ q = _
    rw [upd_ne (ne_of hq hx (by intro z; cases z))]
    exact hq
  exact ⟨tas ++ [p], by rw [upd_same, List.map_append]; rfl, paired_app (paired_mono key h2) (key _ _ hp)⟩
theorem TiesAt.side {H : Hp} {l m : Addr} {ts : List (Nat × Nat)} {xs : List V} (h : TiesAt H l ts) (hm : m ≠ l) (hmx : H m = some (.lst xs)) {ys : List V} : TiesAt (upd H m (.lst ys)) l ts := by
  obtain ⟨tas, h1, h2⟩ := h
  refine ⟨tas, by rw [upd_ne hm.symm]; exact h1, paired_mono (fun q f hq => ?_) h2⟩
  show upd _ _ _ q = _
  rw [upd_ne (ne_of hq hmx (by intro z; cases z))]
  exact hq
theorem sIx_lt {k n : Nat} (h : k < n) : seqIndex? (k : Int) n = some k := by
  refine (ixN_seq ?_).1
  unfold ixN
  rw [if_pos (by omega), if_pos (by omega)]
  rfl
section
variable {P : Program} {w : World} {K : PySem.W.Frag} {mg : Str → Option Value} {base : Heap} {C : Addr}
def sp_law_ties (_ : PySem.W.Frag) (_ : Addr) : Sp := fun vs H Q _ => ∃ a N m, vs = [.ref a, .int ((N : Nat) : Int), .int ((m : Nat) : Int)] ∧ PotAt H a ∧ 0 < N ∧ N ≤ 10 ∧ m ≤ 10 ∧ ∀ l ts H', Kept a H H' → PotAt H' a → H l = none → l ≠ a → TiesAt H' l ts → OkWeb N ts → Ringed N ts → ts.length = N + m → Q (.ref l) H'
theorem ok_law_ties (D : Def K mg "_law_ties" s_law_ties ["_law_pot_here", "_law_places", "_law_more"]) (B : Bs mg) (Glb : Glo mg) (WK : WebK K mg C)
    (h_law_draw : Good P w K mg base "_law_draw" s_law_draw ["_law_pot_here", "_law_sides"] 1 (sp_law_draw K C)) :
    Good P w K mg base "_law_ties" s_law_ties ["_law_pot_here", "_law_places", "_law_more"] 2 (sp_law_ties K C) := by
  refine D.good fun f fd F => ?_
  obtain ⟨f_law_draw, d_law_draw, O_law_draw, m_law_draw, k_law_draw, b_law_draw, F_law_draw⟩ := h_law_draw
  refine F.ok sc_law_ties (fun vs H Q E h => ?_) (fun cdv A outer s H vs Q E hr h => ?_)
  · obtain ⟨a, N, m, rfl, hp, hN0, hN4, hm, q⟩ := h
    first | rfl | (rcases h with ⟨_, _, rfl, _⟩ | ⟨_, rfl, _⟩ <;> rfl)
  obtain ⟨a, N, m, rfl, hp, hN0, hN4, hm, q⟩ := h
  refine ⟨_, (pss_cons (ps_setLc (i := 3) (own := [("_law_place", 6)]) (g := gName 6) (by rfl) sc_law_ties.nd rfl rfl (sw_true rfl rfl rfl (by decide +kernel)) (pi_range1 (by rfl) B.range (pa_cons (pv 1) pa_nil)) (blkOk_by (own := [("_law_place", 6)]) (N := ["_law_pot_here", "_law_places", "_law_more", "_law_ties_here", "_law_turn", "_law_found", "_law_place"]) (sc := defScope s_law_ties) (by decide +kernel)) (fun _ _ _ _ _ => (pg_name (i := 6) sc_law_ties.nd rfl (by first | exact Or.inl rfl | exact Or.inr rfl))) (fun _ _ _ _ _ => pts_nil) (fun _ _ _ _ _ => (pe_tup (pa_cons (pv 6) (pa_cons (pe_op op_mod (pe_op op_add (pv 6) pe_int) (pv 1)) pa_nil)))))
  (pss_cons (ps_for PassesOwn.never rfl (pi_range1 (by rfl) B.range (pa_cons (pv 2) pa_nil)) (pg_name (i := 4) sc_law_ties.nd rfl (by first | exact Or.inl rfl | exact Or.inr rfl))
    (pss_one (ps_expr (pe_bm PySem.F.plainAttrs_list PySem.F.slot_list_append PySem.F.type_list_append mt_append (pv 3) (pa_cons (pe_tup (pa_cons (pe_call O_law_draw hr rfl m_law_draw k_law_draw b_law_draw .nil pass0 (pa_cons (pv 0) (pa_cons (pv 1) pa_nil))) (pa_cons (pe_call O_law_draw hr rfl m_law_draw k_law_draw b_law_draw .nil pass0 (pa_cons (pv 0) (pa_cons (pv 1) pa_nil))) pa_nil))) pa_nil)))))
  (pss_cons (ps_set (i := 5) sc_law_ties.nd rfl (by first | exact Or.inl rfl | exact Or.inr rfl) (pe_lst pa_nil))
  (pss_cons (ps_while PassesOwn.never (pt_cmpR (op_neD hr.units) (pv 3) (pe_lst pa_nil) (nomark _))
    (pss_one (ps_expr (pe_bm PySem.F.plainAttrs_list PySem.F.slot_list_append PySem.F.type_list_append mt_append (pv 5) (pa_cons (pe_bm PySem.F.plainAttrs_list PySem.F.slot_list_pop PySem.F.type_list_pop mt_popAt (pv 3) (pa_cons (pe_call O_law_draw hr rfl m_law_draw k_law_draw b_law_draw .nil pass0 (pa_cons (pv 0) (pa_cons (pe_callB call_len_seq (by rfl) B.len (by decide +kernel) (pa_cons (pv 3) pa_nil)) pa_nil))) pa_nil)) pa_nil)))))
  (pss_one (ps_ret (pv 5))))))), ?_⟩
  refine ⟨_, rfl, _, rfl, by omega, by omega, fun D nD => ?_⟩
  rw [show ((N : Nat) : Int).toNat = N by omega]
  have hDa : D ≠ a := hp.ne nD
  refine lc_range (lo := 0) (n := N) (fun i H' => Same H H' ∧ TiesAt H' D (ringN N i)) ⟨same_new nD _, TiesAt.nil⟩ ?_ ?_
  · rintro i H2 hi ⟨hS2, hD2⟩
    rw [Int.zero_add]
    refine ⟨rfl, _, rfl, _, rfl, _, _, rfl, rfl, _, rfl, _, _, rfl, rfl, (by show (0 : Int) < (N : Int); omega), (by show 2 ≤ sizeLine; decide), fun tp ntp => ?_⟩
    obtain ⟨xs, g1, g2, g3⟩ := hD2.pushV (u := i) (v := (i + 1) % N) (x := .int (i : Int)) (y := .int (((i : Int) + 1) % (N : Int))) rfl (by rw [show (i : Int) + 1 = ((i + 1 : Nat) : Int) by omega]; rfl) ntp
    refine ⟨xs, g1, by rw [g2, ringN, List.length_map, List.length_range]; exact sml1000 (by omega), same_upd (hS2.trans (same_new ntp _)) nD, ?_⟩
    rw [ringN_succ]
    exact g3
  rintro H2 ⟨hS2, hD2⟩
  have hp2 := hp.same hS2
  have hk02 := Same.kept (a := a) hS2
  refine ⟨_, rfl, _, rfl, by omega, by omega, ?_⟩
  rw [show ((m : Nat) : Int).toNat = m by omega]
  refine for_range (lo := 0) (n := m) (fun i σ H' => ∃ (v4 : Option V) (ts : List (Nat × Nat)), σ = [some (.ref a), some (.int (N : Int)), some (.int (m : Int)), some (.ref D), v4, none, none] ∧ ts.length = N + i ∧ (∀ e ∈ ts, e.1 < N ∧ e.2 < N) ∧ Ringed N ts ∧ Kept a H H' ∧ PotAt H' a ∧ TiesAt H' D ts) ⟨none, ringN N N, rfl, by rw [ringN, List.length_map, List.length_range]; rfl, fun e he => ?_, fun p hp' => List.mem_map.mpr ⟨p, List.mem_range.mpr hp', rfl⟩, hk02, hp2, hD2⟩ ?_ ?_
  · obtain ⟨p, hp', rfl⟩ := List.mem_map.mp he
    exact ⟨List.mem_range.mp hp', Nat.mod_lt _ hN0⟩
  · rintro i σ H4 hi ⟨v4, ts, rfl, hlen, hts, hrg, hk4, hp4, hT4⟩
    refine ⟨_, rfl, ?_⟩
    obtain ⟨xs0, hxs0, _⟩ := hT4.get
    refine ⟨.inl ⟨rfl, _, SqL.of hxs0⟩, _, rfl, _, rfl, a, N, rfl, hp4, hN0, by omega, fun u H5 hu hk5 hp5 => ⟨_, rfl, _, rfl, a, N, rfl, hp5, hN0, by omega, fun x H6 hx hk6 hp6 => ⟨(by show 2 ≤ sizeLine; decide), fun tp ntp => ?_⟩⟩⟩
    have hT6 := (hT4.kept hk5 hp4 hDa).kept hk6 hp5 hDa
    obtain ⟨xs, g1, g2, g3⟩ := hT6.push (u := u) (v := x) ntp
    refine ⟨D, _, _, rfl, rfl, g1, by rw [g2, hlen]; exact sml1000 (by omega), ?_⟩
    refine ⟨_, ts ++ [(u, x)], rfl, by rw [List.length_append, hlen]; rfl, fun e he => ?_, fun p hp' => List.mem_append_left _ (hrg p hp'), (((hk4.trans hk5).trans hk6).new ntp).put nD, (hp6.new ntp).put hDa, g3⟩
    rcases List.mem_append.mp he with h | h
    · exact hts e h
    · rw [List.mem_singleton.mp h]; exact ⟨hu, hx⟩
  rintro σ H4 ⟨v4, ts0, rfl, hlen, hts, hrg, hk4, hp4, hT4⟩
  refine ⟨Nat.zero_le _, fun F nF => ?_⟩
  have hFa : F ≠ a := hp4.ne nF
  have nF0 : H F = none := hk4.free nF hFa
  have hDF : D ≠ F := by
    obtain ⟨xs, hx, _⟩ := hT4.get
    exact ne_of_none hx nF
  have hk5 := hk4.new (o := .lst []) nF
  have hp5 := hp4.new (o := .lst []) nF
  have hT5 := hT4.new (o := .lst []) nF
  have hF5 : TiesAt (upd H4 F (.lst [])) F [] := TiesAt.nil
  generalize upd H4 F (.lst []) = H5 at hk5 hp5 hT5 hF5
  let Pv : Nat → L2.St → Hp → Prop := fun m' σ H' => ∃ (lft fnd : List (Nat × Nat)), σ = [some (.ref a), some (.int (N : Int)), some (.int (m : Int)), some (.ref D), v4, some (.ref F), none] ∧ Kept a H H' ∧ PotAt H' a ∧ TiesAt H' D lft ∧ TiesAt H' F fnd ∧ (fnd ++ lft).Perm ts0 ∧ lft.length = m'
  refine ⟨Pv, ⟨_, ts0, [], rfl, hk5, hp5, hT5, hF5, by simp, rfl⟩, ?_⟩
  rintro m' σ H6 ⟨lft, fnd, rfl, hk6, hp6, hT6, hF6, hperm, hlen6⟩
  have hlt : (fnd ++ lft).length = N + m := by rw [hperm.length_eq, hlen]
  rw [List.length_append] at hlt
  refine ⟨_, rfl, (by decide), fun p0 np0 => ⟨_, _, dp_tz (hT6.new np0), dp_iz (L := []) upd_same, shaped_tz _, shaped_iz _, _, rfl, ?_⟩⟩
  rw [eqv_tz]
  have hk7 := hk6.new (o := .lst []) np0
  have hp7 := hp6.new (o := .lst []) np0
  have hT7 := hT6.new (o := .lst []) np0
  have hF7 := hF6.new (o := .lst []) np0
  generalize upd H6 p0 (.lst []) = H7 at hk7 hp7 hT7 hF7
  by_cases c : lft = []
  · subst c
    rw [List.append_nil] at hperm
    refine iteNot' rfl ⟨_, rfl, ?_⟩
    have hmem : ∀ e, e ∈ fnd ↔ e ∈ ts0 := fun e => hperm.mem_iff
    have hl2 := hperm.length_eq
    exact q F fnd H7 hk7 hp7 nF0 hFa hF7 ⟨hN0, by omega, by omega, fun e he => hts e ((hmem e).mp he)⟩ (fun p hp' => (hmem _).mpr (hrg p hp')) (by omega)
  · refine iteNot c ?_
    have hl0 : 0 < lft.length := List.length_pos_iff.mpr c
    refine ⟨fun σ' H' => ∃ m'', m'' < m' ∧ Pv m'' σ' H', fun σ' H' h => h, ?_⟩
    obtain ⟨fx0, hfx0, _⟩ := hF7.get
    obtain ⟨tx0, htx0, htl0⟩ := hT7.get
    refine ⟨_, rfl, .inl ⟨rfl, _, SqL.of hfx0⟩, _, rfl, .inl ⟨rfl, _, SqL.of htx0⟩, _, rfl, _, rfl, D, _, rfl, .inl (SqL.of htx0), a, tx0.length, rfl, hp7, by omega, by omega, fun d H8 hd hk8 hp8 => ?_⟩
    have hT8 := hT7.kept hk8 hp7 hDa
    have hF8 := hF7.kept hk8 hp7 hFa
    obtain ⟨tx, htx, htl⟩ := hT8.get
    obtain ⟨fx, hfx, hfl⟩ := hF8.get
    have ed : lft[d]? = some (lft[d]'(by omega)) := List.getElem?_eq_getElem _
    obtain ⟨p, k1, k2, k3⟩ := hT8.popAt htx ed
    refine ⟨D, tx, (d : Int), d, .ref p, rfl, rfl, htx, by omega, by omega, sIx_lt (by omega), k1, ?_⟩
    refine ⟨F, fx, _, rfl, rfl, by rw [upd_ne hDF.symm]; exact hfx, by rw [hfl]; exact sml1000 (by omega), ?_⟩
    have hF9 := (hF8.side (ys := tx.eraseIdx d) hDF htx).pushRef (by rw [upd_ne hDF.symm]; exact hfx) (p := p) (e := lft[d]'(by omega)) (by show upd _ _ _ p = _; rw [upd_ne (ne_of k2 htx (by intro z; cases z))]; exact k2)
    refine ⟨_, ?_, lft.eraseIdx d, fnd ++ [lft[d]'(by omega)], rfl, ((hk7.trans hk8).put nD).put nF0, (hp8.put hDa).put hFa, k3.side hDF.symm (by rw [upd_ne hDF.symm]; exact hfx), hF9, ?_, rfl⟩
    · rw [List.length_eraseIdx_of_lt (by omega)]
      omega
    · refine List.Perm.trans ?_ hperm
      rw [List.append_assoc]
      exact List.Perm.append_left _ (erase_perm ed)
end
end My
namespace My
open PySem L2 PyProof.Rows
theorem Chain.one {ts : List (Nat × Nat)} {x : Nat} (h : x < ts.length) : Chain ts [x] := ⟨by simp, fun y hy => by rw [List.mem_singleton.mp hy]; exact h, fun i hi => by simp at hi⟩
theorem Chain.last {ts : List (Nat × Nat)} {R : List Nat} (h : Chain ts R) : ∃ x e, R[R.length - 1]? = some x ∧ ts[x]? = some e := by
  have h0 := h.n0
  have e1 : R[R.length - 1]? = some (R[R.length - 1]'(by omega)) := List.getElem?_eq_getElem _
  have := h.num _ (List.mem_of_getElem? e1)
  exact ⟨_, _, e1, List.getElem?_eq_getElem this⟩
theorem Chain.first {ts : List (Nat × Nat)} {R : List Nat} (h : Chain ts R) : ∃ x e, R[0]? = some x ∧ ts[x]? = some e := by
  have h0 := h.n0
  have e1 : R[0]? = some (R[0]'(by omega)) := List.getElem?_eq_getElem _
  have := h.num _ (List.mem_of_getElem? e1)
  exact ⟨_, _, e1, List.getElem?_eq_getElem this⟩
theorem Chain.snoc {ts : List (Nat × Nat)} {R : List Nat} {x y : Nat} {e : Nat × Nat} (h : Chain ts R) (hx : R[R.length - 1]? = some x) (he : ts[x]? = some e) (hy : y ∈ frm ts e.2) : Chain ts (R ++ [y]) := by
  have h0 := h.n0
  obtain ⟨y1, y2⟩ := (frmN_mem ts e.2 y _).mp hy
  obtain ⟨g, hg⟩ : ∃ g, ts[y]? = some g := ⟨_, List.getElem?_eq_getElem y1⟩
  rw [hg] at y2
  have y3 : g.1 = e.2 := by simpa using y2
  refine ⟨by simp, fun z hz => ?_, fun i hi => ?_⟩
  · rcases List.mem_append.mp hz with hz | hz
    · exact h.num z hz
    · rw [List.mem_singleton.mp hz]; exact y1
  · rw [List.length_append, List.length_singleton] at hi
    by_cases c : i + 1 < R.length
    · obtain ⟨x', y', e', f', k1, k2, k3, k4, k5⟩ := h.on i c
      exact ⟨x', y', e', f', by rw [List.getElem?_append_left (by omega)]; exact k1, by rw [List.getElem?_append_left c]; exact k2, k3, k4, k5⟩
    · have ei : i = R.length - 1 := by omega
      subst ei
      refine ⟨x, y, e, g, by rw [List.getElem?_append_left (by omega)]; exact hx, ?_, he, hg, y3⟩
      rw [List.getElem?_append_right (by omega), show R.length - 1 + 1 - R.length = 0 by omega]
      rfl
theorem iv_mem {L : List Nat} {v : V} (h : v ∈ iv L) : ∃ y : Nat, y ∈ L ∧ v = .int (y : Int) := by
  obtain ⟨y, hy, rfl⟩ := List.mem_map.mp h
  exact ⟨y, hy, rfl⟩
theorem filter_nil {xs : List Nat} : (xs.filter fun x => decide (x ∉ ([] : List Nat))) = xs := List.filter_eq_self.mpr fun x _ => by simp
theorem ringed_frm {N : Nat} {ts : List (Nat × Nat)} (h : Ringed N ts) {p : Nat} (hp : p < N) : 0 < (frm ts p).length := by
  obtain ⟨j, hj⟩ := List.getElem?_of_mem (h p hp)
  exact List.length_pos_of_mem ((frmN_mem ts p j _).mpr ⟨(List.getElem?_eq_some_iff.mp hj).1, by rw [hj]; rfl⟩)
section
variable {P : Program} {w : World} {K : PySem.W.Frag} {mg : Str → Option Value} {base : Heap} {C : Addr}
def sp_law_walk (_ : PySem.W.Frag) (_ : Addr) : Sp := fun vs H Q _ => ∃ a l N ts m, vs = [.ref a, .ref l, .int ((m : Nat) : Int)] ∧ PotAt H a ∧ l ≠ a ∧ TiesAt H l ts ∧ OkWeb N ts ∧ Ringed N ts ∧ 0 < m ∧ m ≤ 50 ∧ ∀ f R H', Chain ts R → R.length = m → Kept a H H' → PotAt H' a → H f = none → f ≠ a → H' f = some (.lst (iv R)) → Q (.ref f) H'
theorem ok_law_walk (D : Def K mg "_law_walk" s_law_walk ["_law_pot_here", "_law_ties_here", "_law_many"]) (B : Bs mg) (Glb : Glo mg) (WK : WebK K mg C)
    (h_law_draw : Good P w K mg base "_law_draw" s_law_draw ["_law_pot_here", "_law_sides"] 1 (sp_law_draw K C))
    (h_law_pick : Good P w K mg base "_law_pick" s_law_pick ["_law_pot_here", "_law_some"] 2 (sp_law_pick K C)) :
    Good P w K mg base "_law_walk" s_law_walk ["_law_pot_here", "_law_ties_here", "_law_many"] 3 (sp_law_walk K C) := by
  refine D.good fun f fd F => ?_
  obtain ⟨f_law_draw, d_law_draw, O_law_draw, m_law_draw, k_law_draw, b_law_draw, F_law_draw⟩ := h_law_draw
  obtain ⟨f_law_pick, d_law_pick, O_law_pick, m_law_pick, k_law_pick, b_law_pick, F_law_pick⟩ := h_law_pick
  refine F.ok sc_law_walk (fun vs H Q E h => ?_) (fun cdv A outer s H vs Q E hr h => ?_)
  · obtain ⟨a, l, N, ts, m, rfl, hp, hla, hT, ho, hrg, hm0, hm, q⟩ := h
    first | rfl | (rcases h with ⟨_, _, rfl, _⟩ | ⟨_, rfl, _⟩ <;> rfl)
  obtain ⟨a, l, N, ts, m, rfl, hp, hla, hT, ho, hrg, hm0, hm, q⟩ := h
  refine ⟨_, (pss_cons (ps_set (i := 3) sc_law_walk.nd rfl (by first | exact Or.inl rfl | exact Or.inr rfl) (pe_lst (pa_cons (pe_call O_law_draw (hr.mono (by decide)) rfl m_law_draw k_law_draw b_law_draw .nil pass0 (pa_cons (pv 0) (pa_cons (pe_callB call_len_seq (by rfl) B.len (by decide +kernel) (pa_cons (pv 1) pa_nil)) pa_nil))) pa_nil)))
  (pss_cons (ps_for PassesOwn.never rfl (pi_range1 (by rfl) B.range (pa_cons (pe_op op_sub (pv 2) pe_int) pa_nil)) (pg_name (i := 4) sc_law_walk.nd rfl (by first | exact Or.inl rfl | exact Or.inr rfl))
    (pss_cons (ps_set (i := 5) sc_law_walk.nd rfl (by first | exact Or.inl rfl | exact Or.inr rfl) (pe_ix ix_tup (pe_ix ix_list (pv 1) (pe_ix ix_list (pv 3) (pe_un un_neg pe_int) (fun _ _ => rfl)) (fun _ _ => rfl)) pe_int (fun _ _ => rfl)))
  (pss_cons (ps_setLc (i := 6) (own := [("_law_tie", 7)]) (g := gName 7) (by rfl) sc_law_walk.nd rfl rfl (sw_true rfl rfl rfl (by decide +kernel)) (pi_range1 (by rfl) B.range (pa_cons (pe_callB call_len_seq (by rfl) B.len (by decide +kernel) (pa_cons (pv 1) pa_nil)) pa_nil)) (blkOk_by (own := [("_law_tie", 7)]) (N := ["_law_pot_here", "_law_ties_here", "_law_many", "_law_found", "_law_turn", "_law_here", "_law_some", "_law_tie"]) (sc := defScope s_law_walk) (by decide +kernel)) (fun _ _ _ _ _ => (pg_name (i := 7) sc_law_walk.nd rfl (by first | exact Or.inl rfl | exact Or.inr rfl))) (fun _ _ _ _ _ => (pts_one (pt_cmpR op_eq (pe_ix (ix_tupK (K := K) rfl) (pe_ix (ix_listK (K := K) rfl) (pv 1) (pv 7) (by exact fun _ _ => rfl)) pe_int (by exact fun _ _ => rfl)) (pv 5) (nomark _)))) (fun _ _ _ _ _ => (pv 7)))
  (pss_one (ps_expr (pe_bm PySem.F.plainAttrs_list PySem.F.slot_list_append PySem.F.type_list_append mt_append (pv 3) (pa_cons (pe_call O_law_pick hr rfl m_law_pick k_law_pick b_law_pick .nil pass0 (pa_cons (pv 0) (pa_cons (pv 6) pa_nil))) pa_nil)))))))
  (pss_one (ps_ret (pv 3))))), ?_⟩
  have htm := ho.m
  have hgm : 0 < ts.length := List.length_pos_of_mem (hrg 0 ho.n0)
  obtain ⟨xs0, hxs0, hxl0⟩ := hT.get
  refine ⟨_, rfl, _, rfl, l, _, rfl, .inl (SqL.of hxs0), a, xs0.length, rfl, hp, by omega, by omega, fun d H0 hd hk1 hp1 => ⟨(by show 1 ≤ sizeLine; decide), fun f nf => ?_⟩⟩
  have hfa : f ≠ a := hp1.ne nf
  have nfH : H f = none := hk1.free nf hfa
  have hkF := hk1.new (o := .lst [.int (d : Int)]) nf
  have hpF := hp1.new (o := .lst [.int (d : Int)]) nf
  have hfF : upd H0 f (.lst [.int (d : Int)]) f = some (.lst (iv [d])) := upd_same
  generalize upd H0 f (.lst [.int (d : Int)]) = HF at hkF hpF hfF
  refine ⟨_, rfl, _, _, rfl, rfl, _, rfl, by omega, by omega, ?_⟩
  rw [show ((m : Int) - 1).toNat = m - 1 by omega]
  refine for_range (lo := 0) (n := m - 1) (fun i σ H' => ∃ (R : List Nat) (v4 v5 v6 : Option V), σ = [some (.ref a), some (.ref l), some (.int (m : Int)), some (.ref f), v4, v5, v6, none] ∧ Chain ts R ∧ R.length = 1 + i ∧ Kept a H H' ∧ PotAt H' a ∧ H' f = some (.lst (iv R))) ⟨[d], none, none, none, rfl, Chain.one (by omega), rfl, hkF, hpF, hfF⟩ ?_ ?_
  · rintro i σ H2 hi ⟨R, v4, v5, v6, rfl, hc, hRm, hk3, hp3, hf3⟩
    obtain ⟨x0, e, e1', e2⟩ := hc.last
    have hT1 := hT.kept hk3 hp hla
    obtain ⟨xs, p0, k1, k2, k3⟩ := hT1.at_ e2
    refine ⟨_, rfl, _, rfl, _, rfl, _, _, _, .int (x0 : Int), rfl, rfl, SqL.of hf3, iv_back e1', _, _, _, .ref p0, rfl, rfl, SqL.of k1, k2, _, _, _, .int (e.2 : Int), rfl, rfl, SqT.of k3, rfl, ?_⟩
    obtain ⟨tas, g1, g2⟩ := id hT1
    have gl := paired_len g2
    refine ⟨_, rfl, l, _, rfl, .inl (SqL.of g1), _, rfl, by rw [List.length_map]; omega, by rw [List.length_map]; omega, fun D nD => ?_⟩
    have hDa : D ≠ a := hp3.ne nD
    rw [List.length_map, gl, show ((ts.length : Nat) : Int).toNat = ts.length by omega]
    refine lc_range (lo := 0) (n := ts.length) (fun j H' => Same H2 H' ∧ H' D = some (.lst (iv (frmN ts e.2 j)))) ⟨same_new nD _, upd_same⟩ ?_ ?_
    · rintro j H4 hj ⟨hS4, hD4⟩
      rw [Int.zero_add]
      obtain ⟨⟨u, v⟩, he'⟩ : ∃ e, ts[j]? = some e := ⟨_, List.getElem?_eq_getElem hj⟩
      obtain ⟨xs', p', k1', k2', k3'⟩ := (hT1.same hS4).at_ he'
      have hlf := frmN_len ts e.2 j
      refine ⟨rfl, _, rfl, _, rfl, _, _, _, .ref p', rfl, rfl, SqL.of k1', k2', _, _, _, .int (u : Int), rfl, rfl, SqT.of k3', rfl, _, rfl, rfl, _, rfl, ?_⟩
      by_cases c : u = e.2
      · have e3 : frmN ts e.2 (j + 1) = frmN ts e.2 j ++ [j] := if_pos (by rw [he', c]; rfl)
        refine iteYes (by rw [c]) ⟨_, rfl, _, hD4, by rw [List.length_map]; exact sml1000 (by omega), same_upd hS4 nD, ?_⟩
        rw [upd_same, e3, iv_app]
      · have e3 : frmN ts e.2 (j + 1) = frmN ts e.2 j := if_neg (by rw [he']; intro z; exact c (by simpa using z))
        refine iteNo (fun z => c (by have := int_eq.mp z; omega)) ⟨hS4, ?_⟩
        rw [e3]
        exact hD4
    rintro H4 ⟨hS5, hD4⟩
    have hf4 := hS5 _ _ hf3
    have hgf := ringed_frm hrg (ho.ok e (List.mem_of_getElem? e2)).2
    have hlf : (frm ts e.2).length ≤ ts.length := frmN_len ts e.2 ts.length
    refine ⟨_, rfl, .inl ⟨rfl, _, SqL.of hf4⟩, _, rfl, _, rfl, a, D, _, rfl, hD4, hDa, by rw [List.length_map]; exact hgf, by rw [List.length_map]; exact Nat.le_trans hlf (by omega), hp3.same hS5, fun v H6 hv hk6 hp6 => ?_⟩
    obtain ⟨y, hy, rfl⟩ := List.mem_map.mp hv
    have hf6 := hk6 _ _ hf4 hfa
    refine ⟨f, _, _, rfl, rfl, hf6, by rw [List.length_map]; exact Nat.lt_of_lt_of_le (by omega : R.length < 1000) (by decide), ?_⟩
    refine ⟨R ++ [y], _, _, _, rfl, hc.snoc e1' e2 hy, by rw [List.length_append, List.length_singleton]; omega, ((hk3.trans (Same.kept hS5)).trans hk6).put nfH, hp6.put hfa, ?_⟩
    rw [upd_same, iv_app]
  · rintro σ H2 ⟨R, v4, v5, v6, rfl, hc, hRm, hk3, hp3, hf3⟩
    exact ⟨_, rfl, q f R H2 hc (by omega) hk3 hp3 nfH hfa hf3⟩
end
end My
namespace My
open PySem L2 PyProof.Rows
theorem nums_nz {n : Nat} {W : List Nat} (h : ∀ x ∈ W, x < n) : NumS n (some (nz W)) = true := by
  show (nz W).all (inR n) = true
  rw [List.all_eq_true]
  intro o ho
  obtain ⟨x, hx, rfl⟩ := List.mem_map.mp ho
  exact inR_lt (h x hx)
section
variable {P : Program} {w : World} {K : PySem.W.Frag} {mg : Str → Option Value} {base : Heap} {C : Addr}
def spneed_place (_ : PySem.W.Frag) (C : Addr) : Sp := fun vs H Q _ => ∃ a N ts p, vs = [.ref a, .int ((p : Nat) : Int)] ∧ WebAt C a N ts H ∧ p < N ∧ Q .non H
theorem okneed_place (D : Def K mg "need_place" sneed_place ["web", "place"]) (B : Bs mg) (Glb : Glo mg) (WK : WebK K mg C)
    (his_below : Good P w K mg base "is_below" sis_below ["value", "limit"] 3 (spis_below K C))
    (hWeb_places : GoodP P w K mg base C "places" "Web.places" sWeb_places ["self"] 1 (spWeb_places K C)) :
    Good P w K mg base "need_place" sneed_place ["web", "place"] 4 (spneed_place K C) := by
  refine D.good fun f fd F => ?_
  obtain ⟨fis_below, dis_below, Ois_below, mis_below, kis_below, bis_below, Fis_below⟩ := his_below
  obtain ⟨qWeb_places, fWeb_places, dWeb_places, OWeb_places, pWeb_places, bWeb_places⟩ := hWeb_places
  refine F.ok scneed_place (fun vs H Q E h => ?_) (fun cdv A outer s H vs Q E hr h => ?_)
  · obtain ⟨a, N, ts, p, rfl, hw, hp, q⟩ := h
    first | rfl | (rcases h with ⟨_, _, rfl, _⟩ | ⟨_, rfl, _⟩ <;> rfl)
  obtain ⟨a, N, ts, p, rfl, hw, hp, q⟩ := h
  refine ⟨_, (pss_one (ps_if (pt_not (pt_val (pe_call Ois_below hr rfl mis_below kis_below bis_below .nil pass0 (pa_cons (pv 1) (pa_cons (pe_prop (pv 0) WK.cl pWeb_places OWeb_places (hr.mono (by decide)) bWeb_places .nil pass0 (by rfl)) pa_nil)))))
    (pss_one ps_never) pss_nil)), ?_⟩
  obtain ⟨dx, tl, fl, ol, h1, _⟩ := id hw
  exact ⟨_, rfl, _, rfl, a, dx, _, rfl, h1, a, N, ts, rfl, hw, _, some (p : Int), N, rfl, .int _, _, rfl, iteNb (inR_lt hp) q⟩
def spWeb_ties_from (_ : PySem.W.Frag) (C : Addr) : Sp := fun vs H Q _ => ∃ a N ts p, vs = [.ref a, .int ((p : Nat) : Int)] ∧ WebAt C a N ts H ∧ p < N ∧ ∀ H' l, H l = none → Same H H' → H' l = some (.lst (iv (frm ts p))) → Q (.ref l) H'
theorem okWeb_ties_from (D : DefM K C "ties_from" "Web.ties_from" sWeb_ties_from ["self", "place"]) (B : Bs mg) (Glb : Glo mg) (WK : WebK K mg C)
    (hneed_place : Good P w K mg base "need_place" sneed_place ["web", "place"] 4 (spneed_place K C)) :
    GoodM P w K mg base C "ties_from" "Web.ties_from" sWeb_ties_from ["self", "place"] 5 (spWeb_ties_from K C) := by
  refine D.good fun f fd F => ?_
  obtain ⟨fneed_place, dneed_place, Oneed_place, mneed_place, kneed_place, bneed_place, Fneed_place⟩ := hneed_place
  refine F.ok scWeb_ties_from (fun vs H Q E h => ?_) (fun cdv A outer s H vs Q E hr h => ?_)
  · obtain ⟨a, N, ts, p, rfl, hw, hp, q⟩ := h
    first | rfl | (rcases h with ⟨_, _, rfl, _⟩ | ⟨_, rfl, _⟩ <;> rfl)
  obtain ⟨a, N, ts, p, rfl, hw, hp, q⟩ := h
  refine ⟨_, (pss_cons (ps_expr (pe_call Oneed_place hr rfl mneed_place kneed_place bneed_place .nil pass0 (pa_cons (pv 0) (pa_cons (pv 1) pa_nil))))
  (pss_one (ps_ret (pe_callTy call_list_of (by rfl) B.list (by decide +kernel) (pa_cons (pe_ix ix_list (pe_fld (pv 0) rfl) (pv 1) (fun _ _ => rfl)) pa_nil))))), ?_⟩
  obtain ⟨dx, tl, fl, ol, h1, h2, h3, h4⟩ := id hw
  obtain ⟨x, xs, e1, e2, e3⟩ := h3.get hp
  exact ⟨_, rfl, _, rfl, a, N, ts, p, rfl, hw, hp, _, rfl, a, C, dx, _, _, rfl, h1, WK.cl, WK.nF, wf_F _ _ _ _, _, rfl, _, _, _, .ref x, rfl, rfl, SqL.of e1, e2, _, _, rfl, .inl (SqL.of e3), fun l nl => q _ l nl (same_new nl _) upd_same⟩
end
end My
namespace My
open PySem L2 PyProof.Rows
section
variable {P : Program} {w : World} {K : PySem.W.Frag} {mg : Str → Option Value} {base : Heap} {C : Addr}
def splongest_borders (_ : PySem.W.Frag) (_ : Addr) : Sp := fun vs H Q _ => ∃ s W, vs = [.ref s] ∧ SeqAt H s W ∧ 0 < W.length ∧ W.length ≤ 500 ∧ ∀ L p H', Bords W L → Same H H' → H p = none → H' p = some (.lst (iv L)) → Q (.ref p) H'
theorem oklongest_borders (D : Def K mg "longest_borders" slongest_borders ["word"]) (B : Bs mg) (Glb : Glo mg) (WK : WebK K mg C) :
    Good P w K mg base "longest_borders" slongest_borders ["word"] 1 (splongest_borders K C) := by
  refine D.good fun f fd F => ?_
  refine F.ok sclongest_borders (fun vs H Q E h => ?_) (fun cdv A outer s H vs Q E hr h => ?_)
  · obtain ⟨s, W, rfl, hs, h0, hlen, q'⟩ := h
    first | rfl | (rcases h with ⟨_, _, rfl, _⟩ | ⟨_, rfl, _⟩ <;> rfl)
  obtain ⟨s, W, rfl, hs, h0, hlen, q'⟩ := h
  refine ⟨_, (pss_cons (ps_set (i := 1) sclongest_borders.nd rfl (by first | exact Or.inl rfl | exact Or.inr rfl) (pe_lst (pa_cons pe_int pa_nil)))
  (pss_cons (ps_set (i := 2) sclongest_borders.nd rfl (by first | exact Or.inl rfl | exact Or.inr rfl) pe_int)
  (pss_cons (ps_for PassesOwn.never rfl (pi_or (pi_list (pe_slice sl_list (pv 0) (po_some pe_int) po_none)) (pi_tup (pe_slice sl_tup (pv 0) (po_some pe_int) po_none))) (pg_name (i := 3) sclongest_borders.nd rfl (by first | exact Or.inl rfl | exact Or.inr rfl))
    (pss_cons (ps_while PassesOwn.never (PW.pt (pw_and (pt_cmpR op_gt (pv 2) pe_int (nomark _)) (pw_and1 (pt_cmpR op_ne (pe_ix ix_seq (pv 0) (pv 2) (fun _ _ => rfl)) (pv 3) (nomark _)))))
    (pss_one (ps_set (i := 2) sclongest_borders.nd rfl (by first | exact Or.inl rfl | exact Or.inr rfl) (pe_ix ix_list (pv 1) (pe_op op_sub (pv 2) pe_int) (fun _ _ => rfl)))))
  (pss_cons (ps_if (pt_cmpR op_eq (pe_ix ix_seq (pv 0) (pv 2) (fun _ _ => rfl)) (pv 3) (nomark _))
    (pss_one (ps_aug (i := 2) sclongest_borders.nd rfl (by first | exact Or.inl rfl | exact Or.inr rfl) pe_int ip_add)) pss_nil)
  (pss_one (ps_expr (pe_bm PySem.F.plainAttrs_list PySem.F.slot_list_append PySem.F.type_list_append mt_append (pv 1) (pa_cons (pv 2) pa_nil)))))))
  (pss_one (ps_ret (pv 1)))))), ?_⟩
  refine ⟨(by show 1 ≤ sizeLine; decide), fun p np => ?_⟩
  rcases hs with h | h
  · have hsl : SeqAt H s W := .inl h
    refine .inl ⟨_, rfl, _, rfl, s, _, rfl, SqL.of (same_new np _ _ _ h), fun q nq => ?_⟩
    rw [show cutV (iv W) (some (1 : Int)) none = (iv W).drop 1 from cutV_from (k := 1)]
    have hqp : p ≠ q := ne_of_none upd_same nq
    have hS1 : Same H (upd (upd H p (.lst [.int 0])) q (.lst ((iv W).drop 1))) := (same_new np _).trans (same_new nq _)
    have hq1 : upd (upd H p (.lst [.int 0])) q (.lst ((iv W).drop 1)) q = some (.lst (iv (W.drop 1))) := by rw [upd_same, iv, iv, List.map_drop]
    have hp1 : upd (upd H p (.lst [.int 0])) q (.lst ((iv W).drop 1)) p = some (.lst (iv [0])) := by rw [upd_ne hqp]; exact upd_same
    generalize upd (upd H p (.lst [.int 0])) q (.lst ((iv W).drop 1)) = H1 at hS1 hq1 hp1
    refine ⟨q, rfl, ⟨_, SqL.of hq1⟩, ?_⟩
    refine for_list (K := K) (a := q) (xs := iv (W.drop 1)) (fun i σ H' => ∃ (L : List Nat) (k : Nat) (v : Option V), σ = [some (.ref s), some (.ref p), some (.int (k : Int)), v] ∧ BordsTo W (i + 1) L ∧ Longest W ((W.drop 1).take i) k ∧ Same H H' ∧ H' p = some (.lst (iv L)) ∧ H' q = some (.lst (iv (W.drop 1)))) ⟨[0], 0, none, rfl, bordsTo_one h0, by simpa using longest_nil W, hS1, hp1, hq1⟩ (fun i σ H' _ ⟨_, _, _, _, _, _, _, _, h⟩ => SqL.of h) ?_ ?_
    · rintro i x σ H2 hx ⟨L, k, v, rfl, hB, hL, hS, hp, hq⟩
      have hil := (List.getElem?_eq_some_iff.mp hx).1
      rw [List.length_map, List.length_drop] at hil
      obtain ⟨c, hci, rfl⟩ : ∃ c, (W.drop 1)[i]? = some c ∧ x = .int ((c : Nat) : Int) := by
        rw [List.getElem?_map] at hx
        cases e : (W.drop 1)[i]? with
        | none => rw [e] at hx; cases hx
        | some c => rw [e] at hx; exact ⟨c, rfl, (Option.some.inj hx).symm⟩
      have hki := longest_le hL
      rw [List.length_take, List.length_drop] at hki
      have hs2 := hsl.same hS
      refine ⟨fun m σ H' => ∃ k : Nat, m = k ∧ σ = [some (.ref s), some (.ref p), some (.int (k : Int)), some (.int (c : Int))] ∧ At W ((W.drop 1).take i) c k ∧ k ≤ i ∧ H' = H2, ⟨k, k, rfl, rfl, at_start hL, by omega, rfl⟩, ?_⟩
      rintro m σ H' ⟨k, rfl, rfl, hA, hk, rfl⟩
      refine ⟨_, rfl, _, _, rfl, rfl, _, rfl, ?_⟩
      refine ite2 (fun c1 => ?pos) (fun c1 => ?neg)
      case' pos =>
        have hpos : (0 : Int) < (m : Int) := of_decide_eq_true c1
        have e := getD_lt (l := W) (i := m) (by omega)
        refine ⟨_, rfl, _, rfl, hs2.ix (iv_at e) ⟨_, rfl, rfl, _, rfl, ?_⟩⟩
        refine ite2 (fun c2 => ?_) (fun c2 => ?_)
        · have hne : W[m]? ≠ some c := by
            rw [e]
            intro z
            rw [Option.some.inj z] at c2
            simp at c2
          obtain ⟨b, eb, lb, hlt⟩ := bordsTo_at hB (k := m) (by omega) (by omega)
          refine ⟨fun σ' H'' => ∃ k' : Nat, k' < m ∧ σ' = [some (.ref s), some (.ref p), some (.int (k' : Int)), some (.int (c : Int))] ∧ At W ((W.drop 1).take i) c k' ∧ k' ≤ i ∧ H'' = H', fun σ' H'' ⟨k', h, e⟩ => ⟨k', h, k', rfl, e⟩, ?_⟩
          refine ⟨_, rfl, _, rfl, _, _, rfl, rfl, _, _, _, .int (b : Int), rfl, rfl, SqL.of hp, ?_, ?_⟩
          · rw [show (m : Int) - 1 = ((m - 1 : Nat) : Int) by omega]
            exact iv_at eb
          · exact ⟨b, hlt, rfl, at_fall hA hne lb, by omega, rfl⟩
        have fin : m = 0 ∨ W[m]? = some c := by
          right
          rw [e]
          have c3 : V.int ((W.getD m 0 : Nat) : Int) = V.int (c : Int) := by
            have := Bool.eq_false_iff.mpr c2
            simpa using this
          have := int_eq.mp c3
          congr 1
          omega
      case' neg =>
        have fin : m = 0 ∨ W[m]? = some c := .inl (by
          have : ¬ ((0 : Int) < (m : Int)) := of_decide_eq_false (Bool.eq_false_iff.mpr c1)
          omega)
      all_goals
        have e := getD_lt (l := W) (i := m) (by omega)
        have etk : (W.drop 1).take (i + 1) = (W.drop 1).take i ++ [c] := by
          rw [List.take_add_one, hci]
          rfl
        have hli : i + 1 < W.length := by omega
        have hL2 : L.length = i + 1 := hB.1
        refine ⟨_, rfl, _, rfl, hs2.ix (iv_at e) ⟨_, rfl, rfl, _, rfl, ?_⟩⟩
        refine ite2 (fun c2 => ?_) (fun c2 => ?_)
        · have he : W[m]? = some c := by
            rw [e]
            have := int_eq.mp (of_decide_eq_true c2)
            congr 1
            omega
          refine ⟨_, rfl, _, _, rfl, rfl, _, rfl, .inl ⟨rfl, _, SqL.of hp⟩, _, rfl, _, _, _, rfl, rfl, hp, ?_, ?_⟩
          · rw [List.length_map, hL2]
            exact Nat.lt_of_le_of_lt (by omega : i + 1 ≤ 1000) (by decide)
          · have hL3 : Longest W ((W.drop 1).take (i + 1)) (m + 1) := by
              rw [etk]
              exact at_hit hA he
            refine ⟨L ++ [m + 1], m + 1, _, rfl, bordsTo_succ hli hB hL3, hL3, same_upd hS np, ?_, ?_⟩
            · exact upd_same.trans (congrArg (fun z => some (HO.lst z)) (iv_app _ _).symm)
            · rw [upd_ne hqp.symm]; exact hq
        · have hne : W[m]? ≠ some c := by
            rw [e]
            intro z
            rw [Option.some.inj z] at c2
            simp at c2
          have hm0 : m = 0 := by
            rcases fin with h | h
            · exact h
            · exact absurd h hne
          subst hm0
          refine ⟨_, rfl, .inl ⟨rfl, _, SqL.of hp⟩, _, rfl, _, _, _, rfl, rfl, hp, ?_, ?_⟩
          · rw [List.length_map, hL2]
            exact Nat.lt_of_le_of_lt (by omega : i + 1 ≤ 1000) (by decide)
          · have hL3 : Longest W ((W.drop 1).take (i + 1)) 0 := by
              rw [etk]
              exact at_miss hA hne
            refine ⟨L ++ [0], 0, _, rfl, bordsTo_succ hli hB hL3, hL3, same_upd hS np, ?_, ?_⟩
            · exact upd_same.trans (congrArg (fun z => some (HO.lst z)) (iv_app _ _).symm)
            · rw [upd_ne hqp.symm]; exact hq
    · rintro σ H2 ⟨L, k, v, rfl, hB, hL, hS, hp, hq⟩
      refine ⟨_, rfl, q' L p H2 ?_ hS np hp⟩
      rw [List.length_map, List.length_drop, show W.length - 1 + 1 = W.length by omega] at hB
      exact bords_of.mp hB
  · have hsl : SeqAt H s W := .inr h
    refine .inr ⟨_, rfl, _, rfl, s, _, rfl, SqT.of (same_new np _ _ _ h), (fun z => by have z1 := z.1; rw [show (1 : Int) = ((1 : Nat) : Int) from rfl, HT.sIx_nat, List.length_map] at z1; omega), fun q nq => ?_⟩
    rw [show cutV (iv W) (some (1 : Int)) none = (iv W).drop 1 from cutV_from (k := 1)]
    have hqp : p ≠ q := ne_of_none upd_same nq
    have hS1 : Same H (upd (upd H p (.lst [.int 0])) q (.tup ((iv W).drop 1))) := (same_new np _).trans (same_new nq _)
    have hq1 : upd (upd H p (.lst [.int 0])) q (.tup ((iv W).drop 1)) q = some (.tup (iv (W.drop 1))) := by rw [upd_same, iv, iv, List.map_drop]
    have hp1 : upd (upd H p (.lst [.int 0])) q (.tup ((iv W).drop 1)) p = some (.lst (iv [0])) := by rw [upd_ne hqp]; exact upd_same
    generalize upd (upd H p (.lst [.int 0])) q (.tup ((iv W).drop 1)) = H1 at hS1 hq1 hp1
    refine ⟨q, rfl, ⟨_, SqT.of hq1⟩, ?_⟩
    refine for_tup (K := K) (a := q) (xs := iv (W.drop 1)) (fun i σ H' => ∃ (L : List Nat) (k : Nat) (v : Option V), σ = [some (.ref s), some (.ref p), some (.int (k : Int)), v] ∧ BordsTo W (i + 1) L ∧ Longest W ((W.drop 1).take i) k ∧ Same H H' ∧ H' p = some (.lst (iv L)) ∧ H' q = some (.tup (iv (W.drop 1)))) ⟨[0], 0, none, rfl, bordsTo_one h0, by simpa using longest_nil W, hS1, hp1, hq1⟩ (fun i σ H' _ ⟨_, _, _, _, _, _, _, _, h⟩ => SqT.of h) ?_ ?_
    · rintro i x σ H2 hx ⟨L, k, v, rfl, hB, hL, hS, hp, hq⟩
      have hil := (List.getElem?_eq_some_iff.mp hx).1
      rw [List.length_map, List.length_drop] at hil
      obtain ⟨c, hci, rfl⟩ : ∃ c, (W.drop 1)[i]? = some c ∧ x = .int ((c : Nat) : Int) := by
        rw [List.getElem?_map] at hx
        cases e : (W.drop 1)[i]? with
        | none => rw [e] at hx; cases hx
        | some c => rw [e] at hx; exact ⟨c, rfl, (Option.some.inj hx).symm⟩
      have hki := longest_le hL
      rw [List.length_take, List.length_drop] at hki
      have hs2 := hsl.same hS
      refine ⟨fun m σ H' => ∃ k : Nat, m = k ∧ σ = [some (.ref s), some (.ref p), some (.int (k : Int)), some (.int (c : Int))] ∧ At W ((W.drop 1).take i) c k ∧ k ≤ i ∧ H' = H2, ⟨k, k, rfl, rfl, at_start hL, by omega, rfl⟩, ?_⟩
      rintro m σ H' ⟨k, rfl, rfl, hA, hk, rfl⟩
      refine ⟨_, rfl, _, _, rfl, rfl, _, rfl, ?_⟩
      refine ite2 (fun c1 => ?pos2) (fun c1 => ?neg2)
      case' pos2 =>
        have hpos : (0 : Int) < (m : Int) := of_decide_eq_true c1
        have e := getD_lt (l := W) (i := m) (by omega)
        refine ⟨_, rfl, _, rfl, hs2.ix (iv_at e) ⟨_, rfl, rfl, _, rfl, ?_⟩⟩
        refine ite2 (fun c2 => ?_) (fun c2 => ?_)
        · have hne : W[m]? ≠ some c := by
            rw [e]
            intro z
            rw [Option.some.inj z] at c2
            simp at c2
          obtain ⟨b, eb, lb, hlt⟩ := bordsTo_at hB (k := m) (by omega) (by omega)
          refine ⟨fun σ' H'' => ∃ k' : Nat, k' < m ∧ σ' = [some (.ref s), some (.ref p), some (.int (k' : Int)), some (.int (c : Int))] ∧ At W ((W.drop 1).take i) c k' ∧ k' ≤ i ∧ H'' = H', fun σ' H'' ⟨k', h, e⟩ => ⟨k', h, k', rfl, e⟩, ?_⟩
          refine ⟨_, rfl, _, rfl, _, _, rfl, rfl, _, _, _, .int (b : Int), rfl, rfl, SqL.of hp, ?_, ?_⟩
          · rw [show (m : Int) - 1 = ((m - 1 : Nat) : Int) by omega]
            exact iv_at eb
          · exact ⟨b, hlt, rfl, at_fall hA hne lb, by omega, rfl⟩
        have fin : m = 0 ∨ W[m]? = some c := by
          right
          rw [e]
          have c3 : V.int ((W.getD m 0 : Nat) : Int) = V.int (c : Int) := by
            have := Bool.eq_false_iff.mpr c2
            simpa using this
          have := int_eq.mp c3
          congr 1
          omega
      case' neg2 =>
        have fin : m = 0 ∨ W[m]? = some c := .inl (by
          have : ¬ ((0 : Int) < (m : Int)) := of_decide_eq_false (Bool.eq_false_iff.mpr c1)
          omega)
      all_goals
        have e := getD_lt (l := W) (i := m) (by omega)
        have etk : (W.drop 1).take (i + 1) = (W.drop 1).take i ++ [c] := by
          rw [List.take_add_one, hci]
          rfl
        have hli : i + 1 < W.length := by omega
        have hL2 : L.length = i + 1 := hB.1
        refine ⟨_, rfl, _, rfl, hs2.ix (iv_at e) ⟨_, rfl, rfl, _, rfl, ?_⟩⟩
        refine ite2 (fun c2 => ?_) (fun c2 => ?_)
        · have he : W[m]? = some c := by
            rw [e]
            have := int_eq.mp (of_decide_eq_true c2)
            congr 1
            omega
          refine ⟨_, rfl, _, _, rfl, rfl, _, rfl, .inl ⟨rfl, _, SqL.of hp⟩, _, rfl, _, _, _, rfl, rfl, hp, ?_, ?_⟩
          · rw [List.length_map, hL2]
            exact Nat.lt_of_le_of_lt (by omega : i + 1 ≤ 1000) (by decide)
          · have hL3 : Longest W ((W.drop 1).take (i + 1)) (m + 1) := by
              rw [etk]
              exact at_hit hA he
            refine ⟨L ++ [m + 1], m + 1, _, rfl, bordsTo_succ hli hB hL3, hL3, same_upd hS np, ?_, ?_⟩
            · exact upd_same.trans (congrArg (fun z => some (HO.lst z)) (iv_app _ _).symm)
            · rw [upd_ne hqp.symm]; exact hq
        · have hne : W[m]? ≠ some c := by
            rw [e]
            intro z
            rw [Option.some.inj z] at c2
            simp at c2
          have hm0 : m = 0 := by
            rcases fin with h | h
            · exact h
            · exact absurd h hne
          subst hm0
          refine ⟨_, rfl, .inl ⟨rfl, _, SqL.of hp⟩, _, rfl, _, _, _, rfl, rfl, hp, ?_, ?_⟩
          · rw [List.length_map, hL2]
            exact Nat.lt_of_le_of_lt (by omega : i + 1 ≤ 1000) (by decide)
          · have hL3 : Longest W ((W.drop 1).take (i + 1)) 0 := by
              rw [etk]
              exact at_miss hA hne
            refine ⟨L ++ [0], 0, _, rfl, bordsTo_succ hli hB hL3, hL3, same_upd hS np, ?_, ?_⟩
            · exact upd_same.trans (congrArg (fun z => some (HO.lst z)) (iv_app _ _).symm)
            · rw [upd_ne hqp.symm]; exact hq
    · rintro σ H2 ⟨L, k, v, rfl, hB, hL, hS, hp, hq⟩
      refine ⟨_, rfl, q' L p H2 ?_ hS np hp⟩
      rw [List.length_map, List.length_drop, show W.length - 1 + 1 = W.length by omega] at hB
      exact bords_of.mp hB
end
end My
/-! the table of a walk: what was read of it, one tie on; S36's nxt, and how a row is made of the row fallen back to -/
namespace My
def nxtD (W r : List Nat) : Nat → Nat
  | 0 => 0
  | k + 1 => if r.drop (r.length - (k + 1)) = W.take (k + 1) then k + 1 else nxtD W r k
def nxt (W : List Nat) (m t : Nat) : Nat := nxtD W (W.take m ++ [t]) (W.take m ++ [t]).length
theorem nxtD_le (W r : List Nat) : ∀ K, nxtD W r K ≤ K
  | 0 => Nat.le_refl 0
  | K + 1 => by
    unfold nxtD
    split
    · exact Nat.le_refl _
    · have := nxtD_le W r K; omega
theorem nxtD_is (W r : List Nat) : ∀ K, K ≤ r.length → r.drop (r.length - nxtD W r K) = W.take (nxtD W r K)
  | 0, _ => by
    show r.drop (r.length - 0) = W.take 0
    rw [Nat.sub_zero, List.drop_length, List.take_zero]
  | K + 1, h => by
    unfold nxtD
    by_cases c : r.drop (r.length - (K + 1)) = W.take (K + 1)
    · rw [if_pos c]; exact c
    · rw [if_neg c]; exact nxtD_is W r K (by omega)
theorem nxtD_max (W r : List Nat) : ∀ K k, k ≤ K → r.drop (r.length - k) = W.take k → k ≤ nxtD W r K
  | 0, k, h, _ => by omega
  | K + 1, k, h, e => by
    unfold nxtD
    by_cases c : r.drop (r.length - (K + 1)) = W.take (K + 1)
    · rw [if_pos c]; exact h
    · rw [if_neg c]
      by_cases ck : k = K + 1
      · subst ck; exact absurd e c
      · exact nxtD_max W r K k (by omega) e

/-- b: how much of the first m of W their own end is, but not all -/
structure Fall (W : List Nat) (m b : Nat) : Prop where
  lt : b < m
  is : W.take b <:+ W.take m
  max : ∀ k, k < m → W.take k <:+ W.take m → k ≤ b
theorem drop_suffix {W r : List Nat} {k : Nat} (hk : k ≤ W.length) (hr : k ≤ r.length) : r.drop (r.length - k) = W.take k ↔ W.take k <:+ r := by
  constructor
  · intro h
    rw [← h]
    exact List.drop_suffix ..
  · rintro ⟨u, hu⟩
    have hl : (W.take k).length = k := by rw [List.length_take]; omega
    have : r.length - k = u.length := by rw [← hu, List.length_append, hl]; omega
    rw [this, ← hu, List.drop_left]
theorem nxt_is {W : List Nat} {m t : Nat} (hm : m < W.length) : nxt W m t ≤ m + 1 ∧ W.take (nxt W m t) <:+ W.take m ++ [t] ∧ ∀ k, k ≤ m + 1 → W.take k <:+ W.take m ++ [t] → k ≤ nxt W m t := by
  have hl : (W.take m ++ [t]).length = m + 1 := by rw [List.length_append, List.length_take]; show min m W.length + 1 = _; omega
  have h1 : nxt W m t ≤ m + 1 := by
    have := nxtD_le W (W.take m ++ [t]) (W.take m ++ [t]).length
    rw [hl] at this
    unfold nxt
    rw [hl]
    exact this
  refine ⟨h1, (drop_suffix (by omega) (by omega)).mp (nxtD_is W (W.take m ++ [t]) _ (Nat.le_refl _)), fun k hk hs => ?_⟩
  exact nxtD_max W _ _ k (by omega) ((drop_suffix (by omega) (by omega)).mpr hs)
theorem nxt_hit {W : List Nat} {m t : Nat} (h : W[m]? = some t) : nxt W m t = m + 1 := by
  have hm := (List.getElem?_eq_some_iff.mp h).1
  obtain ⟨h1, _, h3⟩ := nxt_is (t := t) hm
  have : W.take (m + 1) = W.take m ++ [t] := by rw [List.take_succ, h]; rfl
  have := h3 (m + 1) (Nat.le_refl _) (by rw [this]; exact List.suffix_refl _)
  omega
theorem snoc_suffix {A B : List Nat} {x t : Nat} : A ++ [x] <:+ B ++ [t] ↔ x = t ∧ A <:+ B := by
  constructor
  · rintro ⟨u, hu⟩
    rw [← List.append_assoc] at hu
    have h := List.append_inj' hu rfl
    exact ⟨(List.cons.inj h.2).1, u, h.1⟩
  · rintro ⟨rfl, u, hu⟩
    exact ⟨u, by rw [← List.append_assoc, hu]⟩
theorem take_step {W : List Nat} {k : Nat} (hk : k < W.length) : W.take (k + 1) = W.take k ++ [W[k]] := by rw [List.take_succ, List.getElem?_eq_getElem hk]; rfl
theorem nxt_miss {W : List Nat} {m b t : Nat} (hm : m < W.length) (h : W[m]? ≠ some t) (hb : Fall W m b) : nxt W m t = nxt W b t := by
  have hblt := hb.lt
  obtain ⟨a1, a2, a3⟩ := nxt_is (t := t) hm
  obtain ⟨b1, b2, b3⟩ := nxt_is (t := t) (W := W) (m := b) (by omega)
  refine Nat.le_antisymm ?_ ?_
  · cases e : nxt W m t with
    | zero => omega
    | succ k =>
      rw [e] at a1 a2
      have hkW : k < W.length := by omega
      rw [take_step hkW, snoc_suffix] at a2
      have hkm : k ≠ m := fun z => by
        subst z
        exact h (by rw [List.getElem?_eq_getElem hkW, a2.1])
      have hkb := hb.max k (by omega) a2.2
      refine b3 (k + 1) (by omega) ?_
      rw [take_step hkW, snoc_suffix]
      refine ⟨a2.1, List.suffix_of_suffix_length_le a2.2 hb.is ?_⟩
      rw [List.length_take, List.length_take]
      omega
  · cases e : nxt W b t with
    | zero => omega
    | succ k =>
      rw [e] at b1 b2
      have hkW : k < W.length := by omega
      rw [take_step hkW, snoc_suffix] at b2
      refine a3 (k + 1) (by omega) ?_
      rw [take_step hkW, snoc_suffix]
      exact ⟨b2.1, b2.2.trans hb.is⟩
theorem nxt_zero {W : List Nat} {t : Nat} (h0 : 0 < W.length) (h : W[0]? ≠ some t) : nxt W 0 t = 0 := by
  obtain ⟨a1, a2, _⟩ := nxt_is (t := t) h0
  cases e : nxt W 0 t with
  | zero => rfl
  | succ k =>
    rw [e] at a1 a2
    have hk : k = 0 := by omega
    subst hk
    rw [take_step h0, snoc_suffix] at a2
    exact absurd (by rw [List.getElem?_eq_getElem h0, a2.1]) h
theorem fall_of_lb {W : List Nat} {m b : Nat} (hm : m ≤ W.length) (h : IsLB (W.take m) b) : Fall W m b := by
  obtain ⟨h1, h2, h3⟩ := h
  have hl : (W.take m).length = m := by rw [List.length_take]; omega
  rw [hl] at h1
  have cut : ∀ k, k ≤ m → (W.take m).take k = W.take k := fun k hk => by rw [List.take_take, Nat.min_eq_left hk]
  rw [cut b (by omega)] at h2
  exact ⟨h1, h2, fun k hk hs => h3 k (by omega) (by rw [cut k (by omega)]; exact hs)⟩
/-- a state's row of the table, by the row of the state that it falls back to -/
theorem nxt_row {W : List Nat} {m b : Nat} (hm : m < W.length) (h : IsLB (W.take m) b) (t : Nat) : nxt W m t = if W[m]? = some t then m + 1 else nxt W b t := by
  by_cases c : W[m]? = some t
  · rw [if_pos c]; exact nxt_hit c
  · rw [if_neg c]; exact nxt_miss hm c (fall_of_lb (by omega) h)
theorem nxt_row0 {W : List Nat} (h0 : 0 < W.length) (t : Nat) : nxt W 0 t = if W[0]? = some t then 1 else 0 := by
  by_cases c : W[0]? = some t
  · rw [if_pos c]; exact nxt_hit c
  · rw [if_neg c]; exact nxt_zero h0 c
end My
set_option maxHeartbeats 4000000
namespace My
open PySem L2 PyProof.Rows
theorem iv_take (L : List Nat) (k : Nat) : iv (L.take k) = (iv L).take k := List.map_take ..
theorem iv_drop (L : List Nat) (k : Nat) : iv (L.drop k) = (iv L).drop k := List.map_drop ..
theorem iv_length (L : List Nat) : (iv L).length = L.length := List.length_map ..
theorem cutV_most {xs : List V} (h : 0 < xs.length) : cutV xs none (some (-1)) = xs.take (xs.length - 1) := by
  unfold cutV
  rw [HT.sIx_none]
  have : HT.sIx xs.length xs.length (some (-1)) = xs.length - 1 := by
    show (if (-1 : Int) < 0 then ((-1 : Int) + (xs.length : Int)).toNat else min (-1 : Int).toNat xs.length) = _
    rw [if_pos (by decide)]
    omega
  rw [this, List.drop_zero, Nat.sub_zero]
theorem dpAll_tupn {K : PySem.W.Frag} {H : Hp} : ∀ (L : List Nat), DpAll K H (iv L) ((L.map fun n : Nat => (n : Int)).map PyData.int)
  | [] => .nil
  | n :: r => .cons (.int _) (dpAll_tupn r)
/-- a list or a tuple of numbers, as data -/
def dq (tup : Bool) (L : List Nat) : PyData := if tup then .tuple ((L.map fun n : Nat => (n : Int)).map PyData.int) else dz (L.map fun n : Nat => (n : Int))
/-- a list or a tuple of numbers, in the heap -/
def sq (tup : Bool) (L : List Nat) : HO := if tup then .tup (iv L) else .lst (iv L)
theorem dp_sq {K : PySem.W.Frag} {H : Hp} {s : Addr} {b : Bool} {L : List Nat} (h : H s = some (sq b L)) : Dp K H (.ref s) (dq b L) := by
  cases b with
  | false => exact dp_iv h
  | true => exact .tup (SqT.of h) (dpAll_tupn L)
theorem SeqAt.sq {H : Hp} {s : Addr} {W : List Nat} (h : SeqAt H s W) : ∃ b, H s = some (sq b W) := h.elim (fun h => ⟨false, h⟩) fun h => ⟨true, h⟩
theorem SeqAt.of_sq {H : Hp} {s : Addr} {W : List Nat} {b : Bool} (h : H s = some (My.sq b W)) : SeqAt H s W := by
  cases b with
  | false => exact .inl h
  | true => exact .inr h
theorem eqvAll_iz : ∀ A B : List Int, PyData.eqvAll (A.map PyData.int) (B.map PyData.int) = decide (A = B)
  | [], [] => rfl
  | [], _ :: _ => rfl
  | _ :: _, [] => rfl
  | a :: L, b :: M => by
    show ((a == b) && PyData.eqvAll (L.map PyData.int) (M.map PyData.int)) = _
    rw [eqvAll_iz L M, Bool.eq_iff_iff]
    simp only [Bool.and_eq_true, beq_iff_eq, decide_eq_true_iff, List.cons.injEq]
theorem cn_inj {A B : List Nat} : (A.map (fun n : Nat => (n : Int)) = B.map (fun n : Nat => (n : Int))) ↔ A = B :=
  ⟨fun h => (List.map_inj_right (fun a b h => Int.ofNat.inj h)).mp h, fun h => by rw [h]⟩
theorem eqv_dq (b : Bool) (A B : List Nat) : PyData.eqv (dq b A) (dq b B) = decide (A = B) := by
  have h : PyData.eqvAll ((A.map fun n : Nat => (n : Int)).map PyData.int) ((B.map fun n : Nat => (n : Int)).map PyData.int) = decide (A = B) := by
    rw [eqvAll_iz]
    exact decide_eq_decide.mpr cn_inj
  cases b with
  | true => exact h
  | false => exact h
theorem shaped_dq (b : Bool) (L : List Nat) : SeqAt.shaped (dq b L) = true := by
  cases b with
  | false => exact shaped_iz _
  | true =>
    have h1 := shaped_iz (L.map fun n : Nat => (n : Int))
    unfold SeqAt.shaped at h1 ⊢
    rw [Bool.and_eq_true] at h1 ⊢
    refine ⟨?_, ?_⟩
    · have := h1.1
      show PyData.canLay0 (.tuple _) = true
      unfold PyData.canLay0
      exact layAll_iz _
    · have := h1.2
      rw [decide_eq_true_iff] at this ⊢
      have e : PyData.depth (dq true L) = PyData.depth (dz (L.map fun n : Nat => (n : Int))) := by
        show PyData.depth (.tuple _) = PyData.depth (.list _)
        unfold PyData.depth
        rfl
      rw [e]
      exact this
/-- a part of a list or tuple that is not the whole of it -/
theorem cut_sq {K : PySem.W.Frag} {H : Hp} {s : Addr} {b : Bool} {W L : List Nat} {lo hi : Option Int} {Q : VK} (h : H s = some (sq b W)) (nw : ¬ (HT.sIx W.length 0 lo = 0 ∧ HT.sIx W.length W.length hi = W.length)) (e : cutV (iv W) lo hi = iv L)
    (q : ∀ (p : Addr), H p = none → Q (.ref p) (upd H p (sq b L))) : rSlL K (.ref s) lo hi H Q ∨ rSlT K (.ref s) lo hi H Q := by
  cases b with
  | false =>
    refine .inl ⟨s, _, rfl, SqL.of h, fun p np => ?_⟩
    rw [e]
    exact q p np
  | true =>
    refine .inr ⟨s, _, rfl, SqT.of h, by rw [iv_length]; exact nw, fun p np => ?_⟩
    rw [e]
    exact q p np
theorem nxtD_high {W r : List Nat} {n : Nat} : ∀ i, i ≤ n → (∀ k, n - i < k → k ≤ n → r.drop (r.length - k) ≠ W.take k) → nxtD W r n = nxtD W r (n - i)
  | 0, _, _ => rfl
  | i + 1, h, no => by
    rw [nxtD_high i (by omega) fun k h1 h2 => no k (by omega) h2, show n - i = (n - (i + 1)) + 1 by omega]
    unfold nxtD
    rw [if_neg (no _ (by omega) (by omega))]
    cases n - (i + 1) <;> rfl
theorem nxtD_at {W r : List Nat} {n i : Nat} (h : i ≤ n) (no : ∀ k, n - i < k → k ≤ n → r.drop (r.length - k) ≠ W.take k) (c : r.drop (r.length - (n - i)) = W.take (n - i)) : nxtD W r n = n - i := by
  rw [nxtD_high i h no]
  cases e : n - i with
  | zero => rfl
  | succ m =>
    unfold nxtD
    rw [← e, if_pos c]
theorem nxtD_none {W r : List Nat} {n : Nat} (no : ∀ k, 0 < k → k ≤ n → r.drop (r.length - k) ≠ W.take k) : nxtD W r n = 0 := by
  rw [nxtD_high n (Nat.le_refl _) fun k h1 h2 => no k (by omega) h2, Nat.sub_self]
  rfl
/-- what _state_behind asks at j -/
theorem behind_iff {W : List Nat} {m t j w : Nat} (hm : m < W.length) (hj : j ≤ m) (hw : W[j]? = some w) : (W.take m ++ [t]).drop ((W.take m ++ [t]).length - (j + 1)) = W.take (j + 1) ↔ w = t ∧ W.take j = (W.drop (m - j)).take j := by
  have hl : (W.take m ++ [t]).length = m + 1 := by rw [List.length_append, List.length_take]; show min m W.length + 1 = _; omega
  rw [hl, show m + 1 - (j + 1) = m - j by omega, List.drop_append_of_le_length (by rw [List.length_take]; omega), List.drop_take, show m - (m - j) = j by omega, List.take_succ, hw]
  constructor
  · intro h
    have h2 := List.append_inj' h rfl
    exact ⟨((List.cons.inj h2.2).1).symm, h2.1.symm⟩
  · rintro ⟨rfl, h⟩
    rw [← h]
    rfl
theorem paired_mem {α β : Type} {F G : α → β → Prop} : ∀ {l1 : List α} {l2 : List β}, (∀ a ∈ l1, ∀ b, F a b → G a b) → Paired F l1 l2 → Paired G l1 l2
  | _, _, _, .nil => .nil
  | _, _, h, .cons r t => .cons (h _ List.mem_cons_self _ r) (paired_mem (fun a ha => h a (List.mem_cons_of_mem _ ha)) t)
theorem LolAt.pushRef {H : Hp} {l p : Addr} {LL : List (List Nat)} {L : List Nat} (h : LolAt H l LL) (hp : H p = some (.lst (iv L))) (npl : p ≠ l) : ∃ xs, H l = some (.lst xs) ∧ xs.length = LL.length ∧ LolAt (upd H l (.lst (xs ++ [.ref p]))) l (LL ++ [L]) := by
  obtain ⟨as, h1, h2⟩ := h
  have key : ∀ (q : Addr) (M : List Nat), q ∈ as → H q = some (.lst (iv M)) → q ≠ l := fun q M hq e z => by
    rw [z, h1] at e
    have e := HO.lst.inj (Option.some.inj e)
    cases as with
    | nil => cases hq
    | cons x r =>
      cases M with
      | nil => cases e
      | cons n t => cases (List.cons.inj e).1
  exact ⟨as.map V.ref, h1, by rw [List.length_map]; exact paired_len h2, as ++ [p], by rw [upd_same, List.map_append]; rfl, paired_app (paired_mem (fun q hq M r => by rw [upd_ne (key _ _ hq r)]; exact r) h2) (by rw [upd_ne npl]; exact hp)⟩
/-- the whole table -/
def rowL (W : List Nat) (M m : Nat) : List Nat := (List.range M).map (nxt W m)
def tabL (W : List Nat) (M n : Nat) : List (List Nat) := (List.range n).map (rowL W M)
theorem tabL_succ (W : List Nat) (M n : Nat) : tabL W M (n + 1) = tabL W M n ++ [rowL W M n] := by
  unfold tabL
  rw [List.range_succ, List.map_append]
  rfl
theorem tabL_len (W : List Nat) (M n : Nat) : (tabL W M n).length = n := by
  unfold tabL
  rw [List.length_map, List.length_range]
theorem rowL_len (W : List Nat) (M m : Nat) : (rowL W M m).length = M := by
  unfold rowL
  rw [List.length_map, List.length_range]
theorem rowN_succ (W : List Nat) (m k : Nat) : rowL W (k + 1) m = rowL W k m ++ [nxt W m k] := by
  unfold rowL
  rw [List.range_succ, List.map_append]
  rfl
theorem rowL_at {W : List Nat} {M m t : Nat} (h : t < M) : (rowL W M m)[t]? = some (nxt W m t) := by
  unfold rowL
  rw [List.getElem?_map, List.getElem?_range h]
  rfl
theorem tabL_at {W : List Nat} {M n m : Nat} (h : m < n) : (tabL W M n)[m]? = some (rowL W M m) := by
  unfold tabL
  rw [List.getElem?_map, List.getElem?_range h]
  rfl
theorem rowL_next {W : List Nat} {M m b t : Nat} (hm : m < W.length) (h : IsLB (W.take m) b) (ht : W[m]? = some t) (htM : t < M) : (rowL W M b).set t (m + 1) = rowL W M m := by
  apply List.ext_getElem?
  intro k
  by_cases hk : k < M
  · rw [rowL_at hk, nxt_row hm h k, ht]
    by_cases c : t = k
    · subst c
      rw [List.getElem?_set_self (by rw [rowL_len]; exact hk), if_pos rfl]
    · rw [List.getElem?_set_ne c, rowL_at hk, if_neg (fun z => c (Option.some.inj z))]
  · rw [List.getElem?_eq_none (by rw [List.length_set, rowL_len]; omega), List.getElem?_eq_none (by rw [rowL_len]; omega)]
theorem rowL_first {W : List Nat} {M t : Nat} (h0 : 0 < W.length) (ht : W[0]? = some t) (htM : t < M) : (List.replicate M 0).set t 1 = rowL W M 0 := by
  apply List.ext_getElem?
  intro k
  by_cases hk : k < M
  · rw [rowL_at hk, nxt_row0 h0 k, ht]
    by_cases c : t = k
    · subst c
      rw [List.getElem?_set_self (by rw [List.length_replicate]; exact hk), if_pos rfl]
    · rw [List.getElem?_set_ne c, List.getElem?_replicate, if_pos hk, if_neg (fun z => c (Option.some.inj z))]
  · rw [List.getElem?_eq_none (by rw [List.length_set, List.length_replicate]; omega), List.getElem?_eq_none (by rw [rowL_len]; omega)]
end My
set_option maxHeartbeats 4000000
namespace My
open PySem L2 PyProof.Rows
theorem LolAt.row {H : Hp} {l : Addr} {LL : List (List Nat)} {j : Nat} {L : List Nat} (h : LolAt H l LL) (e : LL[j]? = some L) : ∃ xs p, H l = some (.lst xs) ∧ xs.length = LL.length ∧ atI xs (j : Int) = some (.ref p) ∧ H p = some (.lst (iv L)) := by
  obtain ⟨as, h1, h2⟩ := h
  have hlt : j < as.length := by rw [paired_len h2]; exact (List.getElem?_eq_some_iff.mp e).1
  obtain ⟨L', e', hp⟩ := paired_get h2 (List.getElem?_eq_getElem hlt)
  rw [e] at e'
  cases e'
  exact ⟨_, as[j], h1, by rw [List.length_map]; exact paired_len h2, atI_nat (by rw [List.getElem?_map, List.getElem?_eq_getElem hlt]; rfl), hp⟩
theorem iv_set (L : List Nat) (t x : Nat) : (iv L).set t (.int (x : Int)) = iv (L.set t x) := by
  unfold iv
  rw [List.map_set]
theorem LolAt.side {H : Hp} {l m : Addr} {LL : List (List Nat)} (h : LolAt H l LL) (nm : H m = none) (o : HO) : LolAt (upd H m o) l LL := h.same (same_new nm o)
theorem rep_zero (M : Nat) : (List.replicate ((M : Nat) : Int).toNat [V.int 0]).flatten = iv (List.replicate M 0) := by
  rw [Int.toNat_natCast]
  induction M with
  | zero => rfl
  | succ n ih =>
    rw [List.replicate_succ, List.replicate_succ, List.flatten_cons, ih]
    rfl
section
variable {P : Program} {w : World} {K : PySem.W.Frag} {mg : Str → Option Value} {base : Heap} {C : Addr}
def spfalls (_ : PySem.W.Frag) (C : Addr) : Sp := fun vs H Q _ => ∃ a N ts s W, vs = [.ref a, .ref s] ∧ WebAt C a N ts H ∧ SeqAt H s W ∧ Chain ts W ∧ W.length ≤ 400 ∧ ∀ H' p L, Bords W L → H p = none → Same H H' → H' p = some (.lst (iv (0 :: L.take (W.length - 1)))) → Q (.ref p) H'
theorem okfalls (D : Def K mg "falls" sfalls ["web", "walk"]) (B : Bs mg) (Glb : Glo mg) (WK : WebK K mg C)
    (hneed_web : Good P w K mg base "need_web" sneed_web ["web"] 3 (spneed_web K C))
    (hneed_walk : Good P w K mg base "need_walk" sneed_walk ["web", "walk"] 7 (spneed_walk K C))
    (hlongest_borders : Good P w K mg base "longest_borders" slongest_borders ["word"] 1 (splongest_borders K C)) :
    Good P w K mg base "falls" sfalls ["web", "walk"] 8 (spfalls K C) := by
  refine D.good fun f fd F => ?_
  obtain ⟨fneed_web, dneed_web, Oneed_web, mneed_web, kneed_web, bneed_web, Fneed_web⟩ := hneed_web
  obtain ⟨fneed_walk, dneed_walk, Oneed_walk, mneed_walk, kneed_walk, bneed_walk, Fneed_walk⟩ := hneed_walk
  obtain ⟨flongest_borders, dlongest_borders, Olongest_borders, mlongest_borders, klongest_borders, blongest_borders, Flongest_borders⟩ := hlongest_borders
  refine F.ok scfalls (fun vs H Q E h => ?_) (fun cdv A outer s H vs Q E hr h => ?_)
  · obtain ⟨a, N, ts, s, W, rfl, hw, hs, hW, hWl, q⟩ := h
    first | rfl | (rcases h with ⟨_, _, rfl, _⟩ | ⟨_, rfl, _⟩ <;> rfl)
  obtain ⟨a, N, ts, s, W, rfl, hw, hs, hW, hWl, q⟩ := h
  refine ⟨_, (pss_cons (ps_expr (pe_call Oneed_web (hr.mono (by decide)) rfl mneed_web kneed_web bneed_web .nil pass0 (pa_cons (pv 0) pa_nil)))
  (pss_cons (ps_expr (pe_call Oneed_walk hr rfl mneed_walk kneed_walk bneed_walk .nil pass0 (pa_cons (pv 0) (pa_cons (pv 1) pa_nil))))
  (pss_one (ps_ret (pe_op op_cat (pe_lst (pa_cons pe_int pa_nil)) (pe_slice sl_list (pe_call Olongest_borders (hr.mono (by decide)) rfl mlongest_borders klongest_borders blongest_borders .nil pass0 (pa_cons (pv 1) pa_nil)) po_none (po_some (pe_un un_neg pe_int)))))))), ?_⟩
  refine ⟨_, rfl, a, N, ts, rfl, hw, _, rfl, _, rfl, a, N, ts, s, W, rfl, hw, hs, hW, hWl, fun H1 hS1 => ?_⟩
  have h0 := hW.n0
  refine ⟨(by show 1 ≤ sizeLine; decide), fun p1 np1 => ⟨_, rfl, s, W, rfl, (hs.same hS1).same (same_new np1 _), h0, by omega, fun L p2 H2 hB hS2 np2 hp2 => ?_⟩⟩
  have hL := hB.1
  refine ⟨_, rfl, _, rfl, p2, _, rfl, SqL.of hp2, ?_⟩
  rw [cutV_most (by rw [iv_length]; omega), iv_length, ← iv_take]
  refine fun p3 np3 => ⟨p1, p3, _, _, rfl, rfl, same_new np3 _ _ _ (hS2 _ _ upd_same), upd_same, ?_, fun p4 np4 => ?_⟩
  · rw [iv_length, List.length_take]
    exact Nat.le_of_lt (sml1000 (by show 1 + _ ≤ _; omega))
  · have hS4 := ((hS1.trans (same_new np1 (.lst [V.int 0]))).trans hS2).trans (same_new np3 (.lst (iv (L.take (L.length - 1)))))
    refine q _ p4 L hB (hS4.free np4) (hS4.trans (same_new np4 _)) ?_
    rw [upd_same, hL]
    rfl
def sptable (_ : PySem.W.Frag) (C : Addr) : Sp := fun vs H Q _ => ∃ a N ts s W, vs = [.ref a, .ref s] ∧ WebAt C a N ts H ∧ ts.length ≤ 80 ∧ SeqAt H s W ∧ Chain ts W ∧ W.length ≤ 400 ∧ ∀ H' p, H p = none → Same H H' → LolAt H' p (tabL W ts.length W.length) → Q (.ref p) H'
theorem oktable (D : Def K mg "table" stable ["web", "walk"]) (B : Bs mg) (Glb : Glo mg) (WK : WebK K mg C)
    (hfalls : Good P w K mg base "falls" sfalls ["web", "walk"] 8 (spfalls K C))
    (hWeb_many : GoodP P w K mg base C "many" "Web.many" sWeb_many ["self"] 1 (spWeb_many K C)) :
    Good P w K mg base "table" stable ["web", "walk"] 9 (sptable K C) := by
  refine D.good fun f fd F => ?_
  obtain ⟨ffalls, dfalls, Ofalls, mfalls, kfalls, bfalls, Ffalls⟩ := hfalls
  obtain ⟨qWeb_many, fWeb_many, dWeb_many, OWeb_many, pWeb_many, bWeb_many⟩ := hWeb_many
  refine F.ok sctable (fun vs H Q E h => ?_) (fun cdv A outer s H vs Q E hr h => ?_)
  · obtain ⟨a, N, ts, s, W, rfl, hw, hm, hs, hW, hWl, q⟩ := h
    first | rfl | (rcases h with ⟨_, _, rfl, _⟩ | ⟨_, rfl, _⟩ <;> rfl)
  obtain ⟨a, N, ts, s, W, rfl, hw, hm, hs, hW, hWl, q⟩ := h
  refine ⟨_, (pss_cons (ps_set (i := 2) sctable.nd rfl (by first | exact Or.inl rfl | exact Or.inr rfl) (pe_call Ofalls hr rfl mfalls kfalls bfalls .nil pass0 (pa_cons (pv 0) (pa_cons (pv 1) pa_nil))))
  (pss_cons (ps_set (i := 3) sctable.nd rfl (by first | exact Or.inl rfl | exact Or.inr rfl) (pe_lst pa_nil))
  (pss_cons (ps_for PassesOwn.never rfl (pi_or (pi_enum (by rfl) B.enumerate (pa_cons (pv 1) pa_nil)) (pi_enumT (by rfl) B.enumerate (pa_cons (pv 1) pa_nil))) (pg_tup rfl (pgs_cons (pg_name (i := 4) sctable.nd rfl (by first | exact Or.inl rfl | exact Or.inr rfl)) (pgs_cons (pg_name (i := 5) sctable.nd rfl (by first | exact Or.inl rfl | exact Or.inr rfl)) pgs_nil)))
    (pss_cons (ps_set (i := 6) sctable.nd rfl (by first | exact Or.inl rfl | exact Or.inr rfl) (pe_ifExp (pt_cmpR op_gt (pv 4) pe_int (nomark _)) (pe_callTy call_list_of (by rfl) B.list (by decide +kernel) (pa_cons (pe_ix ix_list (pv 3) (pe_ix ix_list (pv 2) (pv 4) (fun _ _ => rfl)) (fun _ _ => rfl)) pa_nil)) (pe_op op_rep (pe_lst (pa_cons pe_int pa_nil)) (pe_prop (pv 0) WK.cl pWeb_many OWeb_many (hr.mono (by decide)) bWeb_many .nil pass0 (by rfl)))))
  (pss_cons (ps_asg (pe_op op_add (pv 4) pe_int) (pg_sub (pv 6) (pv 5) set_list))
  (pss_one (ps_expr (pe_bm PySem.F.plainAttrs_list PySem.F.slot_list_append PySem.F.type_list_append mt_append (pv 3) (pa_cons (pv 6) pa_nil)))))))
  (pss_one (ps_ret (pv 3)))))), ?_⟩
  refine ⟨_, rfl, _, rfl, a, N, ts, s, W, rfl, hw, hs, hW, hWl, fun H1 f L hB nf hS1 hf => ?_⟩
  refine ⟨Nat.zero_le _, fun r nr => ?_⟩
  have h0 := hW.n0
  have hfr : f ≠ r := ne_of_none hf nr
  have nsr : s ≠ r := fun z => by
    rcases hs.same hS1 with k | k
    · exact ne_of_none k nr z
    · exact ne_of_none k nr z
  have hS2 := hS1.trans (same_new nr (.lst []))
  have hr2 : LolAt (upd H1 r (.lst [])) r (tabL W ts.length 0) := ⟨[], upd_same, .nil⟩
  have hf2 := same_new nr (.lst []) _ _ hf
  have nrH : H r = none := hS1.free nr
  have hS12 := same_new nr (.lst [])
  generalize upd H1 r (.lst []) = H2 at hS2 hr2 hf2 hS12
  have hs2 := hs.same hS2
  have hw2 := hw.same hS2
  have hLl := hB.1
  obtain ⟨dx, tl, fl, ol, g1, _⟩ := id hw2
  rcases hs2 with hb | hb
  case' inl =>
    have hG : ∀ H', H' s = H2 s → SqL K H' s (iv W) := fun H' e => SqL.of (e.trans hb)
    refine .inl ⟨_, rfl, s, _, rfl, SqL.of hb, ?_⟩
    have w := walk_enum (K := K) (a := s) (xs := iv W)
  case' inr =>
    have hG : ∀ H', H' s = H2 s → SqT K H' s (iv W) := fun H' e => SqT.of (e.trans hb)
    refine .inr ⟨_, rfl, s, _, rfl, SqT.of hb, ?_⟩
    have w := walk_enumT (K := K) (a := s) (xs := iv W)
  all_goals
    refine for_it w (fun i σ H' => ∃ v4 v5 v6 : Option V, σ = [some (.ref a), some (.ref s), some (.ref f), some (.ref r), v4, v5, v6] ∧ Same H1 H' ∧ H' s = H2 s ∧ LolAt H' r (tabL W ts.length i)) ⟨none, none, none, rfl, hS12, rfl, hr2⟩ (fun i σ H' _ ⟨_, _, _, _, _, e, _⟩ => hG H' e) ?_ ?_
    · rintro i x σ H3 H4 hi ⟨v4, v5, v6, rfl, hS3, hs3, hr3⟩ ⟨T0, x1, x2, rfl, nT0, rfl, e1, e2⟩
      cases e1
      rw [iv_length] at hi
      have eW : W[i]? = some (W[i]'hi) := List.getElem?_eq_getElem hi
      generalize W[i]'hi = tie at eW
      replace e2 : (iv W)[i]? = some x2 := e2
      rw [show (iv W)[i]? = some (V.int (tie : Int)) by rw [List.getElem?_map, eW]; rfl] at e2
      cases e2
      have htie := hW.num tie (List.mem_of_getElem? eW)
      have hS4 := hS3.trans (same_new nT0 (.tup [.int (i : Int), .int (tie : Int)]))
      have hs4 := hs3
      have hT4 : upd H3 T0 (.tup [.int (i : Int), .int (tie : Int)]) T0 = some (.tup [.int (i : Int), .int (tie : Int)]) := upd_same
      have hr4 := hr3.same (same_new nT0 (.tup [.int (i : Int), .int (tie : Int)]))
      have hs4 : upd H3 T0 (.tup [.int (i : Int), .int (tie : Int)]) s = H2 s := by
        rw [← hs3, upd_ne]
        exact ne_of_none (hs3.trans hb) nT0
      generalize upd H3 T0 (.tup [.int (i : Int), .int (tie : Int)]) = H4 at hS4 hs4 hT4 hr4
      have hw4 := (hw.same hS1).same hS4
      obtain ⟨dx, tl, fl, ol, g1, _⟩ := id hw4
      refine ⟨T0, _, rfl, SqT.of hT4, rfl, _, _, rfl, _, _, rfl, rfl, ?_⟩
      -- the row
      have fin : ∀ (H5 : Hp) (p : Addr) (R : List Nat), Same H4 H5 → H4 p = none → H5 p = some (.lst (iv R)) → R.length = ts.length → R.set tie (i + 1) = rowL W ts.length i →
          ∃ (H6 : Hp) (xs : List V), H6 = upd H5 p (.lst ((iv R).set tie (.int ((i : Int) + 1)))) ∧ H6 p = some (.lst (iv (rowL W ts.length i))) ∧ Same H4 H6 ∧ H6 r = some (.lst xs) ∧ xs.length = i ∧ LolAt (upd H6 r (.lst (xs ++ [.ref p]))) r (tabL W ts.length (i + 1)) := fun H5 p R s5 np hp hl e => by
        have hS6 : Same H4 (upd H5 p (.lst ((iv R).set tie (.int ((i : Int) + 1))))) := same_upd s5 np
        have hp6 : upd H5 p (.lst ((iv R).set tie (.int ((i : Int) + 1)))) p = some (.lst (iv (rowL W ts.length i))) := by
          rw [upd_same, show ((i : Int) + 1) = ((i + 1 : Nat) : Int) by omega, iv_set, e]
        have npr : p ≠ r := by
          obtain ⟨as, z, _⟩ := hr4
          exact (ne_of_none z np).symm
        obtain ⟨xs, k1, k2, k3⟩ := (hr4.same hS6).pushRef hp6 npr
        refine ⟨_, xs, rfl, hp6, hS6, k1, by rw [k2, tabL_len], ?_⟩
        rw [tabL_succ]
        exact k3
      refine ⟨_, rfl, _, _, rfl, rfl, _, rfl, ?_⟩
      by_cases c : 0 < i
      case' pos =>
        refine iteYes (by omega) ?_
        obtain ⟨bb, b1, b2⟩ := hB.2 (i - 1) (by omega)
        rw [show i - 1 + 1 = i by omega] at b2
        have hbl := b2.1
        rw [List.length_take] at hbl
        have hf4 := hS4 _ _ hf
        have ef : (iv (0 :: L.take (W.length - 1)))[i]? = some (.int (bb : Int)) := by
          rw [List.getElem?_map, show i = (i - 1) + 1 by omega, List.getElem?_cons_succ, List.getElem?_take_of_lt (by omega), b1]
          rfl
        obtain ⟨xs, qa, k1, k2, k3, k4⟩ := hr4.row (j := bb) (L := rowL W ts.length bb) (tabL_at (by omega))
        refine ⟨_, rfl, _, rfl, _, rfl, _, _, _, .int (bb : Int), rfl, rfl, SqL.of hf4, atI_nat ef, _, _, _, .ref qa, rfl, rfl, SqL.of k1, k3, _, _, rfl, .inl (SqL.of k4), fun p np => ?_⟩
        obtain ⟨H6, ys, eH6, j1, j3, j4, j5, j6⟩ := fin _ p (rowL W ts.length bb) (same_new np _) np upd_same (rowL_len _ _ _) (rowL_next hi b2 eW htie)
        have hset : (iv (rowL W ts.length bb)).length = ts.length := by rw [iv_length, rowL_len]
      case' neg =>
        refine iteNo (by omega) ⟨(by show 1 ≤ sizeLine; decide), fun p1 np1 => ?_⟩
        have i0 : i = 0 := by omega
        subst i0
        refine ⟨_, rfl, a, dx, _, rfl, same_new np1 _ _ _ g1, a, N, ts, rfl, hw4.same (same_new np1 _), p1, _, _, rfl, rfl, upd_same, by omega, by omega, ?sz, fun p np => ?_⟩
        case sz =>
          show 1 * _ ≤ sizeLine
          rw [Int.toNat_natCast, Nat.one_mul]
          exact Nat.le_of_lt (sml1000 (by omega))
        rw [rep_zero]
        have np4 := (same_new np1 (.lst [V.int 0])).free np
        obtain ⟨H6, ys, eH6, j1, j3, j4, j5, j6⟩ := fin _ p (List.replicate ts.length 0) ((same_new np1 (.lst [V.int 0])).trans (same_new np _)) np4 upd_same (List.length_replicate ..) (rowL_first hi eW htie)
        have hset : (iv (List.replicate ts.length 0)).length = ts.length := by rw [iv_length, List.length_replicate]
      all_goals
        refine ⟨_, rfl, _, _, rfl, rfl, _, rfl, _, rfl, p, _, _, tie, rfl, rfl, upd_same, ?_, ?_⟩
        · rw [hset]
          unfold ixN
          rw [if_pos (by omega), if_pos (by omega)]
          rfl
        generalize eG : upd (upd _ p _) p (.lst (List.set _ _ _)) = Hx
        have eq6 : Hx = H6 := (eG.symm).trans eH6.symm
        clear eG
        subst eq6
        refine ⟨_, rfl, .inl ⟨rfl, _, SqL.of j4⟩, _, rfl, r, ys, _, rfl, rfl, j4, by rw [j5]; exact sml1000 (by omega), _, _, _, rfl, same_upd (hS4.trans j3) nr, ?_, j6⟩
        rw [upd_ne ?_]
        · have : H4 s = some _ := hs4.trans hb
          rw [j3 _ _ this, hb]
        · exact nsr
    · rintro σ H3 ⟨v4, v5, v6, rfl, hS3, _, hr3⟩
      rw [iv_length] at hr3
      exact ⟨_, rfl, q H3 r nrH (hS1.trans hS3) hr3⟩
end
end My
/-! set(s), s a list or a tuple of whole numbers -/
namespace My
open PySem PySem.Spec PyProof.Rows L2
section
variable {X : Cx}
def rSetSq (K : PySem.W.Frag) (w : World) : List V → Hp → VK → Prop := fun vs H Q => ∃ (l : Addr) (xs : List Int), vs = [V.ref l] ∧ (SqL K H l (xs.map V.int) ∨ SqT K H l (xs.map V.int)) ∧ xs.length ≤ 4000 ∧
  ∀ (p : Addr) (n : Nat), (∀ D : List Int, D.Nodup → (∀ k, k ∈ D ↔ k ∈ xs) → D.length = n) → n ≤ xs.length → H p = none → Q (.ref p) (upd H p (InO w p (inI xs) n))
theorem cr_setSq (calm : X.calm = true) : CallR X (.type "set") (rSetSq X.K X.w) := by
  intro pins s σ H vs us Q I r h
  obtain ⟨l, xs, e, hq, small, q⟩ := h
  rcases hq with hq | hq
  · subst e
    rw [Vals.ref1 r]
    obtain ⟨its, rv, pl, hz⟩ := I.list hq
    exact set_of_ints (I.ok.hd calm) pl.isList (by simpa using ints_of_vals rv) (by unfold scanBound; omega) fun h' tk m hle R keep =>
      ⟨.ref _, upd H s.heap.objs.size (InO X.w s.heap.objs.size (inI xs) m), I.laid (t' := tk) (fun b u e => keep b u (Heap.lt_size e) e) (Nat.le_refl _) (inO_new R), rfl, q _ m (ints_many R) hle (I.hok.fresh (Nat.le_refl _))⟩
  subst e
  rw [Vals.ref1 r]
  obtain ⟨its, rv, pl, hz⟩ := I.tuple hq
  refine call_set_tupI xs (I.ok.hd calm) pl (by simpa using ints_of_vals rv) (by unfold scanBound; omega) fun h' tk m R hle keep => ?_
  exact ⟨.ref _, upd H s.heap.objs.size (InO X.w s.heap.objs.size (inI xs) m), I.laid (t' := tk) (fun b u e => keep b u e) (Nat.le_refl _) (inO_new R), rfl, q _ m (ints_many R) hle (I.hok.fresh (Nat.le_refl _))⟩
theorem call_isiK {K : PySem.W.Frag} (h : X.K = K) : CallR X (.builtin "isinstance") (rIsi K) := h ▸ call_isi
end
end My
/-! sorted(set(s)) within a comprehension -/
namespace My
open PySem PySem.Spec PyProof.Rows L2
section
variable {X : Cx}
theorem cr_setInK {K : PySem.W.Frag} {w : World} (h : X.K = K) (hw : X.w = w) (calm : X.calm = true) : CallR X (.type "set") (rSetIn K w) := h ▸ hw ▸ cr_setIn calm
theorem cr_setSqK {K : PySem.W.Frag} {w : World} (h : X.K = K) (hw : X.w = w) (calm : X.calm = true) : CallR X (.type "set") (rSetSq K w) := h ▸ hw ▸ cr_setSq calm
theorem cr_sortInK {w : World} (hw : X.w = w) (calm : X.calm = true) : CallR X (.builtin "sorted") (rSortIn w) := hw ▸ cr_sortIn calm
theorem cr_allK {K : PySem.W.Frag} (h : X.K = K) (calm : X.calm = true) : CallR X (.builtin "all") (rAll K) := h ▸ cr_all calm
theorem cr_anyK {K : PySem.W.Frag} (h : X.K = K) (calm : X.calm = true) : CallR X (.builtin "any") (rAny K) := h ▸ cr_any calm
end
end My
/-! {k: v}, k a tuple of whole numbers and texts -/
namespace My
open PySem PySem.Spec PyProof.Rows L2
def tDispT (trs : List (TE × TE)) : TE := fun σ H Q => ∀ p, H p = none → tPairs trs σ (upd H p (.dT [])) fun ps H2 => H2 p = some (.dT []) ∧ ∃ (b : Addr) (k : List Key) (y : V), ps = [(.ref b, y)] ∧ H2 b = some (.tup (k.map kV)) ∧ Q (.ref p) (upd H2 p (.dT [(k, y)]))
theorem pe_dispT {X : Cx} {pos : Pos} {k v : Expr} {trs : List (TE × TE)} (hu : X.A.units + 1 < cLine) (h : PPs X pos [some k] [v] trs) : PE X (.Dict [some k] [v] pos) (tDispT trs) := by
  refine ⟨fun pins s σ H Q I q => ?_⟩
  have hn := I.hok.fresh (Nat.le_refl s.heap.objs.size)
  have I1 := I.laid (a := s.heap.objs.size) (o := .dT []) (h' := s.heap.push { cls := .type "dict", data := .dict #[] }) (t' := s.toks) (fun _ _ q => Heap.get?_push_of_some _ q) (Nat.le_refl _) (dt_empty s.heap I.big)
  rw [arm_eval_Dict, zip_pairTrees [some k] [v] X.env pos rfl rfl, dictDisplay_pairs _ (by intro z; cases z) (by rw [pairTrees_length [some k] [v] X.env pos rfl rfl]; exact Nat.le_of_ble_eq_true rfl)]
  refine wpAny_bind (wpAny_standAt (wpAny_bind (wpAny_subDictH (knd := tupleKind (mixKind X.prog X.w)) (Nat.lt_of_succ_lt hu) (by rw [pairTrees_length [some k] [v] X.env pos rfl rfl]; exact Nat.le_of_ble_eq_true rfl) ?_)))
  refine thn (h.run pins _ σ _ _ I1 (q _ hn)) fun ws s2 ⟨ps, H2, I2, rel, e, b, kx, y, ep, eb, q2⟩ => ?_
  subst ep
  cases rel with
  | @cons p0 q0 ps0 qs0 r rr =>
    cases rr
    obtain ⟨k0, v0⟩ := q0
    obtain ⟨r1, r2⟩ := r
    cases (show k0 = Value.ref b from r1)
    obtain ⟨z, hd, xs, rel, dd⟩ := dt_of I2.hok e
    cases rel
    refine ⟨[(kx, b, v0)], ⟨rfl, rfl, key_of I2.hok eb, trivial⟩, dd, fun h' tk dd' hs => ?_⟩
    refine wpAny_pure ⟨.ref s.heap.objs.size, _, ?_, rfl, q2⟩
    obtain ⟨o, es, ep, hq, h2, h3, h4, _, h5⟩ := dd'
    refine d_write I2 (by rw [e]; exact True.intro) hs ⟨o, hq⟩ ⟨by rw [sizeLine_eq]; simp, hd, [(kx, b, v0)], .cons ⟨rfl, ?_, r2⟩ .nil, o, es, ep, hq, h2, h3, h4, h5⟩
    show upd _ _ _ b = _
    rw [upd_ne (ne_of eb e (fun z => nomatch z))]
    exact eb
end My
/-! dict comprehensions: one clause or two, keys whole numbers, texts or tuples of them -/
namespace My
open PySem PySem.Spec PyProof.Rows L2
section
variable {prog : Program} {w : World} {A : Around}
/-- how a turn of clause k goes: an item, its store, the tests, then `more` -/
def TurnIs (M : Model) (A : Around) (e : Expr) (k : Nat) (ip : Pos) (tg : Expr) (ifs : List Expr) (it acc : Value) (env : Env) (more : Sem Unit) : Prop :=
  (Code.compLoop e k it acc env).quiet = true ∧ ∀ (Q : Fin → Shared → Prop) (E : Value → Shared → Prop) (s : Shared), wpAny M A (Sem.onRaise (do
      standAt ip
      match ← pyNext it with
      | none => pure (.done .next)
      | some v =>
        letOwnedTupleGo tg it v
        assign tg env v
        let mut ok := true
        for c in ifs do
          if ok then ok ← isTrue c env (eval c env)
        if ok then
          more
        again (.compLoop e k it acc env)) (fun x => do noteFrame x env; theTreesLotGoes x)) Q E s → wpAny M (A.under (.compLoop e k it acc env)) (M.den (.compLoop e k it acc env)) Q E s
abbrev testing (ifs : List Expr) (env : Env) : Sem Bool := forIn ifs true fun c r => if r = true then do let ok ← isTrue c env (eval c env); pure (ForInStep.yield ok) else pure (ForInStep.yield r)
abbrev noE : Value → Shared → Prop := fun _ _ => False
/-- a comprehension's loop at clause k, whatever comes behind the tests -/
theorem loop_clause {R : Result → Shared → Prop} {s : Shared} {e tg : Expr} {ip : Pos} {ifs : List Expr} {it acc : Value} {env : Env} {k : Nat} {more : Sem Unit} (ti : TurnIs (model prog w) A e k ip tg ifs it acc env more) (Z : Nat → Shared → Prop)
    (turn : ∀ n t, Z n t → wpAny (model prog w) A (pyNext it) (fun r t1 => match r with
      | none => R (.ok .next) t1
      | some v => wpAny (model prog w) A (letOwnedTupleGo tg it v) (fun _ t2 => wpAny (model prog w) A (assign tg env v) (fun _ t3 => wpAny (model prog w) A (testing ifs env) (fun b t4 =>
          if b = true then wpAny (model prog w) A more (fun _ t5 => ∃ m, m < n ∧ Z m t5) noE t4 else ∃ m, m < n ∧ Z m t4) noE t3) noE t2) noE t1) noE t) (n : Nat) (h : Z n s) :
    codeAny (model prog w) A (.compLoop e k it acc env) R s := by
  refine codeAny_loop ti.1 Z (fun n t hz => ti.2 _ _ _ (wpAny_noted ?_)) n h
  refine wpAny_bind (wpAny_standAt (wpAny_bind (thnF (turn n t hz) fun r t1 q1 => ?_)))
  cases r with
  | none => exact wpAny_pure q1
  | some v =>
    refine wpAny_bind (thnF q1 fun _ t2 q2 => wpAny_bind (thnF q2 fun _ t3 q3 => wpAny_bind (thnF q3 fun b t4 q4 => ?_)))
    cases b with
    | false => exact wpAny_pure ⟨rfl, q4⟩
    | true => exact wpAny_bind (thnF q4 fun _ t5 q5 => wpAny_pure ⟨rfl, q5⟩)
end
section
variable {X : Cx}
/-- d[k] = v within a comprehension -/
theorem put_dict {pins : List (Addr × Obj)} {σ : L2.St} {H H' : Hp} {s : Shared} {E : Value → Shared → Prop} {D : Addr} {y v : V} {u r : Value} {Q : Unit → Shared → Prop} (hu : X.A.units + 1 < cLine) (I : Inv X pins σ H s) (g : DPut H D y v H') (ry : RelV y u) (rv : RelV v r)
    (h : ∀ s', Inv X pins σ H' s' → Q () s') : wpAny (model X.prog X.w) X.A (dictSet D u r) Q E s := by
  rcases g with ⟨kvs, k, e, ey, l, eH⟩ | ⟨kvs, k, b, e, ey, eb, l, eH⟩
  · subst ey eH
    exact d_dictSet I e l ry rv h
  · subst ey eH
    cases (show u = Value.ref b from ry)
    obtain ⟨z, nd, xs, rel, dd⟩ := dt_of I.hok e
    have lx : xs.length ≤ sizeLine := by rw [← Paired.length rel]; exact z
    have lp : (putK kvs k v).length ≤ sizeLine := by have := length_putK kvs k v; omega
    refine wpAny_dictSet_heap (hsz := lx) (Nat.lt_of_succ_lt hu) (key_of I.hok eb) dd fun h' d2 sb => h _ ?_
    obtain ⟨q, es, ep, hq, a2, a3, a4, _, a5⟩ := d2
    refine d_write I (by rw [e]; exact True.intro) sb ⟨q, hq⟩ ⟨lp, nd, _, (rel.put k eb rv).keeps fun c ys ec => ?_, q, es, ep, hq, a2, a3, a4, a5⟩
    rw [upd_ne (ne_of ec e (fun z => nomatch z))]
    exact ec
/-- what comes behind a clause's tests: the new dict, slots, heap, what is to be reached -/
abbrev TB := Addr → L2.St → Hp → (Hp → Prop) → Prop
def tDcG (o0 : HO) (wi : TI) (g : TG) (tt : TT) (tb : TB) (vs : List Nat) : TE := fun σ H Q => wi σ H fun J H1 => ∀ D, H1 D = none → ∃ W : Nat → Nat → Hp → Prop, (∃ m, W 0 m (upd H1 D o0)) ∧ ∀ i m H, W i m H →
  (J.stop i H ∧ Q (.ref D) H) ∨ (J.go i H ∧ ∃ Nx : Hp → Prop, (∀ H', Nx H' → ∃ m', m' < m ∧ W (i + 1) m' H') ∧ ∀ x H', J.yld i H x H' → g x (wipe σ vs) H' fun σ2 H2 => wipe σ2 vs = wipe σ vs ∧ tt σ2 H2 fun b H3 =>
    if b = true then tb D σ2 H3 Nx else Nx H3)
/-- the slots that a block may forget -/
def Keeps (vs : List Nat) (σ σ' : L2.St) : Prop := σ'.length = σ.length ∧ ∀ (j : Nat) v, (wipe σ vs)[j]? = some (some v) → σ'[j]? = some (some v)
theorem keeps_self (vs : List Nat) (σ : L2.St) : Keeps vs σ σ := ⟨rfl, fun j v e => (wipe_some e).1⟩
def Behind (B : Cx) (vs : List Nat) (D : Addr) (tb : TB) (more : Sem Unit) : Prop := ∀ (pins : List (Addr × Obj)) (s : Shared) (σ : L2.St) (H : Hp) (Nx : Hp → Prop), Inv B pins σ H s → tb D σ H Nx →
  wpAny (model B.prog B.w) B.A more (fun _ s' => ∃ σ' H', Inv B pins σ' H' s' ∧ Keeps vs σ σ' ∧ Nx H') noE s
def StartIs (M : Model) (A : Around) (e : Expr) (k : Nat) : Prop := ∀ {R : Result → Shared → Prop} {s : Shared} {it acc : Value} {env : Env}, codeAny M A (.compLoop e k it acc env) R s →
  wpAny M A (pyIter it) (fun it' s' => codeAny M A (.compLoop e k it' acc env) R s') (notedBy M A env fun x s' => R (.error x) s') s → codeAny M A (.compStart e k it acc env) R s
theorem dcG_core {e tg iter : Expr} {ifs : List Expr} {gs : List Comprehension} {scope : Scope} {own : List (Str × Nat)} {pos' : Pos} {wi : TI} {g : TG} {tt : TT} {tb : TB} {o0 : HO} {more : Addr → Env → Sem Unit} {pins : List (Addr × Obj)} {s : Shared} {σ : L2.St} {H : Hp} {Q : VK} {use : Option (Value → Sem Unit)} {Qf : Value → Shared → Prop}
    (hcl : clausesOf e = ⟨tg, iter, ifs, 0⟩ :: gs) (turnIs : ∀ it D ce, TurnIs (model X.prog X.w) X.A e 0 iter.pos tg ifs it (.ref D) ce (more D ce)) (startIs : StartIs (model X.prog X.w) X.A e 0)
    (bare : ∀ (H : Hp) (h : Heap), sysModules < h.objs.size → ObjOk X.prog X.w H (h.push { cls := .type "dict", data := .dict #[] }) h.objs.size o0)
    (hc : X.calm = true) (hN : X.N.Nodup) (I : Inv X pins σ H s) (hi : PI X tg iter wi) (ok : BlkOk X.N X.env.scope scope own)
    (hg : ∀ (s : Shared) (H : Hp) (C : Addr) (cl : List (Str × Addr)) (fp : List Addr), PG (X.blk s H scope (compEnvC scope cl C X.env) fp) tg g)
    (ht : ∀ (s : Shared) (H : Hp) (C : Addr) (cl : List (Str × Addr)) (fp : List Addr), PTs (X.blk s H scope (compEnvC scope cl C X.env) fp) ifs tt)
    (hb : ∀ (s : Shared) (H : Hp) (C : Addr) (cl : List (Str × Addr)) (fp : List Addr) (D : Addr), Behind (X.blk s H scope (compEnvC scope cl C X.env) fp) (own.map (·.2)) D tb (more D (compEnvC scope cl C X.env)))
    (hs : ∀ x, foldedSetIterable iter X.env x = pure x) (h : tDcG o0 wi g tt tb (own.map (·.2)) σ H Q)
    (out : ∀ D C s' m H', Inv X pins σ H' s' → Q (.ref D) H' → s'.heap.Ns C m → FpOk X pins H' C → compPost (model X.prog X.w) X.A X.xe use Qf (.ref D) C (.ok .next) s') :
    wpAny (model X.prog X.w) X.A (comprehension e scope X.env pos' newDict false (eval iter X.env) use) Qf X.xe s := by
  have around : ∀ y ∈ scope.names, y.2 = .free → ∃ c, X.env.cells.lookup y.1 = some c := fun y hy z => (ok.free y hy z).elim (fun k => I.ok.has _ (.inl k)) fun k => I.ok.has _ (.inr k)
  refine wpAny_comprehension_free (use := use) hcl hs (closure_ok around) ok.kind (fun y hy z => by rw [ok.uniq y hy, z]) (thn (hi.run pins s σ H _ I h) fun xv t1 k1 => thn k1 fun iv t2 k2 => ?_)
  obtain ⟨it, fps, tn, J, Ha, rfl, Ia, T, ta, fa, q⟩ := k2
  refine wpAny_newObj_type (newEnv_comp ?_)
  generalize eD : t2.heap.objs.size = D
  obtain ⟨W, ⟨m0, w0⟩, turn⟩ := q D (Ia.hok.fresh (Nat.le_of_eq eD))
  generalize eT : ({ t2 with heap := t2.heap.push { cls := .type "dict", data := .dict #[] } } : Shared) = t3
  have heT : t3.heap = t2.heap.push { cls := .type "dict", data := .dict #[] } := by rw [← eT]
  have Ib : Inv X pins σ (upd Ha D o0) t3 := by
    rw [← eT]
    refine Ia.laid (t' := t2.toks) (fun b o z => Heap.get?_push_of_some _ z) (Nat.le_of_eq eD) ?_
    rw [← eD]
    exact bare _ t2.heap Ia.big
  have fb : ∀ b ∈ fps, FpOk X pins (upd Ha D o0) b ∧ b < t3.heap.objs.size := fun b mb => by
    obtain ⟨o, z, _⟩ := T.obj _ _ ta b mb
    have lt := Heap.lt_size z
    have ne : b ≠ D := by rw [← eD]; exact Nat.ne_of_lt lt
    exact ⟨⟨by rw [upd_ne ne]; exact (fa b mb).1, (fa b mb).2⟩, by rw [heT, Heap.size_push]; exact Nat.lt_succ_of_lt lt⟩
  have tb3 : tn 0 t3.heap := T.keep _ _ _ ta fun b _ o z => by rw [heT]; exact Heap.get?_push_of_some _ z
  have Ic := block_start Ib ok hN fb
  generalize eC : cellsFrom (t3.heap.objs.size + 1) scope.names (cloFrom X.env.cells scope.names []) = cl at Ic ⊢
  have pg := hg t3 (upd Ha D o0) t3.heap.objs.size cl fps
  have pt := ht t3 (upd Ha D o0) t3.heap.objs.size cl fps
  have pb := hb t3 (upd Ha D o0) t3.heap.objs.size cl fps D
  show codeAny _ _ (.compStart e 0 (.ref it) (.ref D) (compEnvC scope cl t3.heap.objs.size X.env)) (compPost (model X.prog X.w) X.A X.xe use Qf (.ref D) t3.heap.objs.size) { t3 with heap := pushCells (t3.heap.push { cls := .type "dict", data := .dict #[] }) scope.names }
  have nfp : ∀ b ∈ fps, (upd Ha D o0) b = none := fun b mb => (fb b mb).1.1
  generalize eE : compEnvC scope cl t3.heap.objs.size X.env = ce at Ic pg pt pb ⊢
  have loc : ce.locals = t3.heap.objs.size := by subst eE; rfl
  generalize eH : upd Ha D o0 = Hb at Ib Ic pg pt pb w0 nfp fb
  generalize e4 : ({ t3 with heap := pushCells (t3.heap.push { cls := .type "dict", data := .dict #[] }) scope.names } : Shared) = t4 at Ic ⊢
  have ta4 : tn 0 t4.heap := T.keep _ _ _ tb3 fun b _ o z => by rw [← e4]; exact pushCells_keeps _ _ _ _ (Heap.get?_push_of_some _ z)
  have stands : ∀ {σ' : L2.St} {H' : Hp} {s' : Shared}, Inv (X.blk t3 Hb scope ce fps) [] σ' H' s' → (∀ b ∈ fps, H' b = none) → ∀ b ∈ fps, FpOk (X.blk t3 Hb scope ce fps) [] H' b := fun {σ' H' s'} I' hn b mb =>
    ⟨hn b mb, (I'.ok.exf b mb).1, I'.ok.exfs b mb, .inl mb, fun x c z => (I'.ok.exf b mb).2 x c z, fun p hp => by cases hp⟩
  have loop : codeAny (model X.prog X.w) X.A (.compLoop e 0 (.ref it) (.ref D) ce) (compPost (model X.prog X.w) X.A X.xe use Qf (.ref D) t3.heap.objs.size) t4 := by
    refine loop_clause (turnIs _ D ce) (fun n t => ∃ i H', Inv (X.blk t3 Hb scope ce fps) [] (wipe σ (own.map (·.2))) H' t ∧ tn i t.heap ∧ (∀ b ∈ fps, H' b = none) ∧ W i n H') ?_ m0 ⟨0, Hb, Ic, ta4, nfp, w0⟩
    rintro n t5 ⟨i, H5, I5, ta5, n5, w5⟩
    rcases turn i n H5 w5 with ⟨stop, qq⟩ | ⟨go, Nx, hNx, step⟩
    · refine thnF (T.done (X.blk t3 Hb scope ce fps) rfl rfl rfl hc i [] t5 _ H5 noE I5 (stands I5 n5) ta5 stop) fun r t6 ⟨er, I6⟩ => ?_
      subst er
      have I7 : Inv X pins σ H5 t6 := Ib.call' (ch := fps) I6.os I6.base I6.hok I6.bare fun b mb => ⟨(fb b mb).1.2.2.2.1, (fb b mb).1.2.1, (fb b mb).1.2.2.2.2.1, (fb b mb).1.2.2.2.2.2⟩
      have nC : H5 t3.heap.objs.size = none := by
        have z : H5 ce.locals = none := I6.free
        rwa [loc] at z
      obtain ⟨m, hm, _⟩ := I6.loc
      have hm : t6.heap.Ns ce.locals m := hm
      rw [loc] at hm
      exact out D t3.heap.objs.size t6 m H5 I7 qq hm (Ib.fpOk (Nat.le_refl _) nC)
    · refine thnF (T.item (X.blk t3 Hb scope ce fps) rfl rfl rfl hc i [] t5 _ H5 noE I5 (stands I5 n5) ta5 go) fun r t6 ⟨u, er, k6⟩ => ?_
      subst er
      refine thnF k6 fun _ t7 ⟨x, H7, I7, r7, y7, ta7, n7⟩ => thnF (pg.run _ t7 _ H7 x u _ (I7.pinned (stands I7 n7) (T.obj _ _ ta7)) r7 (step x H7 y7)) fun _ t8 ⟨σ8, H8, I8, hw8, q8⟩ => thnF (pt.run _ t8 σ8 H8 _ I8 q8) fun b t9 ⟨H9, I9, q9⟩ => ?_
      have ends : ∀ {σ9 : L2.St} {t : Shared} {H' : Hp}, Inv (X.blk t3 Hb scope ce fps) ([] ++ pinsAt fps t7.heap) σ9 H' t → Keeps (own.map (·.2)) σ8 σ9 → Nx H' →
          ∃ m, m < n ∧ ∃ i H', Inv (X.blk t3 Hb scope ce fps) [] (wipe σ (own.map (·.2))) H' t ∧ tn i t.heap ∧ (∀ b ∈ fps, H' b = none) ∧ W i m H' := fun {σ9 t H'} I' kp nx => by
        obtain ⟨m', lt, w'⟩ := hNx H' nx
        have pinned : ∀ b ∈ fps, ∀ o, t7.heap.get? b = some o → t.heap.get? b = some o ∧ H' b = none := fun b mb o z =>
          have p := I'.pin (b, o) (List.mem_append_right _ (List.mem_append_right _ (mem_pinsAt mb z)))
          ⟨p.1, p.2.1⟩
        refine ⟨m', lt, i + 1, H', (I'.unpinned (pins := [])).weak (by rw [kp.1, ← hw8, wipe_length]) (fun j v z => kp.2 j v (by rw [hw8]; exact z)), T.keep _ _ _ ta7 fun b mb o z => (pinned b mb o z).1, fun b mb => ?_, w'⟩
        obtain ⟨o, z, _⟩ := T.obj _ _ ta7 b mb
        exact (pinned b mb o z).2
      cases b with
      | false =>
        simp only [Bool.false_eq_true, if_false] at q9 ⊢
        exact ends I9 (keeps_self _ _) q9
      | true =>
        simp only [if_true] at q9 ⊢
        exact thnF (pb _ t9 σ8 H9 Nx I9 q9) fun _ t10 ⟨σ9, H10, I10, kp, nx⟩ => ends I10 kp nx
  exact startIs loop (T.self X.A 0 _ _ _ ta4 loop)
/-- as a value -/
theorem out_value {pins : List (Addr × Obj)} {σ : L2.St} {Q : VK} (D C : Addr) (s' : Shared) (m) (H' : Hp) (I' : Inv X pins σ H' s') (q : Q (.ref D) H') (hn : s'.heap.Ns C m) (f : FpOk X pins H' C) : compPost (model X.prog X.w) X.A X.xe none (EP X pins σ Q) (.ref D) C (.ok .next) s' := by
  obtain ⟨f0, f1, f2, f3, f4, f5⟩ := f
  exact ⟨m, hn, fun h'' sb => ⟨.ref D, H', I'.turned (t' := s'.toks) (fun b o nb z => (sb.2 b nb).trans z) f0 f1 f3 f4 f5, rfl, q⟩⟩
/-- stored to a name -/
theorem out_name {pins : List (Addr × Obj)} {σ : L2.St} {i : Nat} {y : Str} {py : Pos} {E : Ends} (hN : X.N.Nodup) (hy : X.N[i]? = some y) (hyl : X.env.scope.names.lookup y = some .local) (D C : Addr) (s' : Shared) (m) (H' : Hp) (I' : Inv X pins σ H' s')
    (q : gName i (.ref D) σ H' E.nx) (hn : s'.heap.Ns C m) (f : FpOk X pins H' C) : compPost (model X.prog X.w) X.A X.xe (some (assign (.Name y py) X.env)) (fun _ s' => SP X pins E .next s') (.ref D) C (.ok .next) s' := by
  show wpAny _ _ (assign (.Name y py) X.env (.ref D)) _ _ _
  refine wpAny_assign_Name (store_ok2 (v := V.ref D) I' hN hy (.inl hyl) rfl (fun s2 I2 ⟨a, sb, ha⟩ => ?_) (.inr hyl))
  obtain ⟨f0, f1, f2, f3, f4, f5⟩ := f
  have nC : C ≠ a := ha.elim (fun z => by rw [z]; exact f1) fun z e => f4 y a z e.symm
  exact ⟨m, hn.sameBut sb nC, fun h3 sb3 => ⟨_, H', I2.turned (t' := s2.toks) (fun b o nb e => (sb3.2 b nb).trans e) f0 f1 f3 f4 f5, q⟩⟩
theorem sw_dict {kx vx : Expr} {gs : List Comprehension} {scope : Scope} {pos py : Pos} {y : Str} {l : Nat} {env : Env} (hk : env.scope.kind = .function) (hy : env.scope.names.lookup y = some .local) (hl : (py.line == pos.line) = true)
    (ha : (scope.names.any fun (n, k) => n == y && (k == .local || k == .cell)) = false) : swapsWith (.DictComp kx vx gs scope pos) (some (.Name y py)) l env = pure true := by
  have ky : env.kindOf y = some .local := hy
  have hb : env.blockKind = .function := by unfold Env.blockKind; rw [hk]; rfl
  unfold swapsWith
  simp only [hb, ky, ha, Expr.pos, hl]
  rfl
/-- a value at its key -/
def tbPut (tk tv : TE) : TB := fun D σ H Nx => tk σ H fun y H1 => tv σ H1 fun z H2 => ∃ H3, DPut H2 D y z H3 ∧ Nx H3
def put1 (kx vx : Expr) (D : Addr) (env : Env) : Sem Unit := do
  let kv ← eval kx env
  let vv ← holding [kv] (eval vx env)
  standAt { kx.pos with endLine := vx.pos.endLine, endCol := vx.pos.endCol }
  holding [kv, vv] (dictSet D kv vv)
theorem behind_put {B : Cx} {kx vx : Expr} {tk tv : TE} {vs : List Nat} {D : Addr} (hk : PE B kx tk) (hv : PE B vx tv) (hx : B.xe = noE) (hu : B.A.units + 1 < cLine) : Behind B vs D (tbPut tk tv) (put1 kx vx D B.env) := by
  intro pins s σ H Nx I q
  have pk := hk.run pins s σ H _ I q
  rw [hx] at pk
  refine wpAny_bind (thnF pk fun kv s1 ⟨y, H1, I1, r1, q1⟩ => ?_)
  have pv := hv.run pins s1 σ H1 _ I1 q1
  rw [hx] at pv
  refine wpAny_bind (wpAny_holding (thnF pv fun vv s2 ⟨z, H2, I2, r2, H3, g3, nx⟩ => ?_))
  exact wpAny_bind (wpAny_standAt (wpAny_holding (put_dict hu I2 g3 r1 r2 fun s3 I3 => ⟨σ, H3, I3, keeps_self _ _, nx⟩)))
/-- one clause, keys as DPut has them -/
theorem pe_dcT {kx vx tg iter : Expr} {ifs : List Expr} {scope : Scope} {own : List (Str × Nat)} {pos : Pos} {wi : TI} {g : TG} {tt : TT} {tk tv : TE} (hu : X.A.units + 1 < cLine) (hc : X.calm = true) (hN : X.N.Nodup) (hi : PI X tg iter wi) (ok : BlkOk X.N X.env.scope scope own)
    (hg : ∀ (s : Shared) (H : Hp) (C : Addr) (cl : List (Str × Addr)) (fp : List Addr), PG (X.blk s H scope (compEnvC scope cl C X.env) fp) tg g)
    (ht : ∀ (s : Shared) (H : Hp) (C : Addr) (cl : List (Str × Addr)) (fp : List Addr), PTs (X.blk s H scope (compEnvC scope cl C X.env) fp) ifs tt)
    (hk : ∀ (s : Shared) (H : Hp) (C : Addr) (cl : List (Str × Addr)) (fp : List Addr), PE (X.blk s H scope (compEnvC scope cl C X.env) fp) kx tk)
    (hv : ∀ (s : Shared) (H : Hp) (C : Addr) (cl : List (Str × Addr)) (fp : List Addr), PE (X.blk s H scope (compEnvC scope cl C X.env) fp) vx tv) (hs : ∀ x, foldedSetIterable iter X.env x = pure x := by intro _; rfl) :
    PE X (.DictComp kx vx [⟨tg, iter, ifs, 0⟩] scope pos) (tDcG (.dT []) wi g tt (tbPut tk tv) (own.map (·.2))) := by
  refine ⟨fun pins s σ H Q I h => ?_⟩
  rw [arm_eval_DictComp]
  refine dcG_core (more := fun D ce => put1 kx vx D ce) rfl (fun it D ce => ⟨rfl, fun Q E s h => ?_⟩) (fun h0 h => codeAny_compStart_dict h0 h) (fun H h b => dt_empty h b) hc hN I hi ok hg ht (fun s H C cl fp D => behind_put (hk s H C cl fp) (hv s H C cl fp) rfl hu) hs h out_value
  show wpAny _ X.A ((compTurn _ 0 it (.ref D) ce).onRaise _) _ _ s
  rw [compTurn_dict]
  exact h
theorem ps_setDcT {i : Nat} {y : Str} {py : Pos} {kx vx tg iter : Expr} {ifs : List Expr} {scope : Scope} {own : List (Str × Nat)} {pos spos : Pos} {wi : TI} {g : TG} {tt : TT} {tk tv : TE} (hu : X.A.units + 1 < cLine) (hc : X.calm = true) (hN : X.N.Nodup) (hy : X.N[i]? = some y) (hyl : X.env.scope.names.lookup y = some .local)
    (hsw : swapsWith (.DictComp kx vx [⟨tg, iter, ifs, 0⟩] scope pos) (some (.Name y py)) spos.line X.env = pure true) (hi : PI X tg iter wi) (ok : BlkOk X.N X.env.scope scope own)
    (hg : ∀ (s : Shared) (H : Hp) (C : Addr) (cl : List (Str × Addr)) (fp : List Addr), PG (X.blk s H scope (compEnvC scope cl C X.env) fp) tg g)
    (ht : ∀ (s : Shared) (H : Hp) (C : Addr) (cl : List (Str × Addr)) (fp : List Addr), PTs (X.blk s H scope (compEnvC scope cl C X.env) fp) ifs tt)
    (hk : ∀ (s : Shared) (H : Hp) (C : Addr) (cl : List (Str × Addr)) (fp : List Addr), PE (X.blk s H scope (compEnvC scope cl C X.env) fp) kx tk)
    (hv : ∀ (s : Shared) (H : Hp) (C : Addr) (cl : List (Str × Addr)) (fp : List Addr), PE (X.blk s H scope (compEnvC scope cl C X.env) fp) vx tv) (hs : ∀ x, foldedSetIterable iter X.env x = pure x := by intro _; rfl) :
    PS X (.Assign [.Name y py] (.DictComp kx vx [⟨tg, iter, ifs, 0⟩] scope pos) spos) (tAsg (tDcG (.dT []) wi g tt (tbPut tk tv) (own.map (·.2))) (gName i)) := by
  refine ⟨fun pins s σ H D I h => ?_⟩
  rw [exec_Assign_Name_used _ _ _ _ hsw]
  refine wpAny_bind (wpAny_standAt (wpAny_bind ?_))
  show wpAny _ X.A (do let _ ← comprehension (.DictComp kx vx [⟨tg, iter, ifs, 0⟩] scope pos) scope X.env (firstIterPos [⟨tg, iter, ifs, 0⟩] pos) newDict false (eval iter X.env) (some (assign (.Name y py) X.env))) _ _ s
  have h : tDcG (.dT []) wi g tt (tbPut tk tv) (own.map (·.2)) σ H (fun x H1 => gName i x σ H1 D.nx) := h
  refine wpAny_bind (thn (dcG_core (Qf := fun _ s' => SP X pins D .next s') (more := fun D ce => put1 kx vx D ce) rfl (fun it D ce => ⟨rfl, fun Q E s h => ?_⟩) (fun h0 h => codeAny_compStart_dict h0 h) (fun H h b => dt_empty h b) hc hN I hi ok hg ht (fun s H C cl fp D => behind_put (hk s H C cl fp) (hv s H C cl fp) rfl hu) hs h (out_name hN hy hyl)) fun _ s' hq => wpAny_pure (wpAny_pure hq))
  show wpAny _ X.A ((compTurn _ 0 it (.ref D) ce).onRaise _) _ _ s
  rw [compTurn_dict]
  exact h
/-! ### two clauses -/
def tbTwo (wi1 : TI) (g1 : TG) (tt1 : TT) (tb : TB) (vs1 : List Nat) : TB := fun D σ H Nx => wi1 σ H fun J H4 => ∃ W : Nat → Nat → Hp → Prop, (∃ m, W 0 m H4) ∧ ∀ j k H, W j k H →
  (J.stop j H ∧ Nx H) ∨ (J.go j H ∧ ∃ Nx1 : Hp → Prop, (∀ H', Nx1 H' → ∃ k', k' < k ∧ W (j + 1) k' H') ∧ ∀ x H', J.yld j H x H' → g1 x (wipe σ vs1) H' fun σ3 H5 => wipe σ3 vs1 = wipe σ vs1 ∧ tt1 σ3 H5 fun b H6 =>
    if b = true then tb D σ3 H6 Nx1 else Nx1 H6)
def again1 (e i1 : Expr) (D : Addr) (env : Env) : Sem Unit := do
  let x ← eval i1 env
  standAt i1.pos
  let x ← foldedSetIterable i1 env x
  let _ ← runOwn (.compStart e 1 (← holding [x] (pyIter x)) (.ref D) env) env
theorem wipe_other {σ : L2.St} {i : Nat} {vs : List Nat} (h : i ∉ vs) : (wipe σ vs)[i]? = σ[i]? := wipe_out h
theorem behind_two {B : Cx} {e i1 tg1 : Expr} {ifs1 : List Expr} {wi1 : TI} {g1 : TG} {tt1 : TT} {tb : TB} {vs vs1 : List Nat} {D : Addr} {more : Sem Unit} (hc : B.calm = true) (hi : PI B tg1 i1 wi1) (hg : PG B tg1 g1) (ht : PTs B ifs1 tt1) (hb : Behind B vs1 D tb more) (hx : B.xe = noE) (hv : ∀ i ∈ vs1, i ∈ vs)
    (turnIs : ∀ it, TurnIs (model B.prog B.w) B.A e 1 i1.pos tg1 ifs1 it (.ref D) B.env more) (startIs : StartIs (model B.prog B.w) B.A e 1) (hs : ∀ x, foldedSetIterable i1 B.env x = pure x) : Behind B vs D (tbTwo wi1 g1 tt1 tb vs1) (again1 e i1 D B.env) := by
  intro pins s σ H Nx I q
  have pi := hi.run pins s σ H _ I q
  rw [hx] at pi
  refine wpAny_bind (thnF pi fun xv s1 h1 => wpAny_bind (wpAny_standAt (wpAny_bind (wpAny_of_eq (hs xv) (wpAny_bind (wpAny_holding (thnF h1 fun iv s2 h2 => ?_)))))))
  obtain ⟨it, fps, tn, J, H2, rfl, I2, T, ta, fa, W, ⟨m0, w0⟩, turn⟩ := h2
  have stands : ∀ {H' : Hp}, (∀ b ∈ fps, H' b = none) → ∀ b ∈ fps, FpOk B pins H' b := fun hn b mb => ⟨hn b mb, (fa b mb).2⟩
  have back : ∀ {σ' : L2.St}, σ' = wipe σ vs1 → Keeps vs σ σ' := fun {σ'} e => by
    subst e
    refine ⟨wipe_length _ _, fun j v z => ?_⟩
    obtain ⟨z1, z2⟩ := wipe_some z
    rw [wipe_other fun y => z2 (hv j y)]
    exact z1
  have loop : codeAny (model B.prog B.w) B.A (.compLoop e 1 (.ref it) (.ref D) B.env) (fun r s' => match r with
      | .ok _ => ∃ σ' H', Inv B pins σ' H' s' ∧ Keeps vs σ σ' ∧ Nx H'
      | .error _ => False) s2 := by
    refine loop_clause (turnIs _) (fun k t => ∃ j H', Inv B pins (wipe σ vs1) H' t ∧ tn j t.heap ∧ (∀ b ∈ fps, H' b = none) ∧ W j k H') ?_ m0 ⟨0, H2, I2.weak (wipe_length _ _) (fun j v z => (wipe_some z).1), ta, fun b mb => (fa b mb).1, w0⟩
    rintro k t5 ⟨j, H5, I5, ta5, n5, w5⟩
    rcases turn j k H5 w5 with ⟨stop, nx⟩ | ⟨go, Nx1, hNx, step⟩
    · refine thnF (T.done B rfl rfl rfl hc j _ t5 _ H5 noE I5 (stands n5) ta5 stop) fun r t6 ⟨er, I6⟩ => ?_
      subst er
      exact ⟨_, H5, I6, back rfl, nx⟩
    · refine thnF (T.item B rfl rfl rfl hc j _ t5 _ H5 noE I5 (stands n5) ta5 go) fun r t6 ⟨u, er, k6⟩ => ?_
      subst er
      refine thnF k6 fun _ t7 ⟨x, H7, I7, r7, y7, ta7, n7⟩ => ?_
      have pg := hg.run _ t7 _ H7 x u _ (I7.pinned (stands n7) (T.obj _ _ ta7)) r7 (step x H7 y7)
      rw [hx] at pg
      refine thnF pg fun _ t8 ⟨σ8, H8, I8, hw8, q8⟩ => ?_
      have pt := ht.run _ t8 σ8 H8 _ I8 q8
      rw [hx] at pt
      refine thnF pt fun b t9 ⟨H9, I9, q9⟩ => ?_
      have ends : ∀ {σ9 : L2.St} {t : Shared} {H' : Hp}, Inv B (pins ++ pinsAt fps t7.heap) σ9 H' t → Keeps vs1 σ8 σ9 → Nx1 H' → ∃ m, m < k ∧ ∃ j H', Inv B pins (wipe σ vs1) H' t ∧ tn j t.heap ∧ (∀ b ∈ fps, H' b = none) ∧ W j m H' := fun {σ9 t H'} I' kp nx => by
        obtain ⟨m', lt, w'⟩ := hNx H' nx
        have pinned : ∀ b ∈ fps, ∀ o, t7.heap.get? b = some o → t.heap.get? b = some o ∧ H' b = none := fun b mb o z =>
          have p := I'.pin (b, o) (List.mem_append_right _ (List.mem_append_right _ (mem_pinsAt mb z)))
          ⟨p.1, p.2.1⟩
        refine ⟨m', lt, j + 1, H', I'.unpinned.weak (by rw [kp.1, wipe_length, ← wipe_length σ8 vs1, hw8, wipe_length]) (fun i v z => kp.2 i v (by rw [hw8]; exact z)), T.keep _ _ _ ta7 fun b mb o z => (pinned b mb o z).1, fun b mb => ?_, w'⟩
        obtain ⟨o, z, _⟩ := T.obj _ _ ta7 b mb
        exact (pinned b mb o z).2
      cases b with
      | false =>
        simp only [Bool.false_eq_true, if_false] at q9 ⊢
        exact ends I9 (keeps_self _ _) q9
      | true =>
        simp only [if_true] at q9 ⊢
        exact thnF (hb _ t9 σ8 H9 Nx1 I9 q9) fun _ t10 ⟨σ9, H10, I10, kp, nx⟩ => ends I10 kp nx
  have start := startIs loop (T.self B.A 0 _ _ _ ta loop)
  refine wpAny_bind (wpAny_runOwn ?_)
  rw [Around.mark_none]
  refine codeAny_mono start fun r s' hr => ?_
  cases r with
  | ok f => exact wpAny_pure hr
  | error e => exact hr.elim
theorem turn2_eq {kx vx tg iter tg1 iter1 : Expr} {ifs ifs1 : List Expr} {scope : Scope} {pos : Pos} {it : Value} {D : Addr} {ce : Env} : compTurn (.DictComp kx vx [⟨tg, iter, ifs, 0⟩, ⟨tg1, iter1, ifs1, 0⟩] scope pos) 0 it (.ref D) ce = (do
      standAt iter.pos
      match ← pyNext it with
      | none => pure (.done .next)
      | some v =>
        letOwnedTupleGo tg it v
        assign tg ce v
        let mut ok := true
        for c in ifs do
          if ok then ok ← isTrue c ce (eval c ce)
        if ok then
          again1 (.DictComp kx vx [⟨tg, iter, ifs, 0⟩, ⟨tg1, iter1, ifs1, 0⟩] scope pos) iter1 D ce
        again (.compLoop (.DictComp kx vx [⟨tg, iter, ifs, 0⟩, ⟨tg1, iter1, ifs1, 0⟩] scope pos) 0 it (.ref D) ce)) := by
  unfold again1
  simp only [bind_assoc, pure_bind]
  rfl
theorem turn_out {prog : Program} {w : World} {A : Around} {kx vx tg iter tg1 iter1 : Expr} {ifs ifs1 : List Expr} {scope : Scope} {pos : Pos} {it : Value} {D : Addr} {ce : Env} : TurnIs (model prog w) A (.DictComp kx vx [⟨tg, iter, ifs, 0⟩, ⟨tg1, iter1, ifs1, 0⟩] scope pos) 0 iter.pos tg ifs it (.ref D) ce (again1 (.DictComp kx vx [⟨tg, iter, ifs, 0⟩, ⟨tg1, iter1, ifs1, 0⟩] scope pos) iter1 D ce) := by
  refine ⟨rfl, fun Q E s h => ?_⟩
  show wpAny _ A ((compTurn _ 0 it (.ref D) ce).onRaise _) _ _ s
  rw [turn2_eq]
  exact h
theorem turn_in {prog : Program} {w : World} {A : Around} {kx vx tg iter tg1 iter1 : Expr} {ifs ifs1 : List Expr} {scope : Scope} {pos : Pos} {it : Value} {D : Addr} {ce : Env} : TurnIs (model prog w) A (.DictComp kx vx [⟨tg, iter, ifs, 0⟩, ⟨tg1, iter1, ifs1, 0⟩] scope pos) 1 iter1.pos tg1 ifs1 it (.ref D) ce (put1 kx vx D ce) := by
  refine ⟨rfl, fun Q E s h => ?_⟩
  show wpAny _ A ((compTurn _ 1 it (.ref D) ce).onRaise _) _ _ s
  exact h
theorem start_in {prog : Program} {w : World} {A : Around} {kx vx tg iter tg1 iter1 : Expr} {ifs ifs1 : List Expr} {scope : Scope} {pos : Pos} : StartIs (model prog w) A (.DictComp kx vx [⟨tg, iter, ifs, 0⟩, ⟨tg1, iter1, ifs1, 0⟩] scope pos) 1 := by
  intro R s it acc env h0 h
  refine codeAny_of_tree ?_
  show wpAny _ A ((compStart (.DictComp kx vx [⟨tg, iter, ifs, 0⟩, ⟨tg1, iter1, ifs1, 0⟩] scope pos) 1 it acc env).onRaise (fun x => do noteFrame x env; standAt theWindowsPlace)) _ _ s
  refine wpAny_notedAt ?_
  unfold compStart
  show wpAny _ A (ask >>= _) _ _ s
  refine wpAny_bind (wpAny_askSetting (wpAny_ite ?_))
  split
  · first
      | exact wpAny_bind (wpAny_pure (wpAny_pure (And.intro rfl h0)))
      | exact wpAny_pure (And.intro rfl h0)
  · first
      | exact wpAny_bind (wpAny_rule (wpAny_bind (wpAny_standAt (wpAny_bind (wpAny_mono h (fun jt s' h' => wpAny_pure (And.intro rfl h')) fun _ _ z => z)))))
      | (refine wpAny_bind (wpAny_rule ?_); show wpAny _ A (standAt iter1.pos >>= _) _ _ s; exact wpAny_bind (wpAny_standAt (wpAny_bind (wpAny_mono h (fun jt s' h' => wpAny_pure (And.intro rfl h')) fun _ _ z => z))))
/-- two clauses; o0: the empty dict, of the kind that is wanted -/
theorem pe_dc2 {kx vx tg iter tg1 iter1 : Expr} {ifs ifs1 : List Expr} {scope : Scope} {own : List (Str × Nat)} {vs1 : List Nat} {pos : Pos} {wi wi1 : TI} {g g1 : TG} {tt tt1 : TT} {tk tv : TE} (hu : X.A.units + 1 < cLine) (hc : X.calm = true) (hN : X.N.Nodup) (hi : PI X tg iter wi) (ok : BlkOk X.N X.env.scope scope own) (hv1 : ∀ i ∈ vs1, i ∈ own.map (·.2))
    (hg : ∀ (s : Shared) (H : Hp) (C : Addr) (cl : List (Str × Addr)) (fp : List Addr), PG (X.blk s H scope (compEnvC scope cl C X.env) fp) tg g)
    (ht : ∀ (s : Shared) (H : Hp) (C : Addr) (cl : List (Str × Addr)) (fp : List Addr), PTs (X.blk s H scope (compEnvC scope cl C X.env) fp) ifs tt)
    (hi1 : ∀ (s : Shared) (H : Hp) (C : Addr) (cl : List (Str × Addr)) (fp : List Addr), PI (X.blk s H scope (compEnvC scope cl C X.env) fp) tg1 iter1 wi1)
    (hg1 : ∀ (s : Shared) (H : Hp) (C : Addr) (cl : List (Str × Addr)) (fp : List Addr), PG (X.blk s H scope (compEnvC scope cl C X.env) fp) tg1 g1)
    (ht1 : ∀ (s : Shared) (H : Hp) (C : Addr) (cl : List (Str × Addr)) (fp : List Addr), PTs (X.blk s H scope (compEnvC scope cl C X.env) fp) ifs1 tt1)
    (hk : ∀ (s : Shared) (H : Hp) (C : Addr) (cl : List (Str × Addr)) (fp : List Addr), PE (X.blk s H scope (compEnvC scope cl C X.env) fp) kx tk)
    (hv : ∀ (s : Shared) (H : Hp) (C : Addr) (cl : List (Str × Addr)) (fp : List Addr), PE (X.blk s H scope (compEnvC scope cl C X.env) fp) vx tv) (hs : ∀ x, foldedSetIterable iter X.env x = pure x := by intro _; rfl) (hs1 : ∀ env x, foldedSetIterable iter1 env x = pure x := by intro _ _; rfl) :
    PE X (.DictComp kx vx [⟨tg, iter, ifs, 0⟩, ⟨tg1, iter1, ifs1, 0⟩] scope pos) (tDcG (.dK []) wi g tt (tbTwo wi1 g1 tt1 (tbPut tk tv) vs1) (own.map (·.2))) := by
  refine ⟨fun pins s σ H Q I h => ?_⟩
  rw [arm_eval_DictComp]
  exact dcG_core (more := fun D ce => again1 _ iter1 D ce) rfl (fun it D ce => turn_out) (fun h0 h => codeAny_compStart_dict h0 h) (fun H h b => dk_empty h b) hc hN I hi ok hg ht (fun s H C cl fp D => behind_two hc (hi1 s H C cl fp) (hg1 s H C cl fp) (ht1 s H C cl fp) (behind_put (hk s H C cl fp) (hv s H C cl fp) rfl hu) rfl hv1 (fun it => turn_in) start_in (hs1 _)) hs h out_value
theorem ps_setDc2 {i : Nat} {y : Str} {py : Pos} {kx vx tg iter tg1 iter1 : Expr} {ifs ifs1 : List Expr} {scope : Scope} {own : List (Str × Nat)} {vs1 : List Nat} {pos spos : Pos} {wi wi1 : TI} {g g1 : TG} {tt tt1 : TT} {tk tv : TE} (hu : X.A.units + 1 < cLine) (hc : X.calm = true) (hN : X.N.Nodup) (hy : X.N[i]? = some y) (hyl : X.env.scope.names.lookup y = some .local)
    (hsw : swapsWith (.DictComp kx vx [⟨tg, iter, ifs, 0⟩, ⟨tg1, iter1, ifs1, 0⟩] scope pos) (some (.Name y py)) spos.line X.env = pure true) (hi : PI X tg iter wi) (ok : BlkOk X.N X.env.scope scope own) (hv1 : ∀ i ∈ vs1, i ∈ own.map (·.2))
    (hg : ∀ (s : Shared) (H : Hp) (C : Addr) (cl : List (Str × Addr)) (fp : List Addr), PG (X.blk s H scope (compEnvC scope cl C X.env) fp) tg g)
    (ht : ∀ (s : Shared) (H : Hp) (C : Addr) (cl : List (Str × Addr)) (fp : List Addr), PTs (X.blk s H scope (compEnvC scope cl C X.env) fp) ifs tt)
    (hi1 : ∀ (s : Shared) (H : Hp) (C : Addr) (cl : List (Str × Addr)) (fp : List Addr), PI (X.blk s H scope (compEnvC scope cl C X.env) fp) tg1 iter1 wi1)
    (hg1 : ∀ (s : Shared) (H : Hp) (C : Addr) (cl : List (Str × Addr)) (fp : List Addr), PG (X.blk s H scope (compEnvC scope cl C X.env) fp) tg1 g1)
    (ht1 : ∀ (s : Shared) (H : Hp) (C : Addr) (cl : List (Str × Addr)) (fp : List Addr), PTs (X.blk s H scope (compEnvC scope cl C X.env) fp) ifs1 tt1)
    (hk : ∀ (s : Shared) (H : Hp) (C : Addr) (cl : List (Str × Addr)) (fp : List Addr), PE (X.blk s H scope (compEnvC scope cl C X.env) fp) kx tk)
    (hv : ∀ (s : Shared) (H : Hp) (C : Addr) (cl : List (Str × Addr)) (fp : List Addr), PE (X.blk s H scope (compEnvC scope cl C X.env) fp) vx tv) (hs : ∀ x, foldedSetIterable iter X.env x = pure x := by intro _; rfl) (hs1 : ∀ env x, foldedSetIterable iter1 env x = pure x := by intro _ _; rfl) :
    PS X (.Assign [.Name y py] (.DictComp kx vx [⟨tg, iter, ifs, 0⟩, ⟨tg1, iter1, ifs1, 0⟩] scope pos) spos) (tAsg (tDcG (.dK []) wi g tt (tbTwo wi1 g1 tt1 (tbPut tk tv) vs1) (own.map (·.2))) (gName i)) := by
  refine ⟨fun pins s σ H D I h => ?_⟩
  rw [exec_Assign_Name_used _ _ _ _ hsw]
  refine wpAny_bind (wpAny_standAt (wpAny_bind ?_))
  show wpAny _ X.A (do let _ ← comprehension (.DictComp kx vx [⟨tg, iter, ifs, 0⟩, ⟨tg1, iter1, ifs1, 0⟩] scope pos) scope X.env (firstIterPos [⟨tg, iter, ifs, 0⟩, ⟨tg1, iter1, ifs1, 0⟩] pos) newDict false (eval iter X.env) (some (assign (.Name y py) X.env))) _ _ s
  have h : tDcG (.dK []) wi g tt (tbTwo wi1 g1 tt1 (tbPut tk tv) vs1) (own.map (·.2)) σ H (fun x H1 => gName i x σ H1 D.nx) := h
  exact wpAny_bind (thn (dcG_core (Qf := fun _ s' => SP X pins D .next s') (more := fun D ce => again1 _ iter1 D ce) rfl (fun it D ce => turn_out) (fun h0 h => codeAny_compStart_dict h0 h) (fun H h b => dk_empty h b) hc hN I hi ok hg ht (fun s H C cl fp D => behind_two hc (hi1 s H C cl fp) (hg1 s H C cl fp) (ht1 s H C cl fp) (behind_put (hk s H C cl fp) (hv s H C cl fp) rfl hu) rfl hv1 (fun it => turn_in) start_in (hs1 _)) hs h (out_name hN hy hyl)) fun _ s' hq => wpAny_pure (wpAny_pure hq))
end
end My
/-! sorted(xs) by data: what is told does not hang on the sequence -/
namespace My
open PySem PySem.W L2 PyProof.Rows
/-- how items are read as data that may be set in sequence: tuples, alike, no two of them equal -/
structure EncOk {α : Type} (enc : α → PyData) : Prop where
  al : ∀ a b, alike (enc a) (enc b) = true
  inj : ∀ a b, PyData.eqv (enc a) (enc b) = true → a = b
  tup : ∀ a, ∃ x r, enc a = .tuple (x :: r)
  deep : ∀ a, (enc a).depth ≤ 8
theorem toks_inj {x y : PyData} (h : alike x y = true) (e : keyToks x = keyToks y) : PyData.eqv x y = true := by
  cases c : PyData.eqv x y with
  | true => rfl
  | false =>
    have h2 := (toks_eqv x y h).2 c [] [.inl 0]
    rw [e, lex_pre] at h2
    have h3 : PyProof.Rows.lexLt itemOrd (keyToks y) (keyToks y) = false := lex_irrefl _
    rw [h3] at h2
    exact absurd h2 (by decide)
section
variable {α : Type} {enc : α → PyData}
def sortE (enc : α → PyData) (A : List α) : List α := A.mergeSort (dataLe false enc)
theorem sortE_perm (A : List α) : (sortE enc A).Perm A := List.mergeSort_perm _ _
theorem sortE_mem {A : List α} {x : α} : x ∈ sortE enc A ↔ x ∈ A := (sortE_perm A).mem_iff
theorem sortE_map (A : List α) : (A.map enc).mergeSort (dataLe false id) = (sortE enc A).map enc := (List.map_mergeSort (f := enc) (r := dataLe false enc) (s := dataLe false id) (l := A) (fun a _ b _ => rfl)).symm
theorem le_def (a b : α) : dataLe false enc a b = !dataLt (enc b) (enc a) := rfl
theorem le_total' (a b : α) : (dataLe false enc a b || dataLe false enc b a) = true := by
  rw [le_def, le_def]
  cases h1 : dataLt (enc b) (enc a) with
  | false => rfl
  | true =>
    cases h2 : dataLt (enc a) (enc b) with
    | false => rfl
    | true =>
      have := lex_trans (O := itemOrd) _ _ _ h1 h2
      rw [show PyProof.Rows.lexLt itemOrd (keyToks (enc b)) (keyToks (enc b)) = false from lex_irrefl _] at this
      cases this
theorem le_trans' (a b c : α) (h : dataLe false enc a b = true) (k : dataLe false enc b c = true) : dataLe false enc a c = true := by
  rw [le_def] at h k ⊢
  cases e : dataLt (enc c) (enc a) with
  | false => rfl
  | true =>
    rcases lex_negTrans (O := itemOrd) _ (keyToks (enc b)) _ e with z | z
    · rw [show dataLt (enc c) (enc b) = true from z] at k
      cases k
    · rw [show dataLt (enc b) (enc a) = true from z] at h
      cases h
theorem le_antisymm' (E : EncOk enc) (a b : α) (h : dataLe false enc a b = true) (k : dataLe false enc b a = true) : a = b := by
  rw [le_def] at h k
  refine E.inj a b (toks_inj (E.al a b) (lex_total (O := itemOrd) _ _ ?_ ?_))
  · simpa [dataLt] using k
  · simpa [dataLt] using h
theorem sortE_eq (E : EncOk enc) {A B : List α} (h : A.Perm B) : sortE enc A = sortE enc B := by
  have hA : (sortE enc A).Pairwise fun a b => dataLe false enc a b = true := List.pairwise_mergeSort le_trans' le_total' A
  have hB : (sortE enc B).Pairwise fun a b => dataLe false enc a b = true := List.pairwise_mergeSort le_trans' le_total' B
  exact (((sortE_perm A).trans h).trans (sortE_perm B).symm).eq_of_pairwise (fun a b _ _ => le_antisymm' E a b) hA hB
theorem paired_at {β : Type} {F : Addr → β → Prop} : ∀ {ts : List Addr} {L : List β}, Paired F ts L → ∀ {j : Nat} {z : V}, (ts.map V.ref)[j]? = some z → ∃ p b, z = .ref p ∧ p ∈ ts ∧ L[j]? = some b ∧ F p b
  | _, _, .nil, _, _, h => by simp at h
  | _, _, .cons r _, 0, _, h => by
    cases h
    exact ⟨_, _, rfl, List.mem_cons_self, rfl, r⟩
  | _, _, .cons _ t, j + 1, _, h => by
    obtain ⟨p, b, e, m, k1, k2⟩ := paired_at t (j := j) (by simpa using h)
    exact ⟨p, b, e, List.mem_cons_of_mem _ m, by simpa using k1, k2⟩
theorem sorted_pick {F : Addr → α → Prop} (inj : ∀ a b, enc a = enc b → a = b) {ts : List Addr} {A : List α} (hP : Paired F ts A) : ∀ {zs : List V} {M : List α}, Paired (fun (z : V) (d : PyData) => ∃ j : Nat, (ts.map V.ref)[j]? = some z ∧ (A.map enc)[j]? = some d) zs (M.map enc) → ∃ us : List Addr, zs = us.map V.ref ∧ Paired F us M ∧ ∀ u ∈ us, u ∈ ts
  | _, [], .nil => ⟨[], rfl, .nil, fun _ h => by cases h⟩
  | _, m :: M, .cons h t => by
    obtain ⟨us, rfl, hu, hm⟩ := sorted_pick inj hP t
    obtain ⟨j, h1, h2⟩ := h
    obtain ⟨p, e, rfl, hp, he, hf⟩ := paired_at hP h1
    rw [List.getElem?_map, he] at h2
    have h3 := inj _ _ (Option.some.inj h2)
    subst h3
    exact ⟨p :: us, rfl, .cons hf hu, fun u z => (List.mem_cons.mp z).elim (fun z => z ▸ hp) (hm u)⟩
theorem eqv_refl_of {x y : PyData} (h : alike x y = true) (e : x = y) : PyData.eqv x y = true := toks_inj h (by rw [e])
theorem dpAll_of {K : PySem.W.Frag} {H : Hp} {F : Addr → α → Prop} (hd : ∀ p e, F p e → Dp K H (.ref p) (enc e)) : ∀ {ts : List Addr} {A : List α}, Paired F ts A → DpAll K H (ts.map V.ref) (A.map enc)
  | _, _, .nil => .nil
  | _, _, .cons r t => .cons (hd _ _ r) (dpAll_of hd t)
theorem pairedP_len {β : Type} {F : Addr → β → Prop} : ∀ {ts : List Addr} {L : List β}, Paired F ts L → ts.length = L.length
  | _, _, .nil => rfl
  | _, _, .cons _ t => congrArg Nat.succ (pairedP_len t)
/-- sorted(xs), read -/
theorem sort_read {K : PySem.W.Frag} {H : Hp} {l : Addr} {F : Addr → α → Prop} {ts : List Addr} {A : List α} {Q : VK} (E : EncOk enc) (hl : SqL K H l (ts.map V.ref)) (hP : Paired F ts A) (hd : ∀ p e, F p e → Dp K H (.ref p) (enc e)) (hlen : A.length ≤ 100000)
    (q : ∀ (us : List Addr) (p : Addr), Paired F us (sortE enc A) → (∀ u ∈ us, u ∈ ts) → H p = none → Q (.ref p) (upd H p (.lst (us.map V.ref)))) : rSortD K [.ref l] H Q := by
  refine ⟨l, _, A.map enc, rfl, hl, dpAll_of hd hP, AllAlike.of E.al, Sortable.tuples E.tup, fun d hdm => ?_, by rw [List.length_map, pairedP_len hP]; exact hlen, fun zs p hz np => ?_⟩
  · obtain ⟨a, _, rfl⟩ := List.mem_map.mp hdm
    exact E.deep a
  · rw [sortE_map] at hz
    obtain ⟨us, rfl, h1, h2⟩ := sorted_pick (fun a b e => E.inj a b (eqv_refl_of (E.al a b) e)) hP hz
    exact q us p h1 h2 np
end
/-- == and != of data within a comprehension -/
theorem op_eqDK {X : Cx} {K : PySem.W.Frag} (h : X.K = K) (hu : X.A.units + 64 < cLine) : OpR X (compareOp .Eq) (rEqD K) := h ▸ op_eqD hu
theorem op_neDK {X : Cx} {K : PySem.W.Frag} (h : X.K = K) (hu : X.A.units + 64 < cLine) : OpR X (compareOp .NotEq) (rNeD K) := h ▸ op_neD hu
theorem sl_listK {X : Cx} {K : PySem.W.Frag} (h : X.K = K) : SlR X (rSlL K) := h ▸ sl_list
/-- pairs of numbers -/
def enc2 (e : Nat × Nat) : PyData := .tuple [.int (e.1 : Int), .int (e.2 : Int)]
theorem enc2_ok : EncOk enc2 := by
  refine ⟨fun a b => rfl, fun a b h => ?_, fun a => ⟨_, _, rfl⟩, fun a => ?_⟩
  · have h : (((a.1 : Int) == (b.1 : Int)) && (((a.2 : Int) == (b.2 : Int)) && true)) = true := h
    simp only [Bool.and_eq_true, beq_iff_eq, and_true] at h
    exact Prod.ext (by omega) (by omega)
  · show PyData.depth (.tuple [.int (a.1 : Int), .int (a.2 : Int)]) ≤ 8
    simp [PyData.depth, PyData.depthAll]
/-- triples of numbers -/
def enc3 (z : Nat × Nat × Nat) : PyData := .tuple [.int (z.1 : Int), .int (z.2.1 : Int), .int (z.2.2 : Int)]
theorem enc3_ok : EncOk enc3 := by
  refine ⟨fun a b => rfl, fun a b h => ?_, fun a => ⟨_, _, rfl⟩, fun a => ?_⟩
  · have h : (((a.1 : Int) == (b.1 : Int)) && (((a.2.1 : Int) == (b.2.1 : Int)) && (((a.2.2 : Int) == (b.2.2 : Int)) && true))) = true := h
    simp only [Bool.and_eq_true, beq_iff_eq, and_true] at h
    exact Prod.ext (by omega) (Prod.ext (by show a.2.1 = b.2.1; omega) (by show a.2.2 = b.2.2; omega))
  · show PyData.depth (.tuple [.int (a.1 : Int), .int (a.2.1 : Int), .int (a.2.2 : Int)]) ≤ 8
    simp [PyData.depth, PyData.depthAll]
end My
set_option maxHeartbeats 4000000
/-! standings and their steps, pure -/
namespace My
open PySem L2 PyProof.Rows
def endAt (ts : List (Nat × Nat)) (x : Nat) : Nat := (ts.getD x (0, 0)).2
def behL (ts : List (Nat × Nat)) (W : List Nat) (n : Nat) : List (Nat × Nat) := (List.range n).map fun i => (endAt ts (W.getD i 0), i + 1)
def std0 (N : Nat) (ts : List (Nat × Nat)) (W : List Nat) : List (Nat × Nat) := (List.range N).map (fun p => (p, 0)) ++ behL ts W (W.length - 1)
theorem endAt_of {ts : List (Nat × Nat)} {x : Nat} {e : Nat × Nat} (h : ts[x]? = some e) : endAt ts x = e.2 := by
  unfold endAt
  rw [List.getD_eq_getElem?_getD, h]
  rfl
section
variable {N : Nat} {ts : List (Nat × Nat)} {W : List Nat}
theorem behL_mem {n : Nat} {s : Nat × Nat} : s ∈ behL ts W n ↔ ∃ i, i < n ∧ s = (endAt ts (W.getD i 0), i + 1) := by
  unfold behL
  rw [List.mem_map]
  exact ⟨fun ⟨i, h1, h2⟩ => ⟨i, List.mem_range.mp h1, h2.symm⟩, fun ⟨i, h1, h2⟩ => ⟨i, List.mem_range.mpr h1, h2.symm⟩⟩
theorem std0_mem {s : Nat × Nat} : s ∈ std0 N ts W ↔ (s.2 = 0 ∧ s.1 < N) ∨ ∃ i, i + 1 < W.length ∧ s = (endAt ts (W.getD i 0), i + 1) := by
  unfold std0
  rw [List.mem_append, behL_mem, List.mem_map]
  constructor
  · rintro (⟨p, hp, rfl⟩ | ⟨i, hi, rfl⟩)
    · exact .inl ⟨rfl, List.mem_range.mp hp⟩
    · exact .inr ⟨i, by omega, rfl⟩
  · rintro (⟨h1, h2⟩ | ⟨i, hi, rfl⟩)
    · exact .inl ⟨s.1, List.mem_range.mpr h2, Prod.ext rfl h1.symm⟩
    · exact .inr ⟨i, by omega, rfl⟩
theorem std0_nodup : (std0 N ts W).Nodup := by
  unfold std0
  rw [List.nodup_append]
  refine ⟨?_, ?_, fun a ha b hb e => ?_⟩
  · exact List.Pairwise.map _ (R := (· < ·)) (fun a b (h : a < b) e => by have := congrArg Prod.fst e; dsimp only at this; omega) List.pairwise_lt_range
  · exact List.Pairwise.map _ (R := (· < ·)) (fun a b (h : a < b) e => by have := congrArg Prod.snd e; dsimp only at this; omega) List.pairwise_lt_range
  · subst e
    obtain ⟨p, _, rfl⟩ := List.mem_map.mp ha
    obtain ⟨i, _, e⟩ := behL_mem.mp hb
    have := congrArg Prod.snd e
    dsimp only at this
    omega
theorem std0_len : (std0 N ts W).length = N + (W.length - 1) := by
  unfold std0 behL
  rw [List.length_append, List.length_map, List.length_map, List.length_range, List.length_range]
theorem std0_state {s : Nat × Nat} (h0 : 0 < W.length) (h : s ∈ std0 N ts W) : s.2 < W.length := by
  rcases std0_mem.mp h with ⟨h1, _⟩ | ⟨i, h1, rfl⟩
  · omega
  · exact h1
theorem wAt {i : Nat} (h : i < W.length) : W[i]? = some (W.getD i 0) := by
  rw [List.getD_eq_getElem?_getD, List.getElem?_eq_getElem h]
  rfl
theorem std0_place {s : Nat × Nat} (ho : OkWeb N ts) (hW : Chain ts W) (h : s ∈ std0 N ts W) : s.1 < N := by
  rcases std0_mem.mp h with ⟨_, h⟩ | ⟨i, h, rfl⟩
  · exact h
  · have h1 := hW.num _ (List.mem_of_getElem? (wAt (W := W) (i := i) (by omega)))
    have e : ts[W.getD i 0]? = some (ts[W.getD i 0]'h1) := List.getElem?_eq_getElem h1
    rw [endAt_of e]
    exact (ho.ok _ (List.mem_of_getElem? e)).2
/-- the ties by which one goes on from a standing -/
def outT (ts : List (Nat × Nat)) (W : List Nat) (s : Nat × Nat) : List Nat := (frm ts s.1).filter fun x => decide (nxt W s.2 x < W.length)
def goT (ts : List (Nat × Nat)) (W : List Nat) (s : Nat × Nat) (x : Nat) : Nat × Nat := (endAt ts x, nxt W s.2 x)
def stepsOf (ts : List (Nat × Nat)) (W : List Nat) (K : List (Nat × Nat)) : List ((Nat × Nat) × (Nat × Nat) × Nat) := K.flatMap fun s => (outT ts W s).map fun x => (s, goT ts W s x, x)
theorem outT_mem {s : Nat × Nat} {x : Nat} : x ∈ outT ts W s ↔ (∃ v, ts[x]? = some (s.1, v)) ∧ nxt W s.2 x < W.length := by
  unfold outT
  rw [List.mem_filter, frmN_mem, decide_eq_true_iff]
  constructor
  · rintro ⟨⟨h1, h2⟩, h3⟩
    rw [List.getElem?_eq_getElem h1] at h2 ⊢
    refine ⟨⟨ts[x].2, ?_⟩, h3⟩
    have := Option.some.inj h2
    rw [← this]
  · rintro ⟨⟨v, h⟩, h3⟩
    exact ⟨⟨(List.getElem?_eq_some_iff.mp h).1, by rw [h]; rfl⟩, h3⟩
/-- what is read last is what leads to the standing -/
theorem std0_next {s : Nat × Nat} {x : Nat} (ho : OkWeb N ts) (hs : s.2 < W.length) (hx : x ∈ outT ts W s) : goT ts W s x ∈ std0 N ts W := by
  obtain ⟨⟨v, h1⟩, h2⟩ := outT_mem.mp hx
  rw [std0_mem]
  unfold goT
  rw [endAt_of h1]
  cases e : nxt W s.2 x with
  | zero => exact .inl ⟨rfl, (ho.ok _ (List.mem_of_getElem? h1)).2⟩
  | succ k =>
    obtain ⟨_, a2, _⟩ := nxt_is (t := x) hs
    rw [e] at a2 h2
    rw [take_step (by omega), snoc_suffix] at a2
    refine .inr ⟨k, by omega, ?_⟩
    have : W.getD k 0 = x := by rw [← a2.1, List.getD_eq_getElem?_getD, List.getElem?_eq_getElem (by omega)]; rfl
    rw [this, endAt_of h1]
/-- a lot that holds the beginnings and goes on holds all standings -/
theorem std0_all {S : Nat × Nat → Prop} (ho : OkWeb N ts) (hW : Chain ts W) (h0 : ∀ p, p < N → S (p, 0)) (hc : ∀ s x, S s → x ∈ outT ts W s → S (goT ts W s x)) : ∀ s ∈ std0 N ts W, S s := by
  have key : ∀ i, i + 1 < W.length → S (endAt ts (W.getD i 0), i + 1) := by
    intro i
    induction i with
    | zero =>
      intro h
      have h1 := hW.num _ (List.mem_of_getElem? (wAt (W := W) (i := 0) (by omega)))
      have e : ts[W.getD 0 0]? = some (ts[W.getD 0 0]'h1) := List.getElem?_eq_getElem h1
      have hn : nxt W 0 (W.getD 0 0) = 1 := nxt_hit (wAt (by omega))
      have := hc ((ts[W.getD 0 0]'h1).1, 0) (W.getD 0 0) (h0 _ (ho.ok _ (List.mem_of_getElem? e)).1) (outT_mem.mpr ⟨⟨_, e⟩, by show nxt W 0 _ < _; rw [hn]; exact h⟩)
      unfold goT at this
      rw [show nxt W ((ts[W.getD 0 0]'h1).1, 0).2 (W.getD 0 0) = 1 from hn] at this
      exact this
    | succ i ih =>
      intro h
      obtain ⟨a, b, ea, eb, s1, s2, s3, s4, s5⟩ := hW.on i (by omega)
      rw [wAt (by omega)] at s1 s2
      cases s1
      cases s2
      have hn : nxt W (i + 1) (W.getD (i + 1) 0) = i + 2 := nxt_hit (wAt (by omega))
      have e1 : endAt ts (W.getD i 0) = eb.1 := by rw [endAt_of s3, s5]
      have := hc (endAt ts (W.getD i 0), i + 1) (W.getD (i + 1) 0) (ih (by omega)) (outT_mem.mpr ⟨⟨eb.2, by rw [s4, e1]⟩, by show nxt W (i + 1) _ < _; rw [hn]; exact h⟩)
      unfold goT at this
      rw [show nxt W (endAt ts (W.getD i 0), i + 1).2 (W.getD (i + 1) 0) = i + 2 from hn] at this
      exact this
  intro s hs
  rcases std0_mem.mp hs with ⟨h1, h2⟩ | ⟨i, h, rfl⟩
  · have := h0 s.1 h2
    rwa [show (s.1, 0) = s from Prod.ext rfl h1.symm] at this
  · exact key i h
end
end My
set_option maxHeartbeats 4000000
namespace My
open PySem L2 PyProof.Rows
/-- a dict comprehension over anything that is walked -/
theorem dcG_it {J : It} {n : Nat} {G : Hp → Prop} {Y : Nat → Hp → V → Hp → Prop} (w : Walk J n G Y) {o0 : HO} {g : TG} {tt : TT} {tb : TB} {vs : List Nat} {σ : L2.St} {H1 : Hp} {D : Addr} {Qd : Hp → Prop} (Pv : Nat → Hp → Prop) (p0 : Pv 0 (upd H1 D o0)) (pG : ∀ i H, i ≤ n → Pv i H → G H)
    (ps : ∀ i x H H', i < n → Pv i H → Y i H x H' → g x (wipe σ vs) H' fun σ2 H2 => wipe σ2 vs = wipe σ vs ∧ tt σ2 H2 fun b H3 => if b = true then tb D σ2 H3 (Pv (i + 1)) else Pv (i + 1) H3) (pd : ∀ H, Pv n H → Qd H) :
    ∃ W : Nat → Nat → Hp → Prop, (∃ m, W 0 m (upd H1 D o0)) ∧ ∀ i m H, W i m H →
      (J.stop i H ∧ Qd H) ∨ (J.go i H ∧ ∃ Nx : Hp → Prop, (∀ H', Nx H' → ∃ m', m' < m ∧ W (i + 1) m' H') ∧ ∀ x H', J.yld i H x H' → g x (wipe σ vs) H' fun σ2 H2 => wipe σ2 vs = wipe σ vs ∧ tt σ2 H2 fun b H3 => if b = true then tb D σ2 H3 Nx else Nx H3) := by
  refine ⟨fun i m H => m = n - i ∧ i ≤ n ∧ Pv i H, ⟨n, rfl, Nat.zero_le _, p0⟩, ?_⟩
  rintro i m H ⟨rfl, hi, p⟩
  have hg := pG i H hi p
  rcases Nat.lt_or_ge i n with c | c
  · exact .inr ⟨w.goes i H c hg, Pv (i + 1), fun H' p' => ⟨n - (i + 1), by omega, rfl, c, p'⟩, fun x H' y => ps i x H H' c p (w.yields i H x H' c hg y)⟩
  · have e : i = n := by omega
    subst e
    exact .inl ⟨w.stops H hg, pd H p⟩
theorem two_it {J : It} {n : Nat} {G : Hp → Prop} {Y : Nat → Hp → V → Hp → Prop} (w : Walk J n G Y) {g : TG} {tt : TT} {tb : TB} {vs : List Nat} {σ : L2.St} {H4 : Hp} {D : Addr} {Nx : Hp → Prop} (Pv : Nat → Hp → Prop) (p0 : Pv 0 H4) (pG : ∀ i H, i ≤ n → Pv i H → G H)
    (ps : ∀ i x H H', i < n → Pv i H → Y i H x H' → g x (wipe σ vs) H' fun σ2 H2 => wipe σ2 vs = wipe σ vs ∧ tt σ2 H2 fun b H3 => if b = true then tb D σ2 H3 (Pv (i + 1)) else Pv (i + 1) H3) (pd : ∀ H, Pv n H → Nx H) :
    ∃ W : Nat → Nat → Hp → Prop, (∃ m, W 0 m H4) ∧ ∀ j k H, W j k H →
      (J.stop j H ∧ Nx H) ∨ (J.go j H ∧ ∃ Nx1 : Hp → Prop, (∀ H', Nx1 H' → ∃ k', k' < k ∧ W (j + 1) k' H') ∧ ∀ x H', J.yld j H x H' → g x (wipe σ vs) H' fun σ3 H5 => wipe σ3 vs = wipe σ vs ∧ tt σ3 H5 fun b H6 => if b = true then tb D σ3 H6 Nx1 else Nx1 H6) := by
  refine ⟨fun i m H => m = n - i ∧ i ≤ n ∧ Pv i H, ⟨n, rfl, Nat.zero_le _, p0⟩, ?_⟩
  rintro i m H ⟨rfl, hi, p⟩
  have hg := pG i H hi p
  rcases Nat.lt_or_ge i n with c | c
  · exact .inr ⟨w.goes i H c hg, Pv (i + 1), fun H' p' => ⟨n - (i + 1), by omega, rfl, c, p'⟩, fun x H' y => ps i x H H' c p (w.yields i H x H' c hg y)⟩
  · have e : i = n := by omega
    subst e
    exact .inl ⟨w.stops H hg, pd H p⟩
def T3 (H : Hp) (p : Addr) (z : Nat × Nat × Nat) : Prop := H p = some (.tup [.int (z.1 : Int), .int (z.2.1 : Int), .int (z.2.2 : Int)])
def T3s (H : Hp) (l : Addr) (Z : List (Nat × Nat × Nat)) : Prop := ∃ as : List Addr, H l = some (.lst (as.map V.ref)) ∧ Paired (T3 H) as Z
theorem T3s.same {H H' : Hp} {l : Addr} {Z : List (Nat × Nat × Nat)} (h : T3s H l Z) (s : Same H H') : T3s H' l Z := by
  obtain ⟨as, h1, h2⟩ := h
  exact ⟨as, s _ _ h1, paired_mono (fun p z hp => s _ _ hp) h2⟩
theorem T3s.push {H : Hp} {l tp : Addr} {Z : List (Nat × Nat × Nat)} {z : Nat × Nat × Nat} (h : T3s H l Z) (ht : T3 H tp z) : ∃ xs, H l = some (.lst xs) ∧ xs.length = Z.length ∧ T3s (upd H l (.lst (xs ++ [.ref tp]))) l (Z ++ [z]) := by
  obtain ⟨as, h1, h2⟩ := h
  have key : ∀ (q : Addr) (y : Nat × Nat × Nat), T3 H q y → T3 (upd H l (.lst (as.map V.ref ++ [.ref tp]))) q y := fun q y hq => by
    show upd _ _ _ q = _
    rw [upd_ne (ne_of hq h1 (by intro z; cases z))]
    exact hq
  exact ⟨_, h1, by rw [List.length_map]; exact paired_len h2, as ++ [tp], by rw [upd_same, List.map_append]; rfl, paired_app (paired_mono key h2) (key _ _ ht)⟩
theorem dp_t3 {K : PySem.W.Frag} {H : Hp} {p : Addr} {z : Nat × Nat × Nat} (h : T3 H p z) : Dp K H (.ref p) (enc3 z) := .tup (SqT.of h) (.cons (.int _) (.cons (.int _) (.cons (.int _) .nil)))
theorem dp_t2 {K : PySem.W.Frag} {H : Hp} {p : Addr} {e : Nat × Nat} (h : TupAt H p e) : Dp K H (.ref p) (enc2 e) := .tup (SqT.of h) (.cons (.int _) (.cons (.int _) .nil))
def kk (s : Nat × Nat) : List Key := [.inl (s.1 : Int), .inl (s.2 : Int)]
theorem kk_inj {a b : Nat × Nat} (h : kk a = kk b) : a = b := by
  have h1 := Sum.inl.inj (List.cons.inj h).1
  have h2 := Sum.inl.inj (List.cons.inj (List.cons.inj h).2).1
  exact Prod.ext (by omega) (by omega)
section
variable {P : Program} {w : World} {K : PySem.W.Frag} {mg : Str → Option Value} {base : Heap} {C : Addr}
def sp_standings (_ : PySem.W.Frag) (C : Addr) : Sp := fun vs H Q _ => ∃ a N ts s W, vs = [.ref a, .ref s] ∧ WebAt C a N ts H ∧ OkWeb N ts ∧ SeqAt H s W ∧ Chain ts W ∧ W.length ≤ 400 ∧ ∀ H' l, H l = none → Same H H' → TiesAt H' l (sortE enc2 (std0 N ts W)) → Q (.ref l) H'
theorem ok_standings (D : Def K mg "_standings" s_standings ["web", "walk"]) (B : Bs mg) (Glb : Glo mg) (WK : WebK K mg C)
    (hWeb_ties : GoodM P w K mg base C "ties" "Web.ties" sWeb_ties ["self"] 1 (spWeb_ties K C))
    (hWeb_places : GoodP P w K mg base C "places" "Web.places" sWeb_places ["self"] 1 (spWeb_places K C)) :
    Good P w K mg base "_standings" s_standings ["web", "walk"] 3 (sp_standings K C) := by
  refine D.good fun f fd F => ?_
  obtain ⟨fWeb_ties, dWeb_ties, OWeb_ties, tWeb_ties, bWeb_ties, FWeb_ties⟩ := hWeb_ties
  obtain ⟨qWeb_places, fWeb_places, dWeb_places, OWeb_places, pWeb_places, bWeb_places⟩ := hWeb_places
  refine F.ok sc_standings (fun vs H Q E h => ?_) (fun cdv A outer s H vs Q E hr h => ?_)
  · obtain ⟨a, N, ts, s, W, rfl, hw, ho, hs, hW, hWl, q⟩ := h
    first | rfl | (rcases h with ⟨_, _, rfl, _⟩ | ⟨_, rfl, _⟩ <;> rfl)
  obtain ⟨a, N, ts, s, W, rfl, hw, ho, hs, hW, hWl, q⟩ := h
  refine ⟨_, (pss_cons (ps_set (i := 2) sc_standings.nd rfl (by first | exact Or.inl rfl | exact Or.inr rfl) (pe_meth0 (pv 0) WK.cl tWeb_ties OWeb_ties (hr.mono (by decide)) bWeb_ties .nil pass0))
  (pss_cons (ps_setLc (i := 3) (own := [("state", 4)]) (g := gName 4) (by rfl) sc_standings.nd rfl rfl (sw_true rfl rfl rfl (by decide +kernel)) (pi_range2 (by rfl) B.range (pa_cons pe_int (pa_cons (pe_callB call_len_seq (by rfl) B.len (by decide +kernel) (pa_cons (pv 1) pa_nil)) pa_nil))) (blkOk_by (own := [("state", 4)]) (N := ["web", "walk", "ties", "behind", "state", "place"]) (sc := defScope s_standings) (by decide +kernel)) (fun _ _ _ _ _ => (pg_name (i := 4) sc_standings.nd rfl (by first | exact Or.inl rfl | exact Or.inr rfl))) (fun _ _ _ _ _ => pts_nil) (fun _ _ _ _ _ => (pe_tup (pa_cons (pe_ix (ix_tupK (K := K) rfl) (pe_ix (ix_listK (K := K) rfl) (pv 2) (pe_ix (ix_seqK (K := K) rfl) (pv 1) (pe_op op_sub (pv 4) pe_int) (by exact fun _ _ => rfl)) (by exact fun _ _ => rfl)) pe_int (by exact fun _ _ => rfl)) (pa_cons (pv 4) pa_nil)))))
  (pss_one (ps_ret (pe_callB (cr_sortD hr.units) (by rfl) B.sorted (by decide +kernel) (pa_cons (pe_op op_cat (pe_lc (own := [("place", 5)]) (g := gName 5) (by rfl) sc_standings.nd (pi_range1 (by rfl) B.range (pa_cons (pe_prop (pv 0) WK.cl pWeb_places OWeb_places (hr.mono (by decide)) bWeb_places .nil pass0 (by rfl)) pa_nil)) (blkOk_by (own := [("place", 5)]) (N := ["web", "walk", "ties", "behind", "state", "place"]) (sc := defScope s_standings) (by decide +kernel)) (fun _ _ _ _ _ => (pg_name (i := 5) sc_standings.nd rfl (by first | exact Or.inl rfl | exact Or.inr rfl))) (fun _ _ _ _ _ => pts_nil) (fun _ _ _ _ _ => (pe_tup (pa_cons (pv 5) (pa_cons pe_int pa_nil))))) (pv 3)) pa_nil)))))), ?_⟩
  have h0 := hW.n0
  have hN := ho.n1
  obtain ⟨dx, tl0, fl, ol, g1, _⟩ := id hw
  refine ⟨_, rfl, a, dx, _, rfl, g1, (by rfl), a, N, ts, rfl, hw, fun H1 tl ntl hS1 hT1 => ?_⟩
  have hs1 := hs.same hS1
  refine ⟨_, rfl, s, _, rfl, hs1.seq, _, _, rfl, ⟨by omega, by omega, by rw [iv_length]; omega, by rw [iv_length]; omega⟩, fun D nD => ?_⟩
  rw [iv_length, show ((W.length : Int) - 1).toNat = W.length - 1 by omega]
  refine lc_range (lo := 1) (n := W.length - 1) (fun i H' => Same H1 H' ∧ TiesAt H' D (behL ts W i)) ⟨same_new nD _, TiesAt.nil⟩ ?_ ?_
  · rintro i H2 hi ⟨hS2, hD2⟩
    rw [show (1 : Int) + (i : Int) = ((i + 1 : Nat) : Int) by omega]
    have hwi := wAt (W := W) (i := i) (by omega)
    have hlt := hW.num _ (List.mem_of_getElem? hwi)
    have he : ts[W.getD i 0]? = some (ts[W.getD i 0]'hlt) := List.getElem?_eq_getElem hlt
    generalize ts[W.getD i 0]'hlt = e at he
    obtain ⟨xs, p, k1, k2, k3⟩ := (hT1.same hS2).at_ he
    refine ⟨rfl, _, rfl, _, rfl, _, rfl, _, _, rfl, rfl, (hs1.same hS2).ix (b := W.getD i 0) (by rw [show ((i + 1 : Nat) : Int) - 1 = (i : Int) by omega]; exact iv_at hwi) ⟨_, _, _, .ref p, rfl, rfl, SqL.of k1, k2, _, _, _, .int (e.2 : Int), rfl, rfl, SqT.of k3, rfl, _, rfl, (by show 2 ≤ sizeLine; decide), fun tp ntp => ?_⟩⟩
    obtain ⟨ys, j1, j2, j3⟩ := hD2.push (u := e.2) (v := i + 1) ntp
    refine ⟨ys, j1, by rw [j2, behL, List.length_map, List.length_range]; exact sml1000 (by omega), same_upd (hS2.trans (same_new ntp _)) nD, ?_⟩
    rw [behL, List.range_succ, List.map_append]
    show TiesAt _ _ (_ ++ [(endAt ts (W.getD i 0), i + 1)])
    rw [endAt_of he]
    exact j3
  rintro H2 ⟨hS2, hD2⟩
  obtain ⟨dx, tl0, fl, ol, g1, _⟩ := id ((hw.same hS1).same hS2)
  refine ⟨_, rfl, a, dx, _, rfl, g1, a, N, ts, rfl, (hw.same hS1).same hS2, _, rfl, by omega, by omega, fun D2 nD2 => ?_⟩
  rw [show ((N : Nat) : Int).toNat = N by omega]
  refine lc_range (lo := 0) (n := N) (fun i H' => Same H2 H' ∧ TiesAt H' D2 ((List.range i).map fun p => (p, 0))) ⟨same_new nD2 _, TiesAt.nil⟩ ?_ ?_
  · rintro i H3 hi ⟨hS3, hD3⟩
    rw [Int.zero_add]
    refine ⟨rfl, _, rfl, (by show 2 ≤ sizeLine; decide), fun tp ntp => ?_⟩
    obtain ⟨ys, j1, j2, j3⟩ := hD3.push (u := i) (v := 0) ntp
    refine ⟨ys, j1, by rw [j2, List.length_map, List.length_range]; exact sml1000 (by omega), same_upd (hS3.trans (same_new ntp _)) nD2, ?_⟩
    rw [List.range_succ, List.map_append]
    exact j3
  rintro H3 ⟨hS3, hD3⟩
  have nl0 : ∀ l, H3 l = none → H l = none := fun l nl => ((hS1.trans hS2).trans hS3).free nl
  obtain ⟨xs, hxs, hxl⟩ := hD3.get
  obtain ⟨ys, hys, hyl⟩ := (hD2.same hS3).get
  refine ⟨_, rfl, D2, D, _, _, rfl, rfl, hxs, hys, ?_, fun l nl => ?_⟩
  · rw [hxl, hyl, behL, List.length_map, List.length_map, List.length_range, List.length_range]
    exact Nat.le_of_lt (sml1000 (by omega))
  obtain ⟨xs', ys', h1, h2, _, _, hT⟩ := hD3.cat (hD2.same hS3) nl
  rw [hxs] at h1
  rw [hys] at h2
  cases h1
  cases h2
  have hS4 := same_new nl (.lst (xs ++ ys))
  generalize upd H3 l (.lst (xs ++ ys)) = H4 at hT hS4
  have hS04 := ((hS1.trans hS2).trans hS3).trans hS4
  obtain ⟨tas, t1, t2⟩ := hT
  refine sort_read (enc := enc2) (F := TupAt H4) (A := std0 N ts W) enc2_ok (SqL.of t1) t2 (fun p e => dp_t2) ?_ fun us p hus _ np => ?_
  · rw [std0_len]
    omega
  · exact q _ p (hS04.free np) (hS04.trans (same_new np _)) ⟨us, upd_same, paired_mono (fun r e hr => same_new np _ _ _ hr) hus⟩
end
end My
set_option maxHeartbeats 4000000
namespace My
open PySem L2 PyProof.Rows
def numS (S : List (Nat × Nat)) (z : (Nat × Nat) × (Nat × Nat) × Nat) : Nat × Nat × Nat := (S.idxOf z.1, S.idxOf z.2.1, z.2.2)
def stepsN (ts : List (Nat × Nat)) (W : List Nat) (S : List (Nat × Nat)) : List (Nat × Nat × Nat) := (stepsOf ts W S).map (numS S)
theorem idx_get {α : Type} [BEq α] [LawfulBEq α] : ∀ {S : List α}, S.Nodup → ∀ {i : Nat} {s : α}, S[i]? = some s → S.idxOf s = i
  | [], _, _, _, h => by simp at h
  | a :: r, hn, 0, s, h => by
    have : a = s := by simpa using h
    subst this
    exact List.idxOf_cons_self
  | a :: r, hn, i + 1, s, h => by
    have h : r[i]? = some s := by simpa using h
    have hne : a ≠ s := fun z => (List.nodup_cons.mp hn).1 (z ▸ List.mem_of_getElem? h)
    rw [List.idxOf_cons, idx_get (List.nodup_cons.mp hn).2 h]
    have : (a == s) = false := by simpa using hne
    rw [this]
    rfl
theorem stepsOf_app (ts : List (Nat × Nat)) (W : List Nat) (A B : List (Nat × Nat)) : stepsOf ts W (A ++ B) = stepsOf ts W A ++ stepsOf ts W B := List.flatMap_append
theorem stepsOf_len (ts : List (Nat × Nat)) (W : List Nat) : ∀ A : List (Nat × Nat), (stepsOf ts W A).length ≤ A.length * ts.length
  | [] => Nat.zero_le _
  | s :: r => by
    have ih := stepsOf_len ts W r
    have h1 : (outT ts W s).length ≤ ts.length := Nat.le_trans (List.length_filter_le _ _) (frmN_len _ _ _)
    show (((outT ts W s).map _) ++ stepsOf ts W r).length ≤ (r.length + 1) * ts.length
    rw [List.length_append, List.length_map, Nat.add_mul, Nat.one_mul]
    omega
section
variable {P : Program} {w : World} {K : PySem.W.Frag} {mg : Str → Option Value} {base : Heap} {C : Addr}
def sp_steps (_ : PySem.W.Frag) (C : Addr) : Sp := fun vs H Q _ => ∃ a N ts s W d S, vs = [.ref a, .ref s, .ref d] ∧ WebAt C a N ts H ∧ OkWeb N ts ∧ SeqAt H s W ∧ Chain ts W ∧ W.length ≤ 400 ∧ TiesAt H d S ∧ S.Perm (std0 N ts W) ∧ ∀ H' l, H l = none → Same H H' → T3s H' l (sortE enc3 (stepsN ts W S)) → Q (.ref l) H'
theorem ok_steps (D : Def K mg "_steps" s_steps ["web", "walk", "standings"]) (B : Bs mg) (Glb : Glo mg) (WK : WebK K mg C)
    (htable : Good P w K mg base "table" stable ["web", "walk"] 9 (sptable K C))
    (hWeb_ties : GoodM P w K mg base C "ties" "Web.ties" sWeb_ties ["self"] 1 (spWeb_ties K C))
    (hWeb_ties_from : GoodM P w K mg base C "ties_from" "Web.ties_from" sWeb_ties_from ["self", "place"] 5 (spWeb_ties_from K C)) :
    Good P w K mg base "_steps" s_steps ["web", "walk", "standings"] 10 (sp_steps K C) := by
  refine D.good fun f fd F => ?_
  obtain ⟨ftable, dtable, Otable, mtable, ktable, btable, Ftable⟩ := htable
  obtain ⟨fWeb_ties, dWeb_ties, OWeb_ties, tWeb_ties, bWeb_ties, FWeb_ties⟩ := hWeb_ties
  obtain ⟨fWeb_ties_from, dWeb_ties_from, OWeb_ties_from, tWeb_ties_from, bWeb_ties_from, FWeb_ties_from⟩ := hWeb_ties_from
  refine F.ok sc_steps (fun vs H Q E h => ?_) (fun cdv A outer s H vs Q E hr h => ?_)
  · obtain ⟨a, N, ts, s, W, d, S, rfl, hw, ho, hs, hW, hWl, hd, hS, q⟩ := h
    first | rfl | (rcases h with ⟨_, _, rfl, _⟩ | ⟨_, rfl, _⟩ <;> rfl)
  obtain ⟨a, N, ts, s, W, d, S, rfl, hw, ho, hs, hW, hWl, hd, hS, q⟩ := h
  refine ⟨_, (pss_cons (ps_set (i := 3) sc_steps.nd rfl (by first | exact Or.inl rfl | exact Or.inr rfl) (pe_meth0 (pv 0) WK.cl tWeb_ties OWeb_ties (hr.mono (by decide)) bWeb_ties .nil pass0))
  (pss_cons (ps_set (i := 4) sc_steps.nd rfl (by first | exact Or.inl rfl | exact Or.inr rfl) (pe_call Otable hr rfl mtable ktable btable .nil pass0 (pa_cons (pv 0) (pa_cons (pv 1) pa_nil))))
  (pss_cons (ps_setDcT (i := 5) (own := [("at", 6), ("standing", 7)]) (g := gTup K 2 (gCons (gName 6) (gCons (gName 7) gNil))) (hu_of hr) (by rfl) sc_steps.nd rfl rfl (sw_dict rfl rfl rfl (by decide +kernel)) (pi_enum (by rfl) B.enumerate (pa_cons (pv 2) pa_nil)) (blkOk_by (own := [("at", 6), ("standing", 7)]) (N := ["web", "walk", "standings", "ties", "rows", "positions", "at", "standing", "steps", "place", "state", "tie"]) (sc := defScope s_steps) (by decide +kernel)) (fun _ _ _ _ _ => (pg_tup rfl (pgs_cons (pg_name (i := 6) sc_steps.nd rfl (by first | exact Or.inl rfl | exact Or.inr rfl)) (pgs_cons (pg_name (i := 7) sc_steps.nd rfl (by first | exact Or.inl rfl | exact Or.inr rfl)) pgs_nil)))) (fun _ _ _ _ _ => pts_nil) (fun _ _ _ _ _ => (pv 7)) (fun _ _ _ _ _ => (pv 6)))
  (pss_cons (ps_set (i := 8) sc_steps.nd rfl (by first | exact Or.inl rfl | exact Or.inr rfl) (pe_lst pa_nil))
  (pss_cons (ps_for PassesOwn.never rfl (pi_enum (by rfl) B.enumerate (pa_cons (pv 2) pa_nil)) (pg_tup rfl (pgs_cons (pg_name (i := 6) sc_steps.nd rfl (by first | exact Or.inl rfl | exact Or.inr rfl)) (pgs_cons (pg_tup rfl (pgs_cons (pg_name (i := 9) sc_steps.nd rfl (by first | exact Or.inl rfl | exact Or.inr rfl)) (pgs_cons (pg_name (i := 10) sc_steps.nd rfl (by first | exact Or.inl rfl | exact Or.inr rfl)) pgs_nil))) pgs_nil)))
    (pss_one (ps_for PassesOwn.never rfl (pi_list (pe_meth (pv 0) WK.cl tWeb_ties_from OWeb_ties_from (hr.mono (by decide)) bWeb_ties_from .nil pass0 (pa_cons (pv 9) pa_nil))) (pg_name (i := 11) sc_steps.nd rfl (by first | exact Or.inl rfl | exact Or.inr rfl))
    (pss_one (ps_if (pt_cmpR op_lt (pe_ix ix_list (pe_ix ix_list (pv 4) (pv 10) (fun _ _ => rfl)) (pv 11) (fun _ _ => rfl)) (pe_callB call_len_seq (by rfl) B.len (by decide +kernel) (pa_cons (pv 1) pa_nil)) (nomark _))
    (pss_one (ps_expr (pe_bm PySem.F.plainAttrs_list PySem.F.slot_list_append PySem.F.type_list_append mt_append (pv 8) (pa_cons (pe_tup (pa_cons (pv 6) (pa_cons (pe_dget (hu_of hr) (pv 5) (pe_tup (pa_cons (pe_ix ix_tup (pe_ix ix_list (pv 3) (pv 11) (fun _ _ => rfl)) pe_int (fun _ _ => rfl)) (pa_cons (pe_ix ix_list (pe_ix ix_list (pv 4) (pv 10) (fun _ _ => rfl)) (pv 11) (fun _ _ => rfl)) pa_nil))) (fun _ _ => rfl)) (pa_cons (pv 11) pa_nil)))) pa_nil)))) pss_nil)))))
  (pss_one (ps_ret (pe_callB (cr_sortD hr.units) (by rfl) B.sorted (by decide +kernel) (pa_cons (pv 8) pa_nil))))))))), ?_⟩
  have h0 := hW.n0
  have hN := ho.n1
  have hm := ho.m
  have hn : S.Nodup := hS.nodup_iff.mpr std0_nodup
  have hSl : S.length ≤ 460 := by rw [hS.length_eq, std0_len]; omega
  obtain ⟨dx, tl0, fl, ol, g1, _⟩ := id hw
  refine ⟨_, rfl, a, dx, _, rfl, g1, (by rfl), a, N, ts, rfl, hw, fun H1 tl ntl hS1 hT1 => ?_⟩
  refine ⟨_, rfl, _, rfl, a, N, ts, s, W, rfl, hw.same hS1, hm, hs.same hS1, hW, hWl, fun H2 rl nrl hS2 hR2 => ?_⟩
  have hd2 := (hd.same hS1).same hS2
  obtain ⟨das, hdl, hdP⟩ := id hd2
  have hdlen := paired_len hdP
  refine ⟨_, rfl, d, _, rfl, SqL.of hdl, fun D nD => ?_⟩
  refine dcG_it (walk_enum (K := K) (a := d) (xs := das.map V.ref)) (fun i H' => Same H2 H' ∧ ∃ kvs, H' D = some (.dT kvs) ∧ kvs.length ≤ i ∧ ∀ (k : Nat) (st : Nat × Nat), k < i → S[k]? = some st → valV kvs (kk st) = some (.int (k : Int))) ⟨same_new nD _, [], upd_same, Nat.zero_le _, fun k st h => by omega⟩ (fun i H' _ ⟨hS', _⟩ => SqL.of (hS' _ _ hdl)) ?_ ?_
  · rintro i x H3 H4 hi ⟨hS3, kvs, hD3, hkl, hkv⟩ ⟨T0, x1, x2, rfl, nT0, rfl, e1, e2⟩
    cases e1
    rw [List.length_map] at hi
    replace e2 : (das.map V.ref)[i]? = some x2 := e2
    rw [List.getElem?_map, List.getElem?_eq_getElem hi] at e2
    cases e2
    obtain ⟨st, hst, hpe⟩ := paired_get hdP (List.getElem?_eq_getElem hi)
    have hS4 := hS3.trans (same_new nT0 (.tup [.int (i : Int), .ref das[i]]))
    have hD4 := same_new nT0 (.tup [.int (i : Int), .ref das[i]]) _ _ hD3
    have hT4 : upd H3 T0 (.tup [.int (i : Int), .ref das[i]]) T0 = some (.tup [.int (i : Int), .ref das[i]]) := upd_same
    generalize upd H3 T0 (.tup [.int (i : Int), .ref das[i]]) = H4 at hS4 hD4 hT4
    have hp4 : H4 das[i] = some (.tup ((kk st).map kV)) := hS4 _ _ hpe
    refine ⟨T0, _, rfl, SqT.of hT4, rfl, _, _, rfl, _, _, rfl, rfl, rfl, _, rfl, _, rfl, _, DPut.t hD4 hp4 (sml1000 (by omega)), same_upd hS4 nD, _, upd_same, ?_, fun k t hk ht => ?_⟩
    · have := length_putK kvs (kk st) (.int (i : Int))
      omega
    · rw [valV_put]
      by_cases c : k = i
      · subst c
        rw [hst] at ht
        cases ht
        rw [if_pos rfl]
      · rw [if_neg fun z => c ?_]
        · exact hkv k t (by omega) ht
        · have := kk_inj z
          subst this
          exact nodup_get hn ht hst
  rintro H3 ⟨hS3, kvs, hD3, hkl, hkv⟩
  rw [List.length_map, hdlen] at hkv hkl
  have hval : ∀ t, t ∈ S → valV kvs (kk t) = some (.int (S.idxOf t : Int)) := fun t ht => by
    obtain ⟨k, hk⟩ := List.getElem?_of_mem ht
    rw [hkv k t (List.getElem?_eq_some_iff.mp hk).1 hk, idx_get hn hk]
  refine ⟨Nat.zero_le _, fun st nst => ?_⟩
  have hS13 := hS2.trans hS3
  have hS03 := hS1.trans hS13
  have hd3 := hS3 _ _ hdl
  have hst4 : T3s (upd H3 st (.lst [])) st ((stepsOf ts W (S.take 0)).map (numS S)) := ⟨[], upd_same, .nil⟩
  have hS34 := same_new nst (.lst [])
  generalize upd H3 st (.lst []) = H4 at hst4 hS34
  refine ⟨_, rfl, d, _, rfl, SqL.of (hS34 _ _ hd3), ?_⟩
  refine for_it (walk_enum (K := K) (a := d) (xs := das.map V.ref)) (fun i σ H' => ∃ v6 v7 v9 v10 v11 : Option V, σ = [some (.ref a), some (.ref s), some (.ref d), some (.ref tl), some (.ref rl), some (.ref D), v6, v7, some (.ref st), v9, v10, v11] ∧ Same H3 H' ∧ T3s H' st ((stepsOf ts W (S.take i)).map (numS S))) ⟨none, none, none, none, none, rfl, hS34, hst4⟩ (fun i σ H' _ ⟨_, _, _, _, _, _, hS', _⟩ => SqL.of (hS' _ _ hd3)) ?_ ?_
  · rintro i x σ H5 H6 hi ⟨v6, v7, v9, v10, v11, rfl, hS5, hst5⟩ ⟨T0, x1, x2, rfl, nT0, rfl, e1, e2⟩
    cases e1
    rw [List.length_map] at hi
    replace e2 : (das.map V.ref)[i]? = some x2 := e2
    rw [List.getElem?_map, List.getElem?_eq_getElem hi] at e2
    cases e2
    obtain ⟨sx, hsx, hpe⟩ := paired_get hdP (List.getElem?_eq_getElem hi)
    have hsxm := List.mem_of_getElem? hsx
    have hsx0 := hS.mem_iff.mp hsxm
    have hstate := std0_state h0 hsx0
    have hplace := std0_place ho hW hsx0
    have hidx := idx_get hn hsx
    have hS6 := hS5.trans (same_new nT0 (.tup [.int (i : Int), .ref das[i]]))
    have hst6 := hst5.same (same_new nT0 (.tup [.int (i : Int), .ref das[i]]))
    have hT6 : upd H5 T0 (.tup [.int (i : Int), .ref das[i]]) T0 = some (.tup [.int (i : Int), .ref das[i]]) := upd_same
    generalize upd H5 T0 (.tup [.int (i : Int), .ref das[i]]) = H6 at hS6 hst6 hT6
    have hp6 : H6 das[i] = some (.tup [.int (sx.1 : Int), .int (sx.2 : Int)]) := hS6 _ _ (hS3 _ _ hpe)
    have hw6 := (hw.same hS03).same hS6
    obtain ⟨dx, tl0, fl, ol, g1, _⟩ := id hw6
    refine ⟨T0, _, rfl, SqT.of hT6, rfl, _, _, rfl, _, _, rfl, ⟨das[i], _, rfl, SqT.of hp6, rfl, _, _, rfl, _, _, rfl, rfl, rfl, ?_⟩⟩
    refine ⟨_, rfl, a, dx, _, rfl, g1, wf_no _ _ _ _ (by decide +kernel) (by decide +kernel) (by decide +kernel) (by decide +kernel), _, rfl, a, N, ts, sx.1, rfl, hw6, hplace, fun H7 fr nfr hS7 hfr => ?_⟩
    have nst3 : H3 st = none := nst
    obtain ⟨B, hB⟩ : ∃ B, B = (stepsOf ts W (S.take i)).map (numS S) := ⟨_, rfl⟩
    rw [← hB] at hst6
    have hBl : B.length ≤ 36800 := by
      have h1 := stepsOf_len ts W (S.take i)
      have h2 : (S.take i).length ≤ 460 := by rw [List.length_take]; omega
      have h3 := Nat.mul_le_mul h2 hm
      rw [hB, List.length_map]
      omega
    have sfr : st ≠ fr := by
      obtain ⟨as, e, _⟩ := hst6
      exact ne_of_none e nfr
    refine ⟨fr, rfl, ⟨_, SqL.of hfr⟩, ?_⟩
    refine for_list (K := K) (a := fr) (xs := iv (frm ts sx.1)) (fun k σ H' => ∃ v11 : Option V, σ = [some (.ref a), some (.ref s), some (.ref d), some (.ref tl), some (.ref rl), some (.ref D), some (.int (i : Int)), v7, some (.ref st), some (.int (sx.1 : Int)), some (.int (sx.2 : Int)), v11] ∧ Same H3 H' ∧ H' fr = some (.lst (iv (frm ts sx.1))) ∧ T3s H' st (B ++ ((((frm ts sx.1).take k).filter fun x => decide (nxt W sx.2 x < W.length)).map fun x => numS S (sx, goT ts W sx x, x)))) ?_ ?_ ?_ ?_
    · exact ⟨v11, rfl, hS6.trans hS7, hfr, by rw [List.take_zero]; exact (by simpa using hst6.same hS7)⟩
    · rintro k σ H' hk ⟨_, rfl, _, hfr', _⟩
      exact SqL.of hfr'
    · rintro k y σ H8 hy ⟨v11, rfl, hS8, hfr8, hst8⟩
      rw [List.getElem?_map] at hy
      obtain ⟨t, et, rfl⟩ : ∃ t, (frm ts sx.1)[k]? = some t ∧ y = V.int (t : Int) := by
        cases e : (frm ts sx.1)[k]? with
        | none => rw [e] at hy; cases hy
        | some v => rw [e] at hy; exact ⟨v, rfl, (Option.some.inj hy).symm⟩
      have hkl2 := (List.getElem?_eq_some_iff.mp et).1
      have hfl : (frm ts sx.1).length ≤ ts.length := frmN_len ts sx.1 ts.length
      obtain ⟨v, hv⟩ : ∃ v, ts[t]? = some (sx.1, v) := by
        obtain ⟨h1, h2⟩ := (frmN_mem ts sx.1 t _).mp (List.mem_of_getElem? et)
        rw [List.getElem?_eq_getElem h1] at h2 ⊢
        have := Option.some.inj h2
        exact ⟨ts[t].2, by rw [← this]⟩
      have htl := (List.getElem?_eq_some_iff.mp hv).1
      obtain ⟨rx, qa, r1, r2, r3, r4⟩ := ((hR2.same hS3).same hS8).row (j := sx.2) (L := rowL W ts.length sx.2) (tabL_at hstate)
      have hrow : atI (iv (rowL W ts.length sx.2)) (t : Int) = some (.int (nxt W sx.2 t : Int)) := iv_at (rowL_at htl)
      refine ⟨_, rfl, _, rfl, _, _, _, .ref qa, rfl, rfl, SqL.of r1, r3, _, rfl, _, _, _, _, rfl, rfl, SqL.of r4, hrow, _, rfl, s, _, rfl, ((hs.same hS03).same hS8).seq, _, _, rfl, rfl, _, rfl, ?_⟩
      rw [iv_length]
      have e3 : (frm ts sx.1).take (k + 1) = (frm ts sx.1).take k ++ [t] := by rw [List.take_succ, et]; rfl
      by_cases c : nxt W sx.2 t < W.length
      · refine iteYes (by omega) ?_
        have hto : t ∈ outT ts W sx := outT_mem.mpr ⟨⟨v, hv⟩, c⟩
        have hnext : goT ts W sx t ∈ S := hS.mem_iff.mpr (std0_next ho hstate hto)
        obtain ⟨sz, hsz, hszl⟩ : ∃ xs, H8 st = some (.lst xs) ∧ xs.length ≤ 40000 := by
          obtain ⟨as, e, hp⟩ := hst8
          refine ⟨_, e, ?_⟩
          rw [List.length_map, paired_len hp, List.length_append, List.length_map]
          have := List.length_filter_le (fun x => decide (nxt W sx.2 x < W.length)) ((frm ts sx.1).take k)
          rw [List.length_take] at this
          omega
        obtain ⟨tx, tp, t1, t2, t3⟩ := ((hT1.same hS13).same hS8).at_ hv
        refine ⟨_, rfl, .inl ⟨rfl, _, SqL.of hsz⟩, _, rfl, _, rfl, _, rfl, _, rfl, _, _, _, .ref tp, rfl, rfl, SqL.of t1, t2, _, _, _, .int (v : Int), rfl, rfl, SqT.of t3, rfl, ?_⟩
        refine ⟨_, rfl, _, rfl, _, _, _, .ref qa, rfl, rfl, SqL.of r1, r3, _, rfl, _, _, _, _, rfl, rfl, SqL.of r4, hrow, (by show 2 ≤ sizeLine; decide), fun kp nkp => ?_⟩
        have hS9 := same_new nkp (.tup [.int (v : Int), .int (nxt W sx.2 t : Int)])
        have hkp : upd H8 kp (.tup [.int (v : Int), .int (nxt W sx.2 t : Int)]) kp = some (.tup ((kk (goT ts W sx t)).map kV)) := by
          rw [upd_same]
          unfold goT
          rw [endAt_of hv]
          rfl
        generalize upd H8 kp (.tup [.int (v : Int), .int (nxt W sx.2 t : Int)]) = H9 at hS9 hkp
        have hD9 := hS9 _ _ (hS8 _ _ hD3)
        refine ⟨D, _, rfl, (hval _ hnext) ▸ DGet.t hD9 hkp, _, rfl, (by show 3 ≤ sizeLine; decide), fun tq ntq => ?_⟩
        have hS10 := hS9.trans (same_new ntq (.tup [.int (i : Int), .int (S.idxOf (goT ts W sx t) : Int), .int (t : Int)]))
        have htq : T3 (upd H9 tq (.tup [.int (i : Int), .int (S.idxOf (goT ts W sx t) : Int), .int (t : Int)])) tq (numS S (sx, goT ts W sx t, t)) := by
          show upd _ _ _ tq = some (.tup [.int (S.idxOf sx : Int), .int (S.idxOf (goT ts W sx t) : Int), .int (t : Int)])
          rw [upd_same, hidx]
        generalize upd H9 tq (.tup [.int (i : Int), .int (S.idxOf (goT ts W sx t) : Int), .int (t : Int)]) = H10 at hS10 htq
        obtain ⟨ys, y1, y2, y3⟩ := (hst8.same hS10).push htq
        have hyl : ys = sz := by
          have := hS10 _ _ hsz
          rw [y1] at this
          cases this
          rfl
        refine ⟨st, ys, _, rfl, rfl, y1, by rw [hyl]; exact Nat.lt_of_le_of_lt hszl (by decide), ?_⟩
        refine ⟨_, rfl, same_upd (hS8.trans hS10) nst3, by rw [upd_ne sfr.symm]; exact hS10 _ _ hfr8, ?_⟩
        rw [e3, List.filter_append, List.filter_cons_of_pos (by simpa using c), List.filter_nil, List.map_append, ← List.append_assoc]
        exact y3
      · refine iteNo (by omega) ⟨_, rfl, hS8, hfr8, ?_⟩
        rw [e3, List.filter_append, List.filter_cons_of_neg (by simpa using c), List.filter_nil, List.append_nil]
        exact hst8
    · rintro σ H8 ⟨v11, rfl, hS8, hfr8, hst8⟩
      refine ⟨_, _, _, _, _, rfl, hS8, ?_⟩
      rw [iv_length, List.take_length] at hst8
      have e4 : S.take (i + 1) = S.take i ++ [sx] := by rw [List.take_succ, hsx]; rfl
      rw [e4, stepsOf_app, List.map_append, ← hB]
      have e5 : (stepsOf ts W [sx]).map (numS S) = ((frm ts sx.1).filter fun x => decide (nxt W sx.2 x < W.length)).map fun x => numS S (sx, goT ts W sx x, x) := by
        show (((outT ts W sx).map fun x => (sx, goT ts W sx x, x)) ++ []).map (numS S) = _
        rw [List.append_nil, List.map_map]
        rfl
      rw [e5]
      exact hst8
  · rintro σ H5 ⟨v6, v7, v9, v10, v11, rfl, hS5, hst5⟩
    rw [List.length_map, hdlen, List.take_length] at hst5
    have hS05 := hS03.trans hS5
    obtain ⟨as, z1, z2⟩ := hst5
    have hlen := stepsOf_len ts W S
    refine ⟨_, rfl, sort_read (enc := enc3) (F := T3 H5) (A := stepsN ts W S) enc3_ok (SqL.of z1) z2 (fun p e => dp_t3) ?_ fun us p hus _ np => ?_⟩
    · have h3 := Nat.mul_le_mul hSl hm
      unfold stepsN
      rw [List.length_map]
      omega
    · exact q _ p (hS05.free np) (hS05.trans (same_new np _)) ⟨us, upd_same, paired_mono (fun r e hr => same_new np _ _ _ hr) hus⟩
end
end My
set_option maxHeartbeats 4000000
namespace My
open PySem L2 PyProof.Rows
/-! ### lots of standings, pure -/
noncomputable def prodS (N : Nat) (ts : List (Nat × Nat)) (W : List Nat) : List (Nat × Nat) := sortE enc2 (std0 N ts W)
noncomputable def prodZ (N : Nat) (ts : List (Nat × Nat)) (W : List Nat) : List (Nat × Nat × Nat) := sortE enc3 (stepsN ts W (prodS N ts W))
def endsOf (Z : List (Nat × Nat × Nat)) : List (Nat × Nat) := Z.map fun z => (z.1, z.2.1)
theorem prodS_perm (N : Nat) (ts : List (Nat × Nat)) (W : List Nat) : (prodS N ts W).Perm (std0 N ts W) := sortE_perm _
theorem prodS_nodup (N : Nat) (ts : List (Nat × Nat)) (W : List Nat) : (prodS N ts W).Nodup := (prodS_perm N ts W).nodup_iff.mpr std0_nodup
theorem prodS_len (N : Nat) (ts : List (Nat × Nat)) (W : List Nat) : (prodS N ts W).length = N + (W.length - 1) := by rw [(prodS_perm N ts W).length_eq, std0_len]
theorem stepsOf_mem {ts : List (Nat × Nat)} {W : List Nat} {A : List (Nat × Nat)} {z : (Nat × Nat) × (Nat × Nat) × Nat} : z ∈ stepsOf ts W A ↔ z.1 ∈ A ∧ z.2.2 ∈ outT ts W z.1 ∧ z.2.1 = goT ts W z.1 z.2.2 := by
  unfold stepsOf
  rw [List.mem_flatMap]
  constructor
  · rintro ⟨s, hs, hz⟩
    obtain ⟨x, hx, rfl⟩ := List.mem_map.mp hz
    exact ⟨hs, hx, rfl⟩
  · rintro ⟨h1, h2, h3⟩
    exact ⟨z.1, h1, List.mem_map.mpr ⟨z.2.2, h2, by rw [← h3]⟩⟩
theorem frmN_nodup (ts : List (Nat × Nat)) (p : Nat) : ∀ i, (frmN ts p i).Nodup
  | 0 => by simp [frmN]
  | i + 1 => by
    have ih := frmN_nodup ts p i
    unfold frmN
    split
    · rw [List.nodup_append]
      refine ⟨ih, by simp, fun a ha b hb e => ?_⟩
      rw [List.mem_singleton.mp hb] at e
      have := (frmN_mem ts p a i).mp ha
      omega
    · exact ih
theorem outT_nodup {ts : List (Nat × Nat)} {W : List Nat} {s : Nat × Nat} : (outT ts W s).Nodup := (frmN_nodup ts s.1 ts.length).filter _
theorem stepsOf_nodup {ts : List (Nat × Nat)} {W : List Nat} : ∀ {A : List (Nat × Nat)}, A.Nodup → (stepsOf ts W A).Nodup
  | [], _ => List.nodup_nil
  | s :: r, h => by
    obtain ⟨h1, h2⟩ := List.nodup_cons.mp h
    show (((outT ts W s).map _) ++ stepsOf ts W r).Nodup
    rw [List.nodup_append]
    refine ⟨?_, stepsOf_nodup h2, fun a ha b hb e => ?_⟩
    · refine List.Pairwise.map _ (R := (· ≠ ·)) (fun a b hab e => hab ?_) outT_nodup
      exact congrArg (fun z => z.2.2) e
    · subst e
      obtain ⟨x, _, rfl⟩ := List.mem_map.mp ha
      exact h1 (stepsOf_mem.mp hb).1
/-- not more steps than states and ties -/
theorem stepsOf_few {ts : List (Nat × Nat)} {W : List Nat} {A : List (Nat × Nat)} (hA : A.Nodup) (hs : ∀ s ∈ A, s.2 < W.length) : (stepsOf ts W A).length ≤ W.length * ts.length := by
  have hn := stepsOf_nodup (ts := ts) (W := W) hA
  have h2 : ((stepsOf ts W A).map fun z => z.1.2 * ts.length + z.2.2).Nodup := by
    rw [List.Nodup, List.pairwise_map]
    refine List.Pairwise.imp_of_mem ?_ hn
    intro a b ha hb hab e
    obtain ⟨a1, a2, a3⟩ := stepsOf_mem.mp ha
    obtain ⟨b1, b2, b3⟩ := stepsOf_mem.mp hb
    obtain ⟨⟨va, ea⟩, _⟩ := outT_mem.mp a2
    obtain ⟨⟨vb, eb⟩, _⟩ := outT_mem.mp b2
    have la := (List.getElem?_eq_some_iff.mp ea).1
    have lb := (List.getElem?_eq_some_iff.mp eb).1
    have et : a.1.2 = b.1.2 := by
      have h1 : (a.1.2 * ts.length + a.2.2) / ts.length = (b.1.2 * ts.length + b.2.2) / ts.length := by rw [e]
      rw [Nat.mul_comm, Nat.mul_add_div (by omega), Nat.div_eq_of_lt la, Nat.mul_comm, Nat.mul_add_div (by omega), Nat.div_eq_of_lt lb] at h1
      omega
    have ex : a.2.2 = b.2.2 := by
      rw [et] at e
      omega
    have ep : a.1.1 = b.1.1 := by
      rw [ex, eb] at ea
      exact (congrArg Prod.fst (Option.some.inj ea)).symm
    have es : a.1 = b.1 := Prod.ext ep et
    exact hab (Prod.ext es (Prod.ext (by rw [a3, b3, es, ex]) ex))
  have := len_sub (B := List.range (W.length * ts.length)) h2 fun x hx => by
    obtain ⟨z, hz, rfl⟩ := List.mem_map.mp hx
    obtain ⟨z1, z2, _⟩ := stepsOf_mem.mp hz
    obtain ⟨⟨v, e⟩, _⟩ := outT_mem.mp z2
    have l1 := (List.getElem?_eq_some_iff.mp e).1
    have l2 := hs _ z1
    rw [List.mem_range]
    have : (z.1.2 + 1) * ts.length ≤ W.length * ts.length := Nat.mul_le_mul_right _ l2
    rw [Nat.succ_mul] at this
    omega
  rw [List.length_map, List.length_range] at this
  exact this
theorem prodZ_mem {N : Nat} {ts : List (Nat × Nat)} {W : List Nat} {z : Nat × Nat × Nat} : z ∈ prodZ N ts W ↔ ∃ s x, s ∈ std0 N ts W ∧ x ∈ outT ts W s ∧ z = ((prodS N ts W).idxOf s, (prodS N ts W).idxOf (goT ts W s x), x) := by
  unfold prodZ stepsN
  rw [sortE_mem, List.mem_map]
  constructor
  · rintro ⟨y, hy, rfl⟩
    obtain ⟨h1, h2, h3⟩ := stepsOf_mem.mp hy
    exact ⟨y.1, y.2.2, (prodS_perm N ts W).mem_iff.mp h1, h2, by unfold numS; rw [h3]⟩
  · rintro ⟨s, x, h1, h2, rfl⟩
    exact ⟨(s, goT ts W s x, x), stepsOf_mem.mpr ⟨(prodS_perm N ts W).mem_iff.mpr h1, h2, rfl⟩, rfl⟩
theorem prodZ_len {N : Nat} {ts : List (Nat × Nat)} {W : List Nat} (h0 : 0 < W.length) : (prodZ N ts W).length ≤ W.length * ts.length := by
  unfold prodZ stepsN
  rw [(sortE_perm _).length_eq, List.length_map]
  exact stepsOf_few (prodS_nodup N ts W) fun s hs => std0_state h0 ((prodS_perm N ts W).mem_iff.mp hs)
theorem prodZ_ok {N : Nat} {ts : List (Nat × Nat)} {W : List Nat} (ho : OkWeb N ts) (hW : Chain ts W) (hN : N + W.length ≤ 61) (hZ : W.length * ts.length ≤ 80) : OkWeb (prodS N ts W).length (endsOf (prodZ N ts W)) := by
  have h0 := hW.n0
  have hn0 := ho.n0
  have hl := prodS_len N ts W
  refine ⟨by omega, by omega, ?_, fun e he => ?_⟩
  · unfold endsOf
    rw [List.length_map]
    exact Nat.le_trans (prodZ_len h0) hZ
  · obtain ⟨z, hz, rfl⟩ := List.mem_map.mp he
    obtain ⟨s, x, h1, h2, rfl⟩ := prodZ_mem.mp hz
    have h3 := std0_next ho (std0_state h0 h1) h2
    exact ⟨List.idxOf_lt_length_iff.mpr ((prodS_perm N ts W).mem_iff.mpr h1), List.idxOf_lt_length_iff.mpr ((prodS_perm N ts W).mem_iff.mpr h3)⟩
/-- sorted by heads -/
theorem sort_heads {α : Type} {enc : α → PyData} {f : Nat → α} {hs R : List Nat} (hR : R.Pairwise (· < ·)) (hp : hs.Perm R) (hd : ∀ a b, a ∈ R → b ∈ R → a ≠ b → PySem.W.dataLe false enc (f a) (f b) = decide (a ≤ b)) : sortE enc (hs.map f) = R.map f := by
  unfold sortE
  rw [← List.map_mergeSort (f := f) (r := fun a b : Nat => decide (a ≤ b)) (s := PySem.W.dataLe false enc) (l := hs) (fun a ha b hb => ?_)]
  · congr 1
    have h1 : (hs.mergeSort fun a b : Nat => decide (a ≤ b)).Pairwise (fun a b => decide (a ≤ b) = true) := List.pairwise_mergeSort (fun a b c h k => by simp at *; omega) (fun a b => by simp; omega) hs
    have h2 : (hs.mergeSort fun a b : Nat => decide (a ≤ b)).Perm R := (List.mergeSort_perm _ _).trans hp
    refine h2.eq_of_pairwise ?_ (h1.imp fun h => of_decide_eq_true h) (hR.imp fun h => Nat.le_of_lt h)
    intro a b _ _ h k
    omega
  · by_cases c : a = b
    · subst c
      have := le_total' (enc := enc) (f a) (f a)
      rw [Bool.or_self] at this
      rw [this]
      simp
    · exact (hd a b (hp.mem_iff.mp ha) (hp.mem_iff.mp hb) c).symm
theorem alike_nums : ∀ A B : List Int, PySem.W.alikeAll (A.map PyData.int) (B.map PyData.int) = true
  | [], _ => by simp [PySem.W.alikeAll]
  | _ :: _, [] => by simp [PySem.W.alikeAll]
  | a :: A, b :: B => by
    show PySem.W.alikeAll (PyData.int a :: A.map PyData.int) (PyData.int b :: B.map PyData.int) = true
    rw [PySem.W.alikeAll, alike_nums A B]
    simp [PySem.W.alike]
theorem alike_dn (A B : List Nat) : PySem.W.alike (dn A) (dn B) = true := by
  rw [dn_dz, dn_dz, PySem.W.alike]
  exact alike_nums _ _
theorem alike_t3 : ∀ A B : List (Nat × Nat × Nat), PySem.W.alikeAll (A.map enc3) (B.map enc3) = true
  | [], _ => by simp [PySem.W.alikeAll]
  | _ :: _, [] => by simp [PySem.W.alikeAll]
  | a :: A, b :: B => by
    show PySem.W.alikeAll (enc3 a :: A.map enc3) (enc3 b :: B.map enc3) = true
    rw [PySem.W.alikeAll, alike_t3 A B, enc3_ok.al]
    rfl
theorem eqv_dns (A B : List Nat) : PyData.eqv (dn A) (dn B) = decide (A = B) := by
  rw [dn_dz, dn_dz]
  show PyData.eqvAll _ _ = _
  rw [eqvAll_iz]
  exact decide_eq_decide.mpr cn_inj
theorem eqv_enc3 (a b : Nat × Nat × Nat) : PyData.eqv (enc3 a) (enc3 b) = decide (a = b) := by
  cases e : PyData.eqv (enc3 a) (enc3 b) with
  | true => exact (decide_eq_true (enc3_ok.inj a b e)).symm
  | false =>
    refine (decide_eq_false fun z => ?_).symm
    subst z
    have := eqv_refl_of (enc3_ok.al a a) rfl
    rw [this] at e
    cases e
theorem eqv_t3s : ∀ A B : List (Nat × Nat × Nat), PyData.eqvAll (A.map enc3) (B.map enc3) = decide (A = B)
  | [], [] => rfl
  | [], _ :: _ => rfl
  | _ :: _, [] => rfl
  | a :: A, b :: B => by
    show (PyData.eqv (enc3 a) (enc3 b) && PyData.eqvAll (A.map enc3) (B.map enc3)) = _
    rw [eqv_t3s A B, eqv_enc3, Bool.eq_iff_iff]
    simp only [Bool.and_eq_true, decide_eq_true_iff, List.cons.injEq]
/-- a lot and its steps -/
def encP (e : List Nat × List (Nat × Nat × Nat)) : PyData := .tuple [dn e.1, .list (e.2.map enc3)]
theorem depth_t3 : ∀ Z : List (Nat × Nat × Nat), PyData.depthAll (Z.map enc3) ≤ 1
  | [] => by show PyData.depthAll [] ≤ 1; decide
  | z :: Z => by
    show max (PyData.depth (enc3 z)) (PyData.depthAll (Z.map enc3)) ≤ 1
    have := depth_t3 Z
    have h : PyData.depth (enc3 z) = 1 := by
      show PyData.depth (.tuple [.int (z.1 : Int), .int (z.2.1 : Int), .int (z.2.2 : Int)]) = 1
      simp [PyData.depth, PyData.depthAll]
    omega
theorem encP_ok : EncOk encP := by
  refine ⟨fun a b => ?_, fun a b h => ?_, fun a => ⟨_, _, rfl⟩, fun a => ?_⟩
  · show PySem.W.alike (.tuple [dn a.1, .list (a.2.map enc3)]) (.tuple [dn b.1, .list (b.2.map enc3)]) = true
    rw [PySem.W.alike, PySem.W.alikeAll, alike_dn, PySem.W.alikeAll, PySem.W.alike, alike_t3]
    rfl
  · have h : (PyData.eqv (dn a.1) (dn b.1) && (PyData.eqvAll (a.2.map enc3) (b.2.map enc3) && true)) = true := h
    rw [eqv_dns, eqv_t3s] at h
    simp only [Bool.and_eq_true, decide_eq_true_iff, and_true] at h
    exact Prod.ext h.1 h.2
  · show PyData.depth (.tuple [dn a.1, .list (a.2.map enc3)]) ≤ 8
    unfold PyData.depth
    show max (PyData.depth (dn a.1)) (max (PyData.depth (.list (a.2.map enc3))) 0) + 1 ≤ 8
    have h1 := depth_t3 a.2
    have h2 : PyData.depth (.list (a.2.map enc3)) ≤ 2 := by unfold PyData.depth; omega
    have h3 : PyData.depth (dn a.1) ≤ 1 := by
      rw [dn_dz]
      show PyData.depth (.list ((cn a.1).map PyData.int)) ≤ 1
      unfold PyData.depth
      rw [depthAll_iz]
      omega
    omega
theorem le_pairs {x y x' y' : PyData} {a b : Nat} {r t : List Nat} (hx : x = dn (a :: r)) (hx' : x' = dn (b :: t)) (hy : PySem.W.alike y' y = true) (h : a ≠ b) : (!PySem.W.dataLt (.tuple [x', y']) (.tuple [x, y])) = decide (a ≤ b) := by
  subst hx hx'
  rw [PySem.W.dataLt_pair (alike_dn _ _) hy, eqv_dns]
  have : decide (b :: t = a :: r) = false := decide_eq_false fun z => h (List.cons.inj z).1.symm
  rw [this]
  exact dataLe_dn h
end My
set_option maxHeartbeats 4000000
namespace My
open PySem L2 PyProof.Rows
/-- a lot with its steps, in the heap -/
def PWt (H : Hp) (p : Addr) (e : List Nat × List (Nat × Nat × Nat)) : Prop := ∃ l z, H p = some (.tup [.ref l, .ref z]) ∧ H l = some (.lst (iv e.1)) ∧ T3s H z e.2
theorem PWt.same {H H' : Hp} {p : Addr} {e : List Nat × List (Nat × Nat × Nat)} (h : PWt H p e) (s : Same H H') : PWt H' p e := by
  obtain ⟨l, z, h1, h2, h3⟩ := h
  exact ⟨l, z, s _ _ h1, s _ _ h2, h3.same s⟩
theorem dpAll_t3 {K : PySem.W.Frag} {H : Hp} : ∀ {as : List Addr} {Z : List (Nat × Nat × Nat)}, Paired (T3 H) as Z → DpAll K H (as.map V.ref) (Z.map enc3)
  | _, _, .nil => .nil
  | _, _, .cons h r => .cons (dp_t3 h) (dpAll_t3 r)
theorem dp_t3s {K : PySem.W.Frag} {H : Hp} {l : Addr} {Z : List (Nat × Nat × Nat)} (h : T3s H l Z) : Dp K H (.ref l) (.list (Z.map enc3)) := by
  obtain ⟨as, h1, h2⟩ := h
  exact .lst (SqL.of h1) (dpAll_t3 h2)
theorem dp_pw {K : PySem.W.Frag} {H : Hp} {p : Addr} {e : List Nat × List (Nat × Nat × Nat)} (h : PWt H p e) : Dp K H (.ref p) (encP e) := by
  obtain ⟨l, z, h1, h2, h3⟩ := h
  exact .tup (SqT.of h1) (.cons (dp_dn h2) (.cons (dp_t3s h3) .nil))
theorem layAll_t3 : ∀ Z : List (Nat × Nat × Nat), PyData.canLayAll0 (Z.map enc3) = true
  | [] => rfl
  | e :: r => by
    show (PyData.canLay0 (enc3 e) && PyData.canLayAll0 (r.map enc3)) = true
    rw [layAll_t3 r]
    rfl
theorem shaped_t3 (Z : List (Nat × Nat × Nat)) : SeqAt.shaped (.list (Z.map enc3)) = true := by
  unfold SeqAt.shaped
  have h1 : PyData.canLay0 (.list (Z.map enc3)) = true := by
    unfold PyData.canLay0
    exact layAll_t3 _
  have h2 : PyData.depth (.list (Z.map enc3)) ≤ 64 := by
    unfold PyData.depth
    have := depth_t3 Z
    omega
  rw [h1, decide_eq_true h2]
  rfl
theorem eqv_t3nil (Z : List (Nat × Nat × Nat)) : PyData.eqv (.list (Z.map enc3)) (dz []) = decide (Z = []) := by
  cases Z with
  | nil => rfl
  | cons n r => rfl
/-- the steps within the lot of h -/
noncomputable def inLot (E : Nat → Nat → Prop) (M : Nat) (Z : List (Nat × Nat × Nat)) (h : Nat) : List (Nat × Nat × Nat) := Z.filter fun z => decide (z.1 ∈ clsL E M h ∧ z.2.1 ∈ clsL E M h)
noncomputable def lotE (N : Nat) (ts : List (Nat × Nat)) (W : List Nat) : Nat → Nat → Prop := Ed (endsOf (prodZ N ts W))
noncomputable def lotHeads (N : Nat) (ts : List (Nat × Nat)) (W : List Nat) : List Nat := (headsL (lotE N ts W) (prodS N ts W).length).filter fun h => decide (inLot (lotE N ts W) (prodS N ts W).length (prodZ N ts W) h ≠ [])
noncomputable def lotsW (N : Nat) (ts : List (Nat × Nat)) (W : List Nat) : List (List Nat × List (Nat × Nat × Nat)) := (lotHeads N ts W).map fun h => (clsL (lotE N ts W) (prodS N ts W).length h, inLot (lotE N ts W) (prodS N ts W).length (prodZ N ts W) h)
theorem T3s.g {H : Hp} {l : Addr} {Z : List (Nat × Nat × Nat)} (h : T3s H l Z) : StepsG H l (endsOf Z) := by
  obtain ⟨as, h1, h2⟩ := h
  refine ⟨as, h1, by unfold endsOf; rw [List.length_map]; exact paired_len h2, fun i u v e => ?_⟩
  unfold endsOf at e
  rw [List.getElem?_map] at e
  cases ez : Z[i]? with
  | none => rw [ez] at e; cases e
  | some z =>
    rw [ez] at e
    cases e
    have hl : i < as.length := by rw [paired_len h2]; exact (List.getElem?_eq_some_iff.mp ez).1
    obtain ⟨z', ez', hp⟩ := paired_get h2 (List.getElem?_eq_getElem hl)
    rw [ez] at ez'
    cases ez'
    exact ⟨as[i], z.2.2, List.getElem?_eq_getElem hl, hp⟩
section
variable {P : Program} {w : World} {K : PySem.W.Frag} {mg : Str → Option Value} {base : Heap} {C : Addr}
def spproduct (_ : PySem.W.Frag) (C : Addr) : Sp := fun vs H Q _ => ∃ a N ts s W, vs = [.ref a, .ref s] ∧ WebAt C a N ts H ∧ OkWeb N ts ∧ closedB N ts = true ∧ SeqAt H s W ∧ Chain ts W ∧ W.length ≤ 400 ∧ ∀ H' t d z, H t = none → Same H H' → H' t = some (.tup [.ref d, .ref z]) → TiesAt H' d (prodS N ts W) → T3s H' z (prodZ N ts W) → Q (.ref t) H'
theorem okproduct (D : Def K mg "product" sproduct ["web", "walk"]) (B : Bs mg) (Glb : Glo mg) (WK : WebK K mg C)
    (hneed_walk_of_close : Good P w K mg base "need_walk_of_close" sneed_walk_of_close ["web", "walk"] 8 (spneed_walk_of_close K C))
    (h_standings : Good P w K mg base "_standings" s_standings ["web", "walk"] 3 (sp_standings K C))
    (h_steps : Good P w K mg base "_steps" s_steps ["web", "walk", "standings"] 10 (sp_steps K C)) :
    Good P w K mg base "product" sproduct ["web", "walk"] 11 (spproduct K C) := by
  refine D.good fun f fd F => ?_
  obtain ⟨fneed_walk_of_close, dneed_walk_of_close, Oneed_walk_of_close, mneed_walk_of_close, kneed_walk_of_close, bneed_walk_of_close, Fneed_walk_of_close⟩ := hneed_walk_of_close
  obtain ⟨f_standings, d_standings, O_standings, m_standings, k_standings, b_standings, F_standings⟩ := h_standings
  obtain ⟨f_steps, d_steps, O_steps, m_steps, k_steps, b_steps, F_steps⟩ := h_steps
  refine F.ok scproduct (fun vs H Q E h => ?_) (fun cdv A outer s H vs Q E hr h => ?_)
  · obtain ⟨a, N, ts, s, W, rfl, hw, ho, hcl, hs, hW, hWl, q⟩ := h
    first | rfl | (rcases h with ⟨_, _, rfl, _⟩ | ⟨_, rfl, _⟩ <;> rfl)
  obtain ⟨a, N, ts, s, W, rfl, hw, ho, hcl, hs, hW, hWl, q⟩ := h
  refine ⟨_, (pss_cons (ps_expr (pe_call Oneed_walk_of_close (hr.mono (by decide)) rfl mneed_walk_of_close kneed_walk_of_close bneed_walk_of_close .nil pass0 (pa_cons (pv 0) (pa_cons (pv 1) pa_nil))))
  (pss_cons (ps_set (i := 2) scproduct.nd rfl (by first | exact Or.inl rfl | exact Or.inr rfl) (pe_call O_standings (hr.mono (by decide)) rfl m_standings k_standings b_standings .nil pass0 (pa_cons (pv 0) (pa_cons (pv 1) pa_nil))))
  (pss_one (ps_ret (pe_tup (pa_cons (pv 2) (pa_cons (pe_call O_steps hr rfl m_steps k_steps b_steps .nil pass0 (pa_cons (pv 0) (pa_cons (pv 1) (pa_cons (pv 2) pa_nil)))) pa_nil))))))), ?_⟩
  refine ⟨_, rfl, _, rfl, a, N, ts, s, W, rfl, hw, ho, hcl, hs, hW, hWl, fun H1 hS1 => ?_⟩
  refine ⟨_, rfl, _, rfl, a, N, ts, s, W, rfl, hw.same hS1, ho, hs.same hS1, hW, hWl, fun H2 d nd hS2 hd => ?_⟩
  have hS02 := hS1.trans hS2
  refine ⟨_, rfl, _, rfl, _, rfl, _, rfl, a, N, ts, s, W, d, _, rfl, hw.same hS02, ho, hs.same hS02, hW, hWl, hd, sortE_perm _, fun H3 z nz hS3 hz => ?_⟩
  refine ⟨(by show 2 ≤ sizeLine; decide), fun t nt => ?_⟩
  have hS4 := (hS02.trans hS3).trans (same_new nt (.tup [.ref d, .ref z]))
  exact q _ t d z ((hS02.trans hS3).free nt) hS4 upd_same ((hd.same hS3).same (same_new nt _)) (hz.same (same_new nt _))
def sp_ties_of (_ : PySem.W.Frag) (_ : Addr) : Sp := fun vs H Q _ => ∃ z Z M, vs = [.ref z] ∧ T3s H z Z ∧ Z.length ≤ 500 ∧ M ≤ 60 ∧ (∀ y ∈ Z, y.2.2 < M) ∧ ∀ H' p T, H p = none → Same H H' → T.Pairwise (· < ·) → (∀ x, x ∈ T ↔ ∃ y ∈ Z, y.2.2 = x) → H' p = some (.lst (iv T)) → Q (.ref p) H'
theorem ok_ties_of (D : Def K mg "_ties_of" s_ties_of ["steps"]) (B : Bs mg) (Glb : Glo mg) (WK : WebK K mg C) :
    Good P w K mg base "_ties_of" s_ties_of ["steps"] 1 (sp_ties_of K C) := by
  refine D.good fun f fd F => ?_
  refine F.ok sc_ties_of (fun vs H Q E h => ?_) (fun cdv A outer s H vs Q E hr h => ?_)
  · obtain ⟨z, Z, M, rfl, hz, hZl, hM, hlt, q⟩ := h
    first | rfl | (rcases h with ⟨_, _, rfl, _⟩ | ⟨_, rfl, _⟩ <;> rfl)
  obtain ⟨z, Z, M, rfl, hz, hZl, hM, hlt, q⟩ := h
  refine ⟨_, (pss_one (ps_ret (pe_callB (cr_sortIn rfl) (by rfl) B.sorted (by decide +kernel) (pa_cons (pe_callTy (cr_setIn rfl) (by rfl) B.set (by decide +kernel) (pa_cons (pe_lc (own := [("step", 1)]) (g := gName 1) (by rfl) sc_ties_of.nd (pi_list (pv 0)) (blkOk_by (own := [("step", 1)]) (N := ["steps", "step"]) (sc := defScope s_ties_of) (by decide +kernel)) (fun _ _ _ _ _ => (pg_name (i := 1) sc_ties_of.nd rfl (by first | exact Or.inl rfl | exact Or.inr rfl))) (fun _ _ _ _ _ => pts_nil) (fun _ _ _ _ _ => (pe_ix (ix_tupK (K := K) rfl) (pv 1) pe_int (by exact fun _ _ => rfl)))) pa_nil)) pa_nil)))), ?_⟩
  obtain ⟨as, h1, h2⟩ := id hz
  have hal := paired_len h2
  refine ⟨_, rfl, z, rfl, ⟨_, SqL.of h1⟩, fun D nD => ?_⟩
  refine lc_list (K := K) (a := z) (xs := as.map V.ref) (fun i H' => Same H H' ∧ H' D = some (.lst (((Z.take i).map fun y => (y.2.2 : Int)).map V.int))) ⟨same_new nD _, upd_same⟩ (fun i H' _ ⟨hS', _⟩ => SqL.of (hS' _ _ h1)) ?_ ?_
  · rintro i x H1 hx ⟨hS1, hD1⟩
    obtain ⟨p, y, rfl, _, hy, hp⟩ := paired_at h2 hx
    have hp1 : H1 p = some _ := hS1 _ _ hp
    refine ⟨rfl, _, rfl, _, _, _, .int (y.2.2 : Int), rfl, rfl, SqT.of hp1, rfl, _, hD1, ?_, same_upd hS1 nD, ?_⟩
    · rw [List.length_map, List.length_map, List.length_take]
      exact sml1000 (by omega)
    · rw [upd_same, List.take_succ, hy, List.map_append, List.map_append]
      rfl
  rintro H1 ⟨hS1, hD1⟩
  rw [List.length_map, hal, List.take_length] at hD1
  refine ⟨D, _, rfl, SqL.of hD1, by rw [List.length_map]; omega, fun p n hn hnl np => ?_⟩
  have hS2 : Same H1 (upd H1 p (InO w p (inI (Z.map fun y => (y.2.2 : Int))) n)) := same_new np _
  have hbound : n < 64 := by
    have hr : ((List.range M).filter fun x => decide (∃ y ∈ Z, y.2.2 = x)).Nodup := (List.pairwise_lt_range.imp fun {a b} (h : a < b) (e : a = b) => by omega : (List.range M).Nodup).filter _
    have h3 := hn (cn ((List.range M).filter fun x => decide (∃ y ∈ Z, y.2.2 = x))) (cn_nodup hr) fun k => by
      rw [cn, List.mem_map, List.mem_map]
      constructor
      · rintro ⟨x, hx, rfl⟩
        obtain ⟨y, hy, rfl⟩ := of_decide_eq_true (List.mem_filter.mp hx).2
        exact ⟨y, hy, rfl⟩
      · rintro ⟨y, hy, rfl⟩
        exact ⟨y.2.2, List.mem_filter.mpr ⟨List.mem_range.mpr (hlt y hy), decide_eq_true ⟨y, hy, rfl⟩⟩, rfl⟩
    have h4 := List.length_filter_le (fun x => decide (∃ y ∈ Z, y.2.2 = x)) (List.range M)
    rw [List.length_map] at h3
    rw [List.length_range] at h4
    omega
  refine ⟨p, _, n, rfl, upd_same, hbound, fun T p2 hT hmem hTl np2 => ?_⟩
  obtain ⟨T', rfl⟩ : ∃ T' : List Nat, T = cn T' := ⟨T.map Int.toNat, by
    rw [cn, List.map_map]
    refine (List.map_id' T).symm.trans (List.map_congr_left fun k hk => ?_)
    have := of_decide_eq_true (p := k ∈ _) ((hmem k).mp hk)
    obtain ⟨y, _, rfl⟩ := List.mem_map.mp this
    rfl⟩
  refine q _ p2 T' (hS1.free (hS2.free np2)) ((hS1.trans hS2).trans (same_new np2 _)) ?_ (fun x => ?_) ?_
  · rw [cn, List.pairwise_map] at hT
    exact hT.imp fun h => by omega
  · have h5 : x ∈ T' ↔ (x : Int) ∈ cn T' := ⟨fun h => List.mem_map.mpr ⟨x, h, rfl⟩, fun h => by
      obtain ⟨y, hy, e⟩ := List.mem_map.mp h
      rw [← Int.ofNat.inj e]
      exact hy⟩
    rw [h5, hmem]
    show decide ((x : Int) ∈ _) = true ↔ _
    rw [decide_eq_true_iff, List.mem_map]
    constructor
    · rintro ⟨y, hy, e⟩
      exact ⟨y, hy, Int.ofNat.inj e⟩
    · rintro ⟨y, hy, rfl⟩
      exact ⟨y, hy, rfl⟩
  · rw [upd_same, cn, List.map_map]
    rfl
end
end My
set_option maxHeartbeats 4000000
namespace My
open PySem L2 PyProof.Rows
theorem T3s.side {H : Hp} {l m : Addr} {Z : List (Nat × Nat × Nat)} {xs ys : List V} (h : T3s H l Z) (hm : m ≠ l) (hx : H m = some (.lst xs)) : T3s (upd H m (.lst ys)) l Z := by
  obtain ⟨as, h1, h2⟩ := h
  refine ⟨as, by rw [upd_ne hm.symm]; exact h1, paired_mono (fun p z hp => ?_) h2⟩
  show upd _ _ _ p = _
  rw [upd_ne (ne_of hp hx (by intro z; cases z))]
  exact hp
def PWb (H0 H : Hp) (p : Addr) (e : List Nat × List (Nat × Nat × Nat)) : Prop := ∃ l z, H p = some (.tup [.ref l, .ref z]) ∧ H0 l = some (.lst (iv e.1)) ∧ T3s H0 z e.2
theorem PWb.same {H0 H H' : Hp} {p : Addr} {e : List Nat × List (Nat × Nat × Nat)} (h : PWb H0 H p e) (s : Same H H') : PWb H0 H' p e := by
  obtain ⟨l, z, h1, h2, h3⟩ := h
  exact ⟨l, z, s _ _ h1, h2, h3⟩
theorem PWb.put {H0 H : Hp} {p m : Addr} {xs ys : List V} {e : List Nat × List (Nat × Nat × Nat)} (h : PWb H0 H p e) (hm : H m = some (.lst xs)) : PWb H0 (upd H m (.lst ys)) p e := by
  obtain ⟨l, z, h1, h2, h3⟩ := h
  refine ⟨l, z, ?_, h2, h3⟩
  rw [upd_ne (ne_of h1 hm (by intro z; cases z))]
  exact h1
theorem PWb.t {H0 H : Hp} {p : Addr} {e : List Nat × List (Nat × Nat × Nat)} (h : PWb H0 H p e) (s : Same H0 H) : PWt H p e := by
  obtain ⟨l, z, h1, h2, h3⟩ := h
  exact ⟨l, z, h1, s _ _ h2, h3.same s⟩
theorem lot_uniq {E : Nat → Nat → Prop} {M : Nat} {hs : List Nat} (hp : hs.Perm (headsL E M)) {j k h h' x : Nat} (e1 : hs[j]? = some h) (e2 : hs[k]? = some h') (x1 : x ∈ clsL E M h) (x2 : x ∈ clsL E M h') : j = k := by
  have m1 := hp.mem_iff.mp (List.mem_of_getElem? e1)
  have m2 := hp.mem_iff.mp (List.mem_of_getElem? e2)
  have hn : hs.Nodup := hp.nodup_iff.mpr (headsL_rising.imp fun h => Nat.ne_of_lt h)
  have e : h = h' := head_unique m1 m2 ((clsL_mem.mp x1).2.trans (clsL_mem.mp x2).2.symm)
  subst e
  exact nodup_get hn e1 e2
theorem lot_of {E : Nat → Nat → Prop} {M : Nat} {hs : List Nat} (hp : hs.Perm (headsL E M)) {x : Nat} (hx : x < M) : ∃ k h : Nat, hs[k]? = some h ∧ x ∈ clsL E M h := by
  obtain ⟨h, hh, hm⟩ := head_of (E := E) hx
  obtain ⟨k, hk⟩ := List.getElem?_of_mem (hp.mem_iff.mpr hh)
  exact ⟨k, h, hk, clsL_mem.mpr ⟨hx, hm.symm⟩⟩
theorem le_lots {E : Nat → Nat → Prop} {M : Nat} {Z : List (Nat × Nat × Nat)} {a b : Nat} (ha : a ∈ headsL E M) (hb : b ∈ headsL E M) (h : a ≠ b) : PySem.W.dataLe false encP (clsL E M a, inLot E M Z a) (clsL E M b, inLot E M Z b) = decide (a ≤ b) := by
  obtain ⟨r, er⟩ := clsL_head ha
  obtain ⟨t, et⟩ := clsL_head hb
  rw [le_def]
  exact le_pairs (congrArg dn er) (congrArg dn et) (by rw [PySem.W.alike]; exact alike_t3 _ _) h
section
variable {P : Program} {w : World} {K : PySem.W.Frag} {mg : Str → Option Value} {base : Heap} {C : Addr}
def sp_parts_with_steps (_ : PySem.W.Frag) (C : Addr) : Sp := fun vs H Q _ => ∃ a N ts s W, vs = [.ref a, .ref s] ∧ WebAt C a N ts H ∧ OkWeb N ts ∧ closedB N ts = true ∧ SeqAt H s W ∧ Chain ts W ∧ N + W.length ≤ 61 ∧ W.length * ts.length ≤ 80 ∧ ∀ H' p us, H p = none → Same H H' → H' p = some (.lst (us.map V.ref)) → Paired (PWt H') us (lotsW N ts W) → Q (.ref p) H'
theorem ok_parts_with_steps (D : Def K mg "_parts_with_steps" s_parts_with_steps ["web", "walk"]) (B : Bs mg) (Glb : Glo mg) (WK : WebK K mg C)
    (hproduct : Good P w K mg base "product" sproduct ["web", "walk"] 11 (spproduct K C))
    (hparts_in_turn : Good P w K mg base "parts_in_turn" sparts_in_turn ["points", "steps"] 2 (spparts_in_turn K C)) :
    Good P w K mg base "_parts_with_steps" s_parts_with_steps ["web", "walk"] 12 (sp_parts_with_steps K C) := by
  refine D.good fun f fd F => ?_
  obtain ⟨fproduct, dproduct, Oproduct, mproduct, kproduct, bproduct, Fproduct⟩ := hproduct
  obtain ⟨fparts_in_turn, dparts_in_turn, Oparts_in_turn, mparts_in_turn, kparts_in_turn, bparts_in_turn, Fparts_in_turn⟩ := hparts_in_turn
  refine F.ok sc_parts_with_steps (fun vs H Q E h => ?_) (fun cdv A outer s H vs Q E hr h => ?_)
  · obtain ⟨a, N, ts, s, W, rfl, hw, ho, hcl, hs, hW, hNW, hZ, q⟩ := h
    first | rfl | (rcases h with ⟨_, _, rfl, _⟩ | ⟨_, rfl, _⟩ <;> rfl)
  obtain ⟨a, N, ts, s, W, rfl, hw, ho, hcl, hs, hW, hNW, hZ, q⟩ := h
  refine ⟨_, (pss_cons (ps_asg (pe_call Oproduct hr rfl mproduct kproduct bproduct .nil pass0 (pa_cons (pv 0) (pa_cons (pv 1) pa_nil))) (pg_tup rfl (pgs_cons (pg_name (i := 2) sc_parts_with_steps.nd rfl (by first | exact Or.inl rfl | exact Or.inr rfl)) (pgs_cons (pg_name (i := 3) sc_parts_with_steps.nd rfl (by first | exact Or.inl rfl | exact Or.inr rfl)) pgs_nil))))
  (pss_cons (ps_set (i := 4) sc_parts_with_steps.nd rfl (by first | exact Or.inl rfl | exact Or.inr rfl) (pe_call Oparts_in_turn (hr.mono (by decide)) rfl mparts_in_turn kparts_in_turn bparts_in_turn .nil pass0 (pa_cons (pe_callB call_len_seq (by rfl) B.len (by decide +kernel) (pa_cons (pv 2) pa_nil)) (pa_cons (pv 3) pa_nil))))
  (pss_cons (ps_setDc2 (i := 5) (own := [("number", 6), ("lot", 7), ("at", 8)]) (vs1 := [8]) (g := gTup K 2 (gCons (gName 6) (gCons (gName 7) gNil))) (g1 := gName 8) (hu_of hr) (by rfl) sc_parts_with_steps.nd rfl rfl (sw_dict rfl rfl rfl (by decide +kernel)) (pi_enum (by rfl) B.enumerate (pa_cons (pv 4) pa_nil)) (blkOk_by (own := [("number", 6), ("lot", 7), ("at", 8)]) (N := ["web", "walk", "standings", "steps", "lots", "numbers", "number", "lot", "at", "within", "step", "_"]) (sc := defScope s_parts_with_steps) (by decide +kernel)) (by decide) (fun _ _ _ _ _ => (pg_tup rfl (pgs_cons (pg_name (i := 6) sc_parts_with_steps.nd rfl (by first | exact Or.inl rfl | exact Or.inr rfl)) (pgs_cons (pg_name (i := 7) sc_parts_with_steps.nd rfl (by first | exact Or.inl rfl | exact Or.inr rfl)) pgs_nil)))) (fun _ _ _ _ _ => pts_nil) (fun _ _ _ _ _ => (pi_listK (K := K) rfl (pv 7))) (fun _ _ _ _ _ => (pg_name (i := 8) sc_parts_with_steps.nd rfl (by first | exact Or.inl rfl | exact Or.inr rfl))) (fun _ _ _ _ _ => pts_nil) (fun _ _ _ _ _ => (pv 8)) (fun _ _ _ _ _ => (pv 6)))
  (pss_cons (ps_set (i := 9) sc_parts_with_steps.nd rfl (by first | exact Or.inl rfl | exact Or.inr rfl) (pe_lc (own := [("_", 11)]) (g := gName 11) (by rfl) sc_parts_with_steps.nd (pi_list (pv 4)) (blkOk_by (own := [("_", 11)]) (N := ["web", "walk", "standings", "steps", "lots", "numbers", "number", "lot", "at", "within", "step", "_"]) (sc := defScope s_parts_with_steps) (by decide +kernel)) (fun _ _ _ _ _ => (pg_name (i := 11) sc_parts_with_steps.nd rfl (by first | exact Or.inl rfl | exact Or.inr rfl))) (fun _ _ _ _ _ => pts_nil) (fun _ _ _ _ _ => (pe_lst pa_nil))))
  (pss_cons (ps_for PassesOwn.never rfl (pi_list (pv 3)) (pg_name (i := 10) sc_parts_with_steps.nd rfl (by first | exact Or.inl rfl | exact Or.inr rfl))
    (pss_one (ps_if (pt_cmpR op_eq (pe_dget (hu_of hr) (pv 5) (pe_ix ix_tup (pv 10) pe_int (fun _ _ => rfl)) (fun _ _ => rfl)) (pe_dget (hu_of hr) (pv 5) (pe_ix ix_tup (pv 10) pe_int (fun _ _ => rfl)) (fun _ _ => rfl)) (nomark _))
    (pss_one (ps_expr (pe_bm PySem.F.plainAttrs_list PySem.F.slot_list_append PySem.F.type_list_append mt_append (pe_ix ix_list (pv 9) (pe_dget (hu_of hr) (pv 5) (pe_ix ix_tup (pv 10) pe_int (fun _ _ => rfl)) (fun _ _ => rfl)) (fun _ _ => rfl)) (pa_cons (pv 10) pa_nil)))) pss_nil)))
  (pss_one (ps_ret (pe_callB (cr_sortD hr.units) (by rfl) B.sorted (by decide +kernel) (pa_cons (pe_lc (own := [("number", 6), ("lot", 7)]) (g := gTup K 2 (gCons (gName 6) (gCons (gName 7) gNil))) (by rfl) sc_parts_with_steps.nd (pi_enum (by rfl) B.enumerate (pa_cons (pv 4) pa_nil)) (blkOk_by (own := [("number", 6), ("lot", 7)]) (N := ["web", "walk", "standings", "steps", "lots", "numbers", "number", "lot", "at", "within", "step", "_"]) (sc := defScope s_parts_with_steps) (by decide +kernel)) (fun _ _ _ _ _ => (pg_tup rfl (pgs_cons (pg_name (i := 6) sc_parts_with_steps.nd rfl (by first | exact Or.inl rfl | exact Or.inr rfl)) (pgs_cons (pg_name (i := 7) sc_parts_with_steps.nd rfl (by first | exact Or.inl rfl | exact Or.inr rfl)) pgs_nil)))) (fun _ _ _ _ _ => (pts_one (pt_cmpR (op_neDK (K := K) rfl hr.units) (pe_ix (ix_listK (K := K) rfl) (pv 9) (pv 6) (by exact fun _ _ => rfl)) (pe_lst pa_nil) (nomark _)))) (fun _ _ _ _ _ => (pe_tup (pa_cons (pv 7) (pa_cons (pe_ix (ix_listK (K := K) rfl) (pv 9) (pv 6) (by exact fun _ _ => rfl)) pa_nil))))) pa_nil))))))))), ?_⟩
  have h0 := hW.n0
  have hn0 := ho.n0
  refine ⟨_, rfl, _, rfl, a, N, ts, s, W, rfl, hw, ho, hcl, hs, hW, by omega, fun H1 t d z nt hS1 ht hd hz => ⟨t, _, rfl, SqT.of ht, rfl, _, _, rfl, _, _, rfl, rfl, ?_⟩⟩
  obtain ⟨das, hdl, hdP⟩ := id hd
  have hM0 : (das.map V.ref).length = (prodS N ts W).length := by rw [List.length_map, paired_len hdP]
  have hok := prodZ_ok ho hW hNW hZ
  have hZl := prodZ_len (N := N) (ts := ts) h0
  have hMl := prodS_len N ts W
  have hZm : ∀ y ∈ prodZ N ts W, y.1 < (prodS N ts W).length ∧ y.2.1 < (prodS N ts W).length := fun y hy => hok.ok (y.1, y.2.1) (List.mem_map.mpr ⟨y, hy, rfl⟩)
  obtain ⟨E, hE⟩ : ∃ E, E = lotE N ts W := ⟨_, rfl⟩
  obtain ⟨M, hM⟩ : ∃ M, M = (prodS N ts W).length := ⟨_, rfl⟩
  obtain ⟨Z, hZe⟩ : ∃ Z, Z = prodZ N ts W := ⟨_, rfl⟩
  refine ⟨_, rfl, d, _, rfl, .inl (SqL.of hdl), _, rfl, M, z, endsOf Z, by rw [hM0, hM]; rfl, by rw [hZe]; exact hz.g, by rw [hZe, hM]; exact hok, fun H2 l hs' nl hS2 hperm hlol hnew => ?_⟩
  rw [show Ed (endsOf Z) = E by rw [hE, hZe]; rfl] at hperm hlol
  rw [← hM] at hMl hZm
  rw [← hZe] at hZl hZm hz
  have hhl : hs'.length ≤ M := by
    rw [hperm.length_eq]
    exact nodup_len headsL_rising fun x hx => (headsL_mem.mp hx).1
  obtain ⟨las, l1, l2⟩ := id hlol
  have lal : las.length = hs'.length := by rw [paired_len l2, List.length_map]
  have lget : ∀ {k h : Nat}, hs'[k]? = some h → ∃ p, las[k]? = some p ∧ H2 p = some (.lst (iv (clsL E M h))) := fun {k h} e => by
    have hk : k < las.length := by rw [lal]; exact (List.getElem?_eq_some_iff.mp e).1
    obtain ⟨L, eL, hp⟩ := paired_get l2 (List.getElem?_eq_getElem hk)
    rw [List.getElem?_map, e] at eL
    cases eL
    exact ⟨las[k], List.getElem?_eq_getElem hk, hp⟩
  have hcl : ∀ h, (clsL E M h).length ≤ M := fun h => nodup_len clsL_rising fun x hx => (clsL_mem.mp hx).1
  refine ⟨_, rfl, l, _, rfl, SqL.of l1, fun D nD => ?_⟩
  -- numbers
  refine dcG_it (walk_enum (K := K) (a := l) (xs := las.map V.ref)) (fun i H' => Same H2 H' ∧ ∃ kvs, H' D = some (.dK kvs) ∧ kvs.length ≤ i * M ∧ ∀ (k h x : Nat), k < i → hs'[k]? = some h → x ∈ clsL E M h → valV kvs (.inl (x : Int)) = some (.int (k : Int))) ⟨same_new nD _, [], upd_same, Nat.zero_le _, fun k h x hk => by omega⟩ (fun i H' _ ⟨hS', _⟩ => SqL.of (hS' _ _ l1)) ?_ ?_
  · rintro i x H3 H4 hi ⟨hS3, kvs, hD3, hkl, hkv⟩ ⟨T0, x1, x2, rfl, nT0, rfl, e1, e2⟩
    cases e1
    rw [List.length_map] at hi
    replace e2 : (las.map V.ref)[i]? = some x2 := e2
    obtain ⟨h, hh⟩ : ∃ h, hs'[i]? = some h := ⟨_, List.getElem?_eq_getElem (by omega)⟩
    obtain ⟨p, ep, hp⟩ := lget hh
    rw [List.getElem?_map, ep] at e2
    cases e2
    have hS4 := hS3.trans (same_new nT0 (.tup [.int (i : Int), .ref p]))
    have hD4 := same_new nT0 (.tup [.int (i : Int), .ref p]) _ _ hD3
    have hT4 : upd H3 T0 (.tup [.int (i : Int), .ref p]) T0 = some (.tup [.int (i : Int), .ref p]) := upd_same
    generalize upd H3 T0 (.tup [.int (i : Int), .ref p]) = H4 at hS4 hD4 hT4
    have hp4 := hS4 _ _ hp
    refine ⟨T0, _, rfl, SqT.of hT4, rfl, _, _, rfl, _, _, rfl, rfl, rfl, ?_⟩
    refine ⟨_, rfl, p, rfl, ⟨_, SqL.of hp4⟩, ?_⟩
    refine two_it (walk_list (K := K) (a := p) (xs := iv (clsL E M h))) (fun j H' => Same H2 H' ∧ ∃ kvs, H' D = some (.dK kvs) ∧ kvs.length ≤ i * M + j ∧ (∀ (k h x : Nat), k < i → hs'[k]? = some h → x ∈ clsL E M h → valV kvs (.inl (x : Int)) = some (.int (k : Int))) ∧ ∀ x ∈ (clsL E M h).take j, valV kvs (.inl (x : Int)) = some (.int (i : Int))) ⟨hS4, kvs, hD4, hkl, hkv, fun x hx => by rw [List.take_zero] at hx; cases hx⟩ (fun j H' _ ⟨hS', _⟩ => SqL.of (hS' _ _ hp)) ?_ ?_
    · rintro j y H5 H6 hj ⟨hS5, kvs5, hD5, hkl5, hkv5, hin5⟩ ⟨rfl, ey⟩
      rw [List.getElem?_map] at ey
      obtain ⟨x, ex, rfl⟩ : ∃ x, (clsL E M h)[j]? = some x ∧ y = V.int (x : Int) := by
        cases e : (clsL E M h)[j]? with
        | none => rw [e] at ey; cases ey
        | some v => rw [e] at ey; exact ⟨v, rfl, (Option.some.inj ey).symm⟩
      have hxm := List.mem_of_getElem? ex
      rw [iv_length] at hj
      have hcl1 := hcl h
      have hiM : i * M + M ≤ 60 * 60 := by
        have h1 : (i + 1) * M ≤ 60 * 60 := Nat.mul_le_mul (by omega) (by omega)
        rwa [Nat.succ_mul] at h1
      refine ⟨rfl, _, rfl, _, rfl, _, DPut.k (k := Sum.inl (x : Int)) hD5 (Nat.lt_of_le_of_lt (by omega : kvs5.length ≤ 4000) (by decide)), same_upd hS5 nD, _, upd_same, ?_, fun k h' y hk hh' hy => ?_, fun y hy => ?_⟩
      · have := length_putK kvs5 (Sum.inl (x : Int) : Key) (V.int (i : Int))
        omega
      · rw [valV_put]
        by_cases c : y = x
        · subst c
          have := lot_uniq hperm hh' hh hy hxm
          omega
        · rw [if_neg fun z => c (by have := Sum.inl.inj z; omega)]
          exact hkv5 k h' y hk hh' hy
      · rw [valV_put]
        by_cases c : y = x
        · rw [if_pos (by rw [c])]
        · rw [if_neg fun z => c (by have := Sum.inl.inj z; omega)]
          rw [List.take_succ, ex, List.mem_append] at hy
          rcases hy with hy | hy
          · exact hin5 y hy
          · exact absurd (by simpa using hy) c
    · rintro H5 ⟨hS5, kvs5, hD5, hkl5, hkv5, hin5⟩
      rw [iv_length] at hkl5 hin5
      rw [List.take_length] at hin5
      have hcl1 := hcl h
      refine ⟨hS5, kvs5, hD5, by rw [Nat.succ_mul]; omega, fun k h' x hk hh' hx => ?_⟩
      by_cases c : k = i
      · subst c
        rw [hh] at hh'
        cases hh'
        exact hin5 x hx
      · exact hkv5 k h' x (by omega) hh' hx
  rintro H3 ⟨hS3, kvs, hD3, hkl, hkv0⟩
  rw [List.length_map, lal] at hkv0
  have hkv : ∀ {k h x : Nat}, hs'[k]? = some h → x ∈ clsL E M h → valV kvs (.inl (x : Int)) = some (.int (k : Int)) := fun {k h x} e hx => hkv0 k h x (List.getElem?_eq_some_iff.mp e).1 e hx
  have l3 := hS3 _ _ l1
  refine ⟨_, rfl, l, rfl, ⟨_, SqL.of l3⟩, fun Wl nWl => ?_⟩
  refine lc_list (K := K) (a := l) (xs := las.map V.ref) (fun i H' => i ≤ las.length ∧ Fresh H3 Wl i H') ⟨Nat.zero_le _, Fresh.zero nWl⟩ (fun i H' _ ⟨_, hf⟩ => ?_) ?_ ?_
  · obtain ⟨_, _, _, _, hS', _⟩ := hf
    exact SqL.of (hS' _ _ l3)
  · rintro i x H' hx ⟨_, hf⟩
    have hi := (List.getElem?_eq_some_iff.mp hx).1
    rw [List.length_map] at hi
    refine ⟨rfl, Nat.zero_le _, fun p np => ?_⟩
    obtain ⟨acc, k1, k2, k3⟩ := hf.step nWl (by omega) np
    exact ⟨acc, k1, k2, hi, k3⟩
  rintro H4 ⟨_, os, o1, o2, o3, o4, o5, o6⟩
  rw [List.length_map] at o1
  have z4 : T3s H4 z Z := ((hz.same hS2).same hS3).same o4
  obtain ⟨zas, zl, zp⟩ := id z4
  have zal := paired_len zp
  have hlt : ∀ {k h : Nat}, hs'[k]? = some h → ∃ x, os[k]? = some x := fun {k h} e => ⟨_, List.getElem?_eq_getElem (by rw [o1, lal]; exact (List.getElem?_eq_some_iff.mp e).1)⟩
  have notin : ∀ {b : Addr} {o : HO}, H3 b = some o → b ∉ os := fun {b o} e hb => by
    rw [(o3 b hb).1] at e
    cases e
  have hWl : Wl ∉ os := fun hb => (o3 Wl hb).2 rfl
  have hDn := notin hD3
  have hzn := notin (((hz.same hS2).same hS3).choose_spec.1)
  have hln := notin l3
  refine ⟨_, rfl, z, rfl, ⟨_, SqL.of zl⟩, ?_⟩
  refine for_list (K := K) (a := z) (xs := zas.map V.ref) (fun i σ H' => ∃ v10 : Option V, σ = [some (.ref a), some (.ref s), some (.ref d), some (.ref z), some (.ref l), some (.ref D), none, none, none, some (.ref Wl), v10, none] ∧ KeptR os H4 H' ∧ ∀ (k h : Nat) (x : Addr), hs'[k]? = some h → os[k]? = some x → T3s H' x ((Z.take i).filter fun y => decide (y.1 ∈ clsL E M h ∧ y.2.1 ∈ clsL E M h))) ⟨none, rfl, KeptR.refl _ _, fun k h x _ ex => ⟨[], o6 x (List.mem_of_getElem? ex), .nil⟩⟩ (fun i σ H' _ ⟨_, _, hk, _⟩ => SqL.of (hk _ _ zl hzn)) ?_ ?_
  · rintro i x σ H5 hx ⟨v10, rfl, hk5, hr5⟩
    obtain ⟨py, y, rfl, hpm, hy, hpy⟩ := paired_at zp hx
    have hpyn : py ∉ os := fun hb => by
      have := o6 py hb
      rw [show H4 py = _ from hpy] at this
      cases this
    have hpy5 : H5 py = some (.tup [.int (y.1 : Int), .int (y.2.1 : Int), .int (y.2.2 : Int)]) := hk5 _ _ hpy hpyn
    have hD5 := hk5 _ _ (o4 _ _ hD3) hDn
    obtain ⟨b1, b2⟩ := hZm y (List.mem_of_getElem? hy)
    obtain ⟨k1, h1, e1, m1⟩ := lot_of hperm (x := y.1) b1
    obtain ⟨k2, h2, e2, m2⟩ := lot_of hperm (x := y.2.1) b2
    have g1 : DGet H5 D (.int (y.1 : Int)) (some (.int (k1 : Int))) := (hkv e1 m1) ▸ DGet.k (k := Sum.inl (y.1 : Int)) hD5
    have g2 : DGet H5 D (.int (y.2.1 : Int)) (some (.int (k2 : Int))) := (hkv e2 m2) ▸ DGet.k (k := Sum.inl (y.2.1 : Int)) hD5
    have e3 : Z.take (i + 1) = Z.take i ++ [y] := by rw [List.take_succ, hy]; rfl
    refine ⟨_, rfl, _, rfl, _, _, _, .int (y.1 : Int), rfl, rfl, SqT.of hpy5, rfl, D, _, rfl, g1, _, rfl, _, rfl, _, _, _, .int (y.2.1 : Int), rfl, rfl, SqT.of hpy5, rfl, D, _, rfl, g2, rfl, _, rfl, ?_⟩
    by_cases c : k1 = k2
    · subst c
      rw [e1] at e2
      cases e2
      obtain ⟨xa, exa⟩ := hlt e1
      have hxm := List.mem_of_getElem? exa
      have hrow := hr5 _ _ _ e1 exa
      obtain ⟨ys, y1, y2, y3⟩ := hrow.push (tp := py) (z := y) hpy5
      have hyl : ys.length ≤ 80 := by
        rw [y2]
        have := List.length_filter_le (fun y : Nat × Nat × Nat => decide (y.1 ∈ clsL E M h1 ∧ y.2.1 ∈ clsL E M h1)) (Z.take i)
        rw [List.length_take] at this
        omega
      refine iteYes rfl ⟨_, rfl, _, rfl, _, rfl, _, _, _, .int (y.1 : Int), rfl, rfl, SqT.of hpy5, rfl, D, _, rfl, g1, _, _, _, .ref xa, rfl, rfl, SqL.of (hk5 _ _ o5 hWl), atI_nat (by rw [List.getElem?_map, exa]; rfl), .inl ⟨rfl, _, SqL.of y1⟩, _, rfl, xa, ys, _, rfl, rfl, y1, sml1000 (by omega), ?_⟩
      refine ⟨_, rfl, hk5.put hxm, fun k h x ek ex => ?_⟩
      rw [e3, List.filter_append]
      by_cases ck : k = k1
      · subst ck
        rw [e1] at ek
        cases ek
        rw [exa] at ex
        cases ex
        rw [List.filter_cons_of_pos (by simpa using ⟨m1, m2⟩), List.filter_nil]
        exact y3
      · have hno : ¬ (y.1 ∈ clsL E M h ∧ y.2.1 ∈ clsL E M h) := fun hm => ck (lot_uniq hperm ek e1 hm.1 m1)
        rw [List.filter_cons_of_neg (by simpa using hno), List.filter_nil, List.append_nil]
        refine (hr5 _ _ _ ek ex).side (fun z => ck ?_) y1
        exact nodup_get o2 ex (by rw [← z]; exact exa)
    · refine iteNo (fun z => c (by have := int_eq.mp z; omega)) ⟨_, rfl, hk5, fun k h x ek ex => ?_⟩
      have hno : ¬ (y.1 ∈ clsL E M h ∧ y.2.1 ∈ clsL E M h) := fun hm => c ((lot_uniq hperm e1 ek m1 hm.1).trans (lot_uniq hperm ek e2 hm.2 m2))
      rw [e3, List.filter_append, List.filter_cons_of_neg (by simpa using hno), List.filter_nil, List.append_nil]
      exact hr5 _ _ _ ek ex
  rintro σ H5 ⟨v10, rfl, hk5, hr5⟩
  rw [List.length_map, zal, List.take_length] at hr5
  have hrow : ∀ {k h : Nat} {x : Addr}, hs'[k]? = some h → os[k]? = some x → T3s H5 x (inLot E M Z h) := fun {k h x} e1 e2 => hr5 k h x e1 e2
  have hS25 : ∀ b o, H3 b = some o → H5 b = some o := fun b o e => hk5 _ _ (o4 _ _ e) (notin e)
  have hW5 := hk5 _ _ o5 hWl
  have l5 := hS25 _ _ l3
  refine ⟨_, rfl, l, _, rfl, SqL.of l5, fun R nR => ?_⟩
  refine lc_it (walk_enum (K := K) (a := l) (xs := las.map V.ref)) (fun i H' => Same H5 H' ∧ ∃ us : List Addr, H' R = some (.lst (us.map V.ref)) ∧ Paired (PWb H5 H') us (((hs'.take i).filter fun h => decide (inLot E M Z h ≠ [])).map fun h => (clsL E M h, inLot E M Z h))) ⟨same_new nR _, [], upd_same, .nil⟩ (fun i H' _ ⟨hS', _⟩ => SqL.of (hS' _ _ l5)) ?_ ?_
  · rintro i x H6 H7 hi ⟨hS6, us, hR6, hP6⟩ ⟨T0, x1, x2, rfl, nT0, rfl, e1, e2⟩
    cases e1
    rw [List.length_map] at hi
    replace e2 : (las.map V.ref)[i]? = some x2 := e2
    obtain ⟨h, hh⟩ : ∃ h, hs'[i]? = some h := ⟨_, List.getElem?_eq_getElem (by omega)⟩
    obtain ⟨p, ep, hp⟩ := lget hh
    obtain ⟨xa, exa⟩ := hlt hh
    rw [List.getElem?_map, ep] at e2
    cases e2
    have hS7 := hS6.trans (same_new nT0 (.tup [.int (i : Int), .ref p]))
    have hR7 := same_new nT0 (.tup [.int (i : Int), .ref p]) _ _ hR6
    have hP7 := paired_mono (fun u e (hu : PWb H5 H6 u e) => hu.same (same_new nT0 (.tup [.int (i : Int), .ref p]))) hP6
    have hT7 : upd H6 T0 (.tup [.int (i : Int), .ref p]) T0 = some (.tup [.int (i : Int), .ref p]) := upd_same
    generalize upd H6 T0 (.tup [.int (i : Int), .ref p]) = H7 at hS7 hR7 hP7 hT7
    have hx7 := (hrow hh exa).same hS7
    have hW7 := hS7 _ _ hW5
    have hp7 : H7 p = some (.lst (iv (clsL E M h))) := hS7 _ _ (hS25 _ _ (hS3 _ _ hp))
    have e3 : hs'.take (i + 1) = hs'.take i ++ [h] := by rw [List.take_succ, hh]; rfl
    have hal : atI (os.map V.ref) (i : Int) = some (.ref xa) := atI_nat (by rw [List.getElem?_map, exa]; rfl)
    refine ⟨T0, _, rfl, SqT.of hT7, rfl, _, _, rfl, _, _, rfl, rfl, rfl, ?_⟩
    refine ⟨_, rfl, _, rfl, _, _, _, .ref xa, rfl, rfl, SqL.of hW7, hal, (by decide), fun p0 np0 => ⟨_, _, dp_t3s (hx7.same (same_new np0 _)), dp_iz (L := []) upd_same, shaped_t3 _, shaped_iz _, _, rfl, ?_⟩⟩
    rw [eqv_t3nil]
    have hS8 := hS7.trans (same_new np0 (.lst []))
    have hR8 := same_new np0 (.lst []) _ _ hR7
    have hP8 := paired_mono (fun u e (hu : PWb H5 H7 u e) => hu.same (same_new np0 (.lst []))) hP7
    have hx8 := hx7.same (same_new np0 (.lst []))
    have hW8 := same_new np0 (.lst []) _ _ hW7
    have hp8 := same_new np0 (.lst []) _ _ hp7
    generalize upd H7 p0 (.lst []) = H8 at hS8 hR8 hP8 hx8 hW8 hp8
    by_cases c : inLot E M Z h = []
    · refine iteNot' c ⟨hS8, us, hR8, ?_⟩
      rw [e3, List.filter_append, List.filter_cons_of_neg (by simpa using c), List.filter_nil, List.append_nil]
      exact hP8
    · refine iteNot c ⟨_, rfl, _, rfl, _, rfl, _, _, _, .ref xa, rfl, rfl, SqL.of hW8, hal, (by show 2 ≤ sizeLine; decide), fun tp ntp => ?_⟩
      have hS9 := same_new ntp (.tup [.ref p, .ref xa])
      have ntpR : R ≠ tp := ne_of_none hR8 ntp
      have hlen := paired_len hP8
      have hul : us.length ≤ 60 := by
        rw [hlen, List.length_map]
        have := List.length_filter_le (fun h => decide (inLot E M Z h ≠ [])) (hs'.take i)
        rw [List.length_take] at this
        omega
      have hPW : PWb H5 (upd H8 tp (.tup [.ref p, .ref xa])) tp (clsL E M h, inLot E M Z h) := ⟨p, xa, upd_same, hS25 _ _ (hS3 _ _ hp), hrow hh exa⟩
      refine ⟨us.map V.ref, hS9 _ _ hR8, by rw [List.length_map]; exact sml1000 (by omega), same_upd (hS8.trans hS9) nR, us ++ [tp], by rw [upd_same, List.map_append]; rfl, ?_⟩
      rw [e3, List.filter_append, List.filter_cons_of_pos (by simpa using c), List.filter_nil, List.map_append]
      exact paired_app (paired_mono (fun u e hu => PWb.put (hu.same hS9) (hS9 _ _ hR8)) hP8) (PWb.put hPW (hS9 _ _ hR8))
  · rintro H6 ⟨hS6, us, hR6, hP6⟩
    rw [List.length_map, lal, List.take_length] at hP6
    have hS06 : Same H H6 := fun b o e => hS6 _ _ (hS25 _ _ (hS3 _ _ (hS2 _ _ (hS1 _ _ e))))
    have hperm2 := hperm.filter fun h => decide (inLot E M Z h ≠ [])
    refine sort_read (enc := encP) (F := PWt H6) encP_ok (SqL.of hR6) (paired_mono (fun u e hu => hu.t hS6) hP6) (fun p e => dp_pw) ?_ fun vs p hvs _ np => ?_
    · rw [List.length_map]
      exact Nat.le_trans (List.length_filter_le _ _) (by omega)
    · rw [sort_heads (R := (headsL E M).filter fun h => decide (inLot E M Z h ≠ [])) (headsL_rising.filter _) hperm2 fun a b ha hb hab => le_lots (List.mem_filter.mp ha).1 (List.mem_filter.mp hb).1 hab] at hvs
      refine q _ p vs (hS06.free np) (hS06.trans (same_new np _)) upd_same ?_
      have e9 : lotsW N ts W = ((headsL E M).filter fun h => decide (inLot E M Z h ≠ [])).map fun h => (clsL E M h, inLot E M Z h) := by
        rw [hE, hM, hZe]
        rfl
      rw [e9]
      exact paired_mono (fun u e hu => hu.same (same_new np _)) hvs
end
end My
set_option maxHeartbeats 4000000
namespace My
open PySem L2 PyProof.Rows
/-- a lot with its ties -/
def PTt (H : Hp) (p : Addr) (e : List Nat × List Nat) : Prop := ∃ l t, H p = some (.tup [.ref l, .ref t]) ∧ H l = some (.lst (iv e.1)) ∧ H t = some (.lst (iv e.2))
theorem PTt.same {H H' : Hp} {p : Addr} {e : List Nat × List Nat} (h : PTt H p e) (s : Same H H') : PTt H' p e := by
  obtain ⟨l, z, h1, h2, h3⟩ := h
  exact ⟨l, z, s _ _ h1, s _ _ h2, s _ _ h3⟩
def PTr (R : Addr) (H : Hp) (p : Addr) (e : List Nat × List Nat) : Prop := ∃ l t, l ≠ R ∧ t ≠ R ∧ H p = some (.tup [.ref l, .ref t]) ∧ H l = some (.lst (iv e.1)) ∧ H t = some (.lst (iv e.2))
theorem PTr.same {R : Addr} {H H' : Hp} {p : Addr} {e : List Nat × List Nat} (h : PTr R H p e) (s : Same H H') : PTr R H' p e := by
  obtain ⟨l, z, n1, n2, h1, h2, h3⟩ := h
  exact ⟨l, z, n1, n2, s _ _ h1, s _ _ h2, s _ _ h3⟩
theorem PTr.put {R : Addr} {H : Hp} {p : Addr} {xs ys : List V} {e : List Nat × List Nat} (h : PTr R H p e) (hR : H R = some (.lst xs)) : PTr R (upd H R (.lst ys)) p e := by
  obtain ⟨l, z, n1, n2, h1, h2, h3⟩ := h
  exact ⟨l, z, n1, n2, by rw [upd_ne (ne_of h1 hR (by intro z; cases z))]; exact h1, by rw [upd_ne n1]; exact h2, by rw [upd_ne n2]; exact h3⟩
theorem PTr.t {R : Addr} {H : Hp} {p : Addr} {e : List Nat × List Nat} (h : PTr R H p e) : PTt H p e := by
  obtain ⟨l, z, n1, n2, h⟩ := h
  exact ⟨l, z, h⟩
theorem rising_same {A B : List Nat} (hA : A.Pairwise (· < ·)) (hB : B.Pairwise (· < ·)) (h : ∀ x, x ∈ A ↔ x ∈ B) : A = B := by
  have nA : A.Nodup := hA.imp fun h => Nat.ne_of_lt h
  have nB : B.Nodup := hB.imp fun h => Nat.ne_of_lt h
  exact ((List.perm_ext_iff_of_nodup nA nB).mpr h).eq_of_pairwise (fun a b _ _ h k => by omega) (hA.imp fun h => Nat.le_of_lt h) (hB.imp fun h => Nat.le_of_lt h)
/-- the ties of steps, rising -/
def tiesL (m : Nat) (Z : List (Nat × Nat × Nat)) : List Nat := (List.range m).filter fun x => decide (∃ y ∈ Z, y.2.2 = x)
theorem tiesL_rising {m : Nat} {Z : List (Nat × Nat × Nat)} : (tiesL m Z).Pairwise (· < ·) := List.pairwise_lt_range.filter _
theorem tiesL_mem {m x : Nat} {Z : List (Nat × Nat × Nat)} (h : ∀ y ∈ Z, y.2.2 < m) : x ∈ tiesL m Z ↔ ∃ y ∈ Z, y.2.2 = x := by
  unfold tiesL
  rw [List.mem_filter, decide_eq_true_iff, List.mem_range]
  exact ⟨fun h => h.2, fun hx => ⟨by obtain ⟨y, hy, rfl⟩ := hx; exact h y hy, hx⟩⟩
theorem prodZ_tie {N : Nat} {ts : List (Nat × Nat)} {W : List Nat} {y : Nat × Nat × Nat} (h : y ∈ prodZ N ts W) : y.2.2 < ts.length := by
  obtain ⟨s, x, _, h2, rfl⟩ := prodZ_mem.mp h
  obtain ⟨⟨v, e⟩, _⟩ := outT_mem.mp h2
  exact (List.getElem?_eq_some_iff.mp e).1
noncomputable def lotsT (N : Nat) (ts : List (Nat × Nat)) (W : List Nat) : List (List Nat × List Nat) := (lotsW N ts W).map fun e => (e.1, tiesL ts.length e.2)
theorem lotsW_in {N : Nat} {ts : List (Nat × Nat)} {W : List Nat} {e : List Nat × List (Nat × Nat × Nat)} (h : e ∈ lotsW N ts W) : ∀ y ∈ e.2, y ∈ prodZ N ts W := fun y hy => by
  obtain ⟨a, _, rfl⟩ := List.mem_map.mp h
  exact (List.mem_filter.mp hy).1
section
variable {P : Program} {w : World} {K : PySem.W.Frag} {mg : Str → Option Value} {base : Heap} {C : Addr}
def spparts_without (_ : PySem.W.Frag) (C : Addr) : Sp := fun vs H Q _ => ∃ a N ts s W, vs = [.ref a, .ref s] ∧ WebAt C a N ts H ∧ OkWeb N ts ∧ closedB N ts = true ∧ SeqAt H s W ∧ Chain ts W ∧ N + W.length ≤ 61 ∧ W.length * ts.length ≤ 80 ∧ ts.length ≤ 60 ∧ ∀ H' p us, H p = none → Same H H' → H' p = some (.lst (us.map V.ref)) → Paired (PTt H') us (lotsT N ts W) → Q (.ref p) H'
theorem okparts_without (D : Def K mg "parts_without" sparts_without ["web", "walk"]) (B : Bs mg) (Glb : Glo mg) (WK : WebK K mg C)
    (h_ties_of : Good P w K mg base "_ties_of" s_ties_of ["steps"] 1 (sp_ties_of K C))
    (h_parts_with_steps : Good P w K mg base "_parts_with_steps" s_parts_with_steps ["web", "walk"] 12 (sp_parts_with_steps K C)) :
    Good P w K mg base "parts_without" sparts_without ["web", "walk"] 13 (spparts_without K C) := by
  refine D.good fun f fd F => ?_
  obtain ⟨f_ties_of, d_ties_of, O_ties_of, m_ties_of, k_ties_of, b_ties_of, F_ties_of⟩ := h_ties_of
  obtain ⟨f_parts_with_steps, d_parts_with_steps, O_parts_with_steps, m_parts_with_steps, k_parts_with_steps, b_parts_with_steps, F_parts_with_steps⟩ := h_parts_with_steps
  refine F.ok scparts_without (fun vs H Q E h => ?_) (fun cdv A outer s H vs Q E hr h => ?_)
  · obtain ⟨a, N, ts, s, W, rfl, hw, ho, hcl, hs, hW, hNW, hZ, hm, q⟩ := h
    first | rfl | (rcases h with ⟨_, _, rfl, _⟩ | ⟨_, rfl, _⟩ <;> rfl)
  obtain ⟨a, N, ts, s, W, rfl, hw, ho, hcl, hs, hW, hNW, hZ, hm, q⟩ := h
  refine ⟨_, (pss_one (ps_ret (pe_lc (own := [("lot", 2), ("within", 3)]) (g := gTup K 2 (gCons (gName 2) (gCons (gName 3) gNil))) (by rfl) scparts_without.nd (pi_list (pe_call O_parts_with_steps hr rfl m_parts_with_steps k_parts_with_steps b_parts_with_steps .nil pass0 (pa_cons (pv 0) (pa_cons (pv 1) pa_nil)))) (blkOk_by (own := [("lot", 2), ("within", 3)]) (N := ["web", "walk", "lot", "within"]) (sc := defScope sparts_without) (by decide +kernel)) (fun _ _ _ _ _ => (pg_tup rfl (pgs_cons (pg_name (i := 2) scparts_without.nd rfl (by first | exact Or.inl rfl | exact Or.inr rfl)) (pgs_cons (pg_name (i := 3) scparts_without.nd rfl (by first | exact Or.inl rfl | exact Or.inr rfl)) pgs_nil)))) (fun _ _ _ _ _ => pts_nil) (fun _ _ _ _ _ => (pe_tup (pa_cons (pv 2) (pa_cons (pe_call O_ties_of (hr.mono (by decide)) rfl m_ties_of k_ties_of b_ties_of .nil pass0 (pa_cons (pv 3) pa_nil)) pa_nil))))))), ?_⟩
  refine ⟨_, rfl, _, rfl, a, N, ts, s, W, rfl, hw, ho, hcl, hs, hW, hNW, hZ, fun H1 p us np hS1 hp hP => ?_⟩
  have h0 := hW.n0
  have hZl := prodZ_len (N := N) (ts := ts) h0
  have hlen := paired_len hP
  have hll : (lotsW N ts W).length ≤ 61 := by
    unfold lotsW lotHeads
    rw [List.length_map]
    refine Nat.le_trans (List.length_filter_le _ _) (Nat.le_trans (nodup_len headsL_rising fun x hx => (headsL_mem.mp hx).1) ?_)
    rw [prodS_len]
    omega
  refine ⟨p, rfl, ⟨_, SqL.of hp⟩, fun R nR => ?_⟩
  refine lc_list (K := K) (a := p) (xs := us.map V.ref) (fun i H' => Same H1 H' ∧ ∃ vs : List Addr, H' R = some (.lst (vs.map V.ref)) ∧ Paired (PTr R H') vs (((lotsW N ts W).take i).map fun e => (e.1, tiesL ts.length e.2))) ⟨same_new nR _, [], upd_same, .nil⟩ (fun i H' _ ⟨hS', _⟩ => SqL.of (hS' _ _ hp)) ?_ ?_
  · rintro i x H2 hx ⟨hS2, vs, hR2, hP2⟩
    obtain ⟨pe, e, rfl, _, he, hpe⟩ := paired_at hP hx
    have hem := List.mem_of_getElem? he
    obtain ⟨l, z, g1, g2, g3⟩ := hpe
    have nlR : l ≠ R := ne_of_none g2 nR
    have g1' : H2 pe = some _ := hS2 _ _ g1
    have hin := lotsW_in hem
    have hel : e.2.length ≤ 80 := by
      obtain ⟨h, _, rfl⟩ := List.mem_map.mp hem
      exact Nat.le_trans (List.length_filter_le _ _) (Nat.le_trans hZl hZ)
    refine ⟨pe, _, rfl, SqT.of g1', rfl, _, _, rfl, _, _, rfl, rfl, rfl, _, rfl, _, rfl, z, e.2, ts.length, rfl, g3.same hS2, by omega, hm, fun y hy => prodZ_tie (hin y hy), fun H3 t T nt hS3 hT hTm ht => ?_⟩
    have eT : T = tiesL ts.length e.2 := rising_same hT tiesL_rising fun x => by rw [hTm, tiesL_mem fun y hy => prodZ_tie (hin y hy)]
    subst eT
    have ntR : t ≠ R := (ne_of_none hR2 nt).symm
    refine ⟨(by show 2 ≤ sizeLine; decide), fun tp ntp => ?_⟩
    have hS4 := hS3.trans (same_new ntp (.tup [.ref l, .ref t]))
    have hR4 := hS4 _ _ hR2
    have hvl : vs.length ≤ 61 := by
      rw [paired_len hP2, List.length_map, List.length_take]
      omega
    have hPT : PTr R (upd H3 tp (.tup [.ref l, .ref t])) tp (e.1, tiesL ts.length e.2) := ⟨l, t, nlR, ntR, upd_same, hS4 _ _ (hS2 _ _ g2), same_new ntp _ _ _ ht⟩
    refine ⟨_, hR4, by rw [List.length_map]; exact sml1000 (by omega), same_upd (hS2.trans hS4) nR, vs ++ [tp], by rw [upd_same, List.map_append]; rfl, ?_⟩
    rw [List.take_succ, he, List.map_append]
    exact paired_app (paired_mono (fun u f hu => PTr.put (PTr.same hu hS4) hR4) hP2) (PTr.put hPT hR4)
  · rintro H2 ⟨hS2, vs, hR2, hP2⟩
    rw [List.length_map, hlen, List.take_length] at hP2
    exact q H2 R vs (hS1.free nR) (hS1.trans hS2) hR2 (paired_mono (fun u f hu => PTr.t hu) hP2)
end
end My
namespace My
/-! ### turnings in their order -/
def rot (l : List Nat) (p : Nat) : List Nat := rd l p l.length
theorem rot_len (l : List Nat) (p : Nat) : (rot l p).length = l.length := rd_len _ _ _
def gt (l : List Nat) (i : Nat) : Nat := l.getD (i % l.length) 0
theorem rd_gt (l : List Nat) (p n : Nat) : rd l p n = (List.range n).map fun k => gt l (p + k) := rfl
theorem rd_split (l : List Nat) (p a b : Nat) : rd l p (a + b) = rd l p a ++ rd l (p + a) b := by
  induction b with
  | zero => simp [rd_zero]
  | succ b ih => rw [← Nat.add_assoc, rd_succ, ih, rd_succ, List.append_assoc, Nat.add_assoc]
theorem rd_cons (l : List Nat) (p n : Nat) : rd l p (n + 1) = gt l p :: rd l (p + 1) n := by
  rw [Nat.add_comm n 1, rd_split]
  rfl
theorem rd_congr {l : List Nat} {p q n : Nat} (h : ∀ j, j < n → gt l (p + j) = gt l (q + j)) : rd l p n = rd l q n := by
  rw [rd_gt, rd_gt]
  apply List.map_congr_left
  intro k hk
  exact h k (List.mem_range.mp hk)
theorem gt_congr {l : List Nat} {p q n : Nat} (h : rd l p n = rd l q n) (j : Nat) (hj : j < n) : gt l (p + j) = gt l (q + j) := by
  have e := congrArg (fun z : List Nat => z[j]?) h
  simp only [rd_get _ _ _ _ hj] at e
  exact Option.some.inj e
theorem lt_append {a x y : List Nat} (h : x < y) : a ++ x < a ++ y := by
  induction a with
  | nil => exact h
  | cons c r ih =>
    rw [List.cons_append, List.cons_append, List.cons_lt_cons_iff]
    exact .inr ⟨rfl, ih⟩
/-- alike for k letters, then less: less -/
theorem rot_lt {l : List Nat} {p q k : Nat} (hk : k < l.length) (h : ∀ j, j < k → gt l (p + j) = gt l (q + j)) (hl : gt l (p + k) < gt l (q + k)) : rot l p < rot l q := by
  unfold rot
  rw [show l.length = k + ((l.length - k - 1) + 1) by omega, rd_split l p, rd_split l q, rd_congr h]
  apply lt_append
  rw [rd_cons, rd_cons, List.cons_lt_cons_iff]
  exact .inl hl
def Bad (l : List Nat) (p : Nat) : Prop := ∃ q, rot l q < rot l p
def Opt (l : List Nat) (p : Nat) : Prop := ∀ q, ¬ rot l q < rot l p
theorem opt_bad {l : List Nat} {p : Nat} (h : Opt l p) (b : Bad l p) : False := by
  obtain ⟨q, hq⟩ := b
  exact h q hq
theorem rot_mod (l : List Nat) (p : Nat) : rot l (p % l.length) = rot l p := rd_mod _ _ _
/-- there is a least one -/
theorem opt_ex {l : List Nat} (h0 : 0 < l.length) : ∃ p, p < l.length ∧ Opt l p := by
  have key : ∀ n, 0 < n → ∃ p, p < n ∧ ∀ q, q < n → ¬ rot l q < rot l p := by
    intro n
    induction n with
    | zero => intro h; omega
    | succ n ih =>
      intro _
      rcases Nat.eq_zero_or_pos n with z | z
      · subst z
        refine ⟨0, by omega, fun q hq => ?_⟩
        have e : q = 0 := by omega
        subst e
        exact List.lt_irrefl _
      · obtain ⟨p, hp, hm⟩ := ih z
        by_cases c : rot l n < rot l p
        · refine ⟨n, by omega, fun q hq hlt => ?_⟩
          by_cases e : q = n
          · subst e; exact List.lt_irrefl _ hlt
          · exact hm q (by omega) (List.lt_trans hlt c)
        · refine ⟨p, by omega, fun q hq => ?_⟩
          by_cases e : q = n
          · subst e; exact c
          · exact hm q (by omega)
  obtain ⟨p, hp, hm⟩ := key l.length h0
  refine ⟨p, hp, fun q => ?_⟩
  rw [← rot_mod l q]
  exact hm _ (Nat.mod_lt _ h0)
structure Two (l : List Nat) (one two alike : Nat) : Prop where
  ne : one ≠ two
  in_ : one < l.length ∨ two < l.length
  same : ∀ j, j < alike → gt l (one + j) = gt l (two + j)
  bad : ∀ p, p < max one two → p ≠ one → p ≠ two → Bad l p
  b1 : one ≤ 2 * l.length
  b2 : two ≤ 2 * l.length + 1
  b3 : alike ≤ l.length
theorem two_start {l : List Nat} (h : 0 < l.length) : Two l 0 1 0 := by
  refine ⟨by omega, .inl h, fun j hj => by omega, fun p hp h0 h1 => ?_, by omega, by omega, by omega⟩
  have : max 0 1 = 1 := rfl
  omega
theorem two_alike {l : List Nat} {one two alike : Nat} (h : Two l one two alike) (ha : alike < l.length) (e : gt l (one + alike) = gt l (two + alike)) : Two l one two (alike + 1) := by
  refine ⟨h.ne, h.in_, fun j hj => ?_, h.bad, h.b1, h.b2, by omega⟩
  by_cases c : j = alike
  · subst c; exact e
  · exact h.same j (by omega)
theorem bad_run {l : List Nat} {a b alike : Nat} (ha : alike < l.length) (hs : ∀ j, j < alike → gt l (a + j) = gt l (b + j)) (hg : gt l (b + alike) < gt l (a + alike)) {p : Nat} (h1 : a ≤ p) (h2 : p ≤ a + alike) : Bad l p := by
  refine ⟨b + (p - a), rot_lt (k := alike - (p - a)) (by omega) (fun j hj => ?_) ?_⟩
  · have := hs (p - a + j) (by omega)
    rw [show b + (p - a) + j = b + (p - a + j) by omega, show p + j = a + (p - a + j) by omega]
    exact this.symm
  · rw [show b + (p - a) + (alike - (p - a)) = b + alike by omega, show p + (alike - (p - a)) = a + alike by omega]
    exact hg
theorem two_one {l : List Nat} {one two alike : Nat} (h : Two l one two alike) (h1 : one < l.length) (h2 : two < l.length) (ha : alike < l.length) (hg : gt l (two + alike) < gt l (one + alike)) :
    Two l (one + alike + 1) (if one + alike + 1 = two then two + 1 else two) 0 := by
  have run := fun p => bad_run (p := p) ha h.same hg
  have old := h.bad
  by_cases c : one + alike + 1 = two
  · rw [if_pos c]
    refine ⟨by omega, .inl (by omega), fun j hj => by omega, fun p hp n1 n2 => ?_, by omega, by omega, by omega⟩
    by_cases p1 : p < one
    · exact old p (by omega) (by omega) (by omega)
    · exact run p (by omega) (by omega)
  · rw [if_neg c]
    refine ⟨by omega, .inr h2, fun j hj => by omega, fun p hp n1 n2 => ?_, by omega, by omega, by omega⟩
    by_cases p1 : p < one
    · exact old p (by omega) (by omega) (by omega)
    · by_cases p2 : p ≤ one + alike
      · exact run p (by omega) p2
      · exact old p (by omega) (by omega) n2
theorem two_two {l : List Nat} {one two alike : Nat} (h : Two l one two alike) (h1 : one < l.length) (h2 : two < l.length) (ha : alike < l.length) (hg : gt l (one + alike) < gt l (two + alike)) :
    Two l one (if one = two + alike + 1 then two + alike + 1 + 1 else two + alike + 1) 0 := by
  have run := fun p => bad_run (p := p) ha (fun j hj => (h.same j hj).symm) hg
  have old := h.bad
  by_cases c : one = two + alike + 1
  · rw [if_pos c]
    refine ⟨by omega, .inl h1, fun j hj => by omega, fun p hp n1 n2 => ?_, by omega, by omega, by omega⟩
    by_cases p1 : p < two
    · exact old p (by omega) (by omega) (by omega)
    · exact run p (by omega) (by omega)
  · rw [if_neg c]
    refine ⟨by omega, .inl h1, fun j hj => by omega, fun p hp n1 n2 => ?_, by omega, by omega, by omega⟩
    by_cases p1 : p < two
    · exact old p (by omega) (by omega) (by omega)
    · by_cases p2 : p ≤ two + alike
      · exact run p (by omega) p2
      · exact old p (by omega) n1 (by omega)
theorem rot_shift {l : List Nat} {a b : Nat} (h0 : 0 < l.length) (h : rot l a = rot l b) (i : Nat) : rot l (a + i) = rot l (b + i) := by
  unfold rot at *
  refine rd_congr fun j _ => ?_
  have := gt_congr h ((i + j) % l.length) (Nat.mod_lt _ h0)
  unfold gt at *
  rw [Nat.add_mod_mod, Nat.add_mod_mod] at this
  rw [Nat.add_assoc, Nat.add_assoc]
  exact this
theorem two_end {l : List Nat} {one two alike : Nat} (h0 : 0 < l.length) (h : Two l one two alike) (e : ¬ (one < l.length ∧ two < l.length ∧ alike < l.length)) : min one two < l.length ∧ Opt l (min one two) := by
  obtain ⟨p, hp, ho⟩ := opt_ex h0
  have hne := h.ne
  by_cases c1 : one < l.length
  · by_cases c2 : two < l.length
    · have e3 : rot l one = rot l two := rd_congr fun j hj => h.same j (by omega)
      refine ⟨by omega, ?_⟩
      have both : rot l (min one two) = rot l (max one two) := by
        rcases Nat.lt_or_ge one two with z | z
        · rw [Nat.min_eq_left (by omega), Nat.max_eq_right (by omega)]; exact e3
        · rw [Nat.min_eq_right (by omega), Nat.max_eq_left (by omega)]; exact e3.symm
      have lo_opt : ∀ p, Opt l p → Opt l (min one two) := by
        intro p
        induction p using Nat.strongRecOn with
        | _ p ih =>
          intro ho
          by_cases q1 : p = min one two
          · rw [← q1]; exact ho
          by_cases q2 : p = max one two
          · unfold Opt
            rw [both, ← q2]
            exact ho
          by_cases q3 : p < max one two
          · exact (opt_bad ho (h.bad p q3 (by omega) (by omega))).elim
          · have hs := rot_shift h0 both (p - max one two)
            rw [show max one two + (p - max one two) = p by omega] at hs
            refine ih (min one two + (p - max one two)) (by omega) ?_
            unfold Opt
            rw [hs]
            exact ho
      exact lo_opt p ho
    · have ep : p = one := by
        by_cases q : p = one
        · exact q
        · exact (opt_bad ho (h.bad p (by omega) q (by omega))).elim
      rw [Nat.min_eq_left (by omega), ← ep]
      exact ⟨hp, ho⟩
  · have c2 : two < l.length := by rcases h.in_ with z | z <;> omega
    have ep : p = two := by
      by_cases q : p = two
      · exact q
      · exact (opt_bad ho (h.bad p (by omega) (by omega) q)).elim
    rw [Nat.min_eq_right (by omega), ← ep]
    exact ⟨hp, ho⟩
/-! ### the normal -/
def IsLeast (l m : List Nat) : Prop := ∃ p, p < l.length ∧ m = rot l p ∧ Opt l p
theorem least_unique {l a b : List Nat} (h1 : IsLeast l a) (h2 : IsLeast l b) : a = b := by
  obtain ⟨p, _, rfl, ho⟩ := h1
  obtain ⟨q, _, rfl, hq⟩ := h2
  exact List.le_antisymm (List.not_lt.mp (ho q)) (List.not_lt.mp (hq p))
theorem rot_rot (l : List Nat) (b p : Nat) (h0 : 0 < l.length) : rot (rot l b) p = rot l (b + p) := by
  unfold rot
  rw [rd_len]
  exact rd_turned l b p l.length h0
theorem least_rot {l m : List Nat} {b : Nat} (h0 : 0 < l.length) (h : IsLeast (rot l b) m) : IsLeast l m := by
  obtain ⟨p, hp, rfl, ho⟩ := h
  rw [rot_rot _ _ _ h0]
  refine ⟨(b + p) % l.length, Nat.mod_lt _ h0, (rot_mod _ _).symm, fun q hq => ?_⟩
  rw [rot_mod] at hq
  refine ho (q + (l.length - b % l.length)) ?_
  rw [rot_rot _ _ _ h0, rot_rot _ _ _ h0]
  have e : rot l (b + (q + (l.length - b % l.length))) = rot l q := by
    rw [← rot_mod]
    have h1 := Nat.div_add_mod b l.length
    have h2 : b % l.length < l.length := Nat.mod_lt _ h0
    have e : b + (q + (l.length - b % l.length)) = q + l.length * (b / l.length + 1) := by
      rw [Nat.mul_succ]
      omega
    rw [e, Nat.add_mul_mod_self_left, rot_mod]
  rw [e]
  exact hq
/-- one ring is the other one turned exactly if they have one normal -/
theorem alike_iff {l o a b : List Nat} (h0 : 0 < l.length) (h1 : 0 < o.length) (ha : IsLeast l a) (hb : IsLeast o b) : a = b ↔ ∃ p, p < l.length ∧ o = rot l p := by
  constructor
  · rintro rfl
    obtain ⟨p, _, e1, _⟩ := ha
    obtain ⟨q, hq, e2, _⟩ := hb
    have en : o.length = l.length := by
      have e3 := congrArg List.length e1
      have e4 := congrArg List.length e2
      rw [rot_len] at e3 e4
      omega
    have e5 : rot a (o.length - q) = o := by
      rw [e2, rot_rot _ _ _ h1, show q + (o.length - q) = o.length by omega, ← rot_mod, Nat.mod_self]
      exact rd_self o
    rw [e1, rot_rot _ _ _ h0] at e5
    exact ⟨(p + (o.length - q)) % l.length, Nat.mod_lt _ h0, by rw [rot_mod]; exact e5.symm⟩
  · rintro ⟨p, _, rfl⟩
    exact least_unique ha (least_rot h0 hb)
/-! ### the period is the least -/
theorem rot_zero (l : List Nat) : rot l 0 = l := rd_self l
theorem per_cyc {l : List Nat} {d : Nat} (h0 : 0 < l.length) (h : rot l d = l) (q : Nat) : gt l (q + d) = gt l q := by
  have h2 : rot l d = rot l 0 := by rw [h, rot_zero]
  have h3 := rot_shift h0 h2 q
  have := gt_congr h3 0 (by omega)
  rw [Nat.zero_add, Nat.add_comm d q] at this
  exact this
theorem per_mult {l : List Nat} {d : Nat} (h0 : 0 < l.length) (h : rot l d = l) : ∀ (k q : Nat), gt l (q + k * d) = gt l q
  | 0, q => by simp
  | k + 1, q => by
    rw [Nat.succ_mul, ← Nat.add_assoc, per_cyc h0 h]
    exact per_mult h0 h k q
theorem cyc_rot {l : List Nat} {d : Nat} (h : ∀ q, q < l.length → gt l (q + d) = gt l q) : rot l d = l := by
  have e : rd l d l.length = rd l 0 l.length := rd_congr fun j hj => by rw [Nat.zero_add, Nat.add_comm]; exact h j hj
  unfold rot
  rw [e, rd_self]
theorem least_per {l : List Nat} (h0 : 0 < l.length) : ∃ d, 0 < d ∧ d ≤ l.length ∧ rot l d = l ∧ ∀ p, 0 < p → p < d → rot l p ≠ l := by
  have key : ∀ n, 0 < n → rot l n = l → ∃ d, 0 < d ∧ d ≤ n ∧ rot l d = l ∧ ∀ p, 0 < p → p < d → rot l p ≠ l := by
    intro n
    induction n using Nat.strongRecOn with
    | _ n ih =>
      intro hn hr
      by_cases c : ∃ p, 0 < p ∧ p < n ∧ rot l p = l
      · obtain ⟨p, p0, pn, pr⟩ := c
        obtain ⟨d, d0, dn, dr, dm⟩ := ih p pn p0 pr
        exact ⟨d, d0, by omega, dr, dm⟩
      · exact ⟨n, hn, Nat.le_refl _, hr, fun p p0 pn pr => c ⟨p, p0, pn, pr⟩⟩
  exact key l.length h0 (by rw [← rot_mod, Nat.mod_self, rot_zero])
theorem per_divides {l : List Nat} {d : Nat} (h0 : 0 < l.length) (d0 : 0 < d) (hr : rot l d = l) (hm : ∀ p, 0 < p → p < d → rot l p ≠ l) : l.length % d = 0 := by
  by_cases c : l.length % d = 0
  · exact c
  · exfalso
    have hlt : l.length % d < d := Nat.mod_lt _ d0
    refine hm (l.length % d) (by omega) hlt (cyc_rot fun q _ => ?_)
    have e := Nat.div_add_mod l.length d
    have h1 := per_mult h0 hr (l.length / d) (q + l.length % d)
    rw [← h1, show q + l.length % d + l.length / d * d = q + l.length by rw [Nat.mul_comm (l.length / d) d]; omega]
    unfold gt
    rw [Nat.add_mod_right]
theorem gt_lt {l : List Nat} {i : Nat} (h : i < l.length) : gt l i = l.getD i 0 := by
  unfold gt
  rw [Nat.mod_eq_of_lt h]
theorem per_is {l : List Nat} {b d : Nat} (h : IsLB l b) (d0 : 0 < d) (dn : d ≤ l.length) (hr : rot l d = l) (hm : ∀ p, 0 < p → p < d → rot l p ≠ l) : per l b = d := by
  have hb := h.1
  have h0 : 0 < l.length := by omega
  have sd : l.length - b ≤ d := by
    by_cases c : d = l.length
    · omega
    · have e : rd l d l.length = l := hr
      rw [rd_turn l d (by omega)] at e
      have e2 : l.take (l.length - d) = l.drop d := by
        have := congrArg (List.take (l.length - d)) e
        rw [List.take_append_of_le_length (by rw [List.length_drop]; omega), List.take_of_length_le (by rw [List.length_drop]; omega)] at this
        exact this.symm
      have hs : l.take (l.length - d) <:+ l := by
        rw [e2]
        exact List.drop_suffix _ _
      have := h.2.2 (l.length - d) (by omega) hs
      omega
  have back : (∀ q, q < l.length → gt l (q + (l.length - b)) = gt l q) → d ≤ l.length - b := fun hc => by
    by_cases c : d ≤ l.length - b
    · exact c
    · exact absurd (cyc_rot hc) (hm _ (by omega) (by omega))
  have hline := line_period h
  unfold per
  split
  · rename_i c
    have := back fun q hq => by
      unfold gt
      rw [Nat.mod_eq_of_lt hq]
      exact round_period (by omega) (by omega) c hline q hq
    omega
  · rename_i c
    by_cases cd : d = l.length
    · exact cd.symm
    · exfalso
      have dd := per_divides h0 d0 hr hm
      have d2 : d + d ≤ l.length := by
        have e := Nat.div_add_mod l.length d
        rw [dd, Nat.add_zero] at e
        have q2 : 2 ≤ l.length / d := by
          rcases Nat.lt_or_ge (l.length / d) 2 with z | z
          · exfalso
            have : l.length / d = 0 ∨ l.length / d = 1 := by
              generalize l.length / d = x at z ⊢
              omega
            rcases this with z | z <;> rw [z] at e <;> omega
          · exact z
        have := Nat.mul_le_mul_left d q2
        omega
      have hcyc : ∀ q, q < l.length → gt l (q + (l.length - b)) = gt l q := fun q hq => by
        by_cases c1 : q + (l.length - b) < l.length
        · rw [gt_lt c1, gt_lt hq]
          exact hline q c1
        · have e1 : gt l q = gt l (q - d) := by
            have := per_cyc h0 hr (q - d)
            rw [show q - d + d = q by omega] at this
            exact this
          have e2 : gt l (q - d + (l.length - b)) = gt l (q - d) := by
            rw [gt_lt (by omega), gt_lt (by omega)]
            exact hline (q - d) (by omega)
          have e3 := per_cyc h0 hr (q - d + (l.length - b))
          rw [show q - d + (l.length - b) + d = q + (l.length - b) by omega] at e3
          rw [e3, e2, e1]
      have := back hcyc
      have e : d = l.length - b := by omega
      rw [← e] at c
      exact c dd
theorem per_facts {l : List Nat} {b : Nat} (h : IsLB l b) : 0 < per l b ∧ per l b ≤ l.length ∧ rot l (per l b) = l ∧ (∀ p, 0 < p → p < per l b → rot l p ≠ l) ∧ l.length % per l b = 0 := by
  have h0 : 0 < l.length := by have := h.1; omega
  obtain ⟨d, d0, dn, dr, dm⟩ := least_per h0
  rw [per_is h d0 dn dr dm]
  exact ⟨d0, dn, dr, dm, per_divides h0 d0 dr dm⟩
/-- as many unlike turnings as the period -/
theorem rot_per {l : List Nat} {d : Nat} (h0 : 0 < l.length) (_d0 : 0 < d) (h : rot l d = l) (p : Nat) : rot l p = rot l (p % d) := by
  unfold rot
  refine rd_congr fun j _ => ?_
  have e := Nat.div_add_mod p d
  have := per_mult h0 h (p / d) (p % d + j)
  rw [← this, show p % d + j + p / d * d = p + j by rw [Nat.mul_comm (p / d) d]; omega]
theorem rot_unlike {l : List Nat} {d : Nat} (h0 : 0 < l.length) (dn : d ≤ l.length) (hm : ∀ p, 0 < p → p < d → rot l p ≠ l) {p q : Nat} (hp : p < q) (hq : q < d) : rot l p ≠ rot l q := by
  intro e
  have h1 := rot_shift h0 e (l.length - p)
  rw [show p + (l.length - p) = l.length by omega, ← rot_mod, Nat.mod_self, rot_zero, ← rot_mod, show q + (l.length - p) = (q - p) + l.length by omega, Nat.add_mod_right, rot_mod] at h1
  exact hm (q - p) (by omega) (by omega) h1.symm
/-- the root again and again -/
theorem root_again {l : List Nat} {d : Nat} (h0 : 0 < l.length) (h : rot l d = l) : ∀ k, k * d ≤ l.length → (List.replicate k (l.take d)).flatten = l.take (k * d)
  | 0, _ => by simp
  | k + 1, hk => by
    rw [Nat.succ_mul] at hk
    rw [List.replicate_succ', List.flatten_append, root_again h0 h k (by omega), List.flatten_singleton, Nat.succ_mul, List.take_add]
    congr 1
    apply List.ext_getElem?
    intro i
    by_cases hi : i < d
    · rw [List.getElem?_take_of_lt hi, List.getElem?_take_of_lt hi, List.getElem?_drop, getD_lt (by omega), getD_lt (by omega)]
      have := per_mult h0 h k i
      rw [gt_lt (by omega), gt_lt (by omega)] at this
      rw [Nat.add_comm (k * d) i, this]
    · rw [List.getElem?_eq_none (by rw [List.length_take]; omega), List.getElem?_eq_none (by rw [List.length_take, List.length_drop]; omega)]
end My
/-! Detours: behind each turn of a round some road and then the word's inner part are gone; the word doesn't stand any more. -/
namespace My
/-- the heart: a word X of |u| + 2 letters that were read over a detour of r letters from its place h on -/
theorem word_over_road {X : Nat → Nat} {U h r : Nat} {B : Nat → Prop} (h1 : 1 ≤ h) (r1 : 1 ≤ r) (hr : h + r ≤ U + 1)
    (e1 : ∀ y, y < h → X y = X (y + (U + 1 - h))) (e2 : ∀ z, z < r → B (X (h + z))) (e3 : ∀ x, h + r + x ≤ U + 1 → X (h + r + x) = X (1 + x)) : B (X (U + 1)) := by
  refine Classical.byContradiction fun nb => ?_
  have key : ∀ k, (U + (k + 1) * (U + 1 - h)) % (U + r) < U ∧ X ((U + (k + 1) * (U + 1 - h)) % (U + r) + 1) = X (U + 1) := by
    intro k
    induction k with
    | zero =>
      have e : (U + (0 + 1) * (U + 1 - h)) % (U + r) = U + 1 - h - r := by
        rw [show U + (0 + 1) * (U + 1 - h) = (U + 1 - h - r) + (U + r) by omega, Nat.add_mod_right, Nat.mod_eq_of_lt (by omega)]
      rw [e]
      refine ⟨by omega, ?_⟩
      have := e3 (U + 1 - h - r) (by omega)
      rw [show h + r + (U + 1 - h - r) = U + 1 by omega] at this
      rw [this, show 1 + (U + 1 - h - r) = U + 1 - h - r + 1 by omega]
    | succ k ih =>
      obtain ⟨i1, i2⟩ := ih
      have e : (U + (k + 1 + 1) * (U + 1 - h)) % (U + r) = ((U + (k + 1) * (U + 1 - h)) % (U + r) + (U + 1 - h)) % (U + r) := by
        rw [show U + (k + 1 + 1) * (U + 1 - h) = U + (k + 1) * (U + 1 - h) + (U + 1 - h) by rw [Nat.succ_mul (k + 1)]; omega, Nat.mod_add_mod]
      rw [e]
      generalize (U + (k + 1) * (U + 1 - h)) % (U + r) = w at i1 i2
      by_cases c : w + 1 < h
      · rw [Nat.mod_eq_of_lt (by omega)]
        refine ⟨by omega, ?_⟩
        rw [← i2, e1 (w + 1) c, show w + (U + 1 - h) + 1 = w + 1 + (U + 1 - h) by omega]
      · by_cases c2 : w + 1 < h + r
        · refine absurd ?_ nb
          have := e2 (w + 1 - h) (by omega)
          rw [show h + (w + 1 - h) = w + 1 by omega, i2] at this
          exact this
        · have e4 : (w + (U + 1 - h)) % (U + r) = w + 1 - h - r := by
            rw [show w + (U + 1 - h) = (w + 1 - h - r) + (U + r) by omega, Nat.add_mod_right, Nat.mod_eq_of_lt (by omega)]
          rw [e4]
          refine ⟨by omega, ?_⟩
          have := e3 (w + 1 - h - r) (by omega)
          rw [show h + r + (w + 1 - h - r) = w + 1 by omega] at this
          rw [← i2, this, show 1 + (w + 1 - h - r) = w + 1 - h - r + 1 by omega]
  have := (key (U + r - 1)).1
  rw [show U + r - 1 + 1 = U + r by omega, Nat.add_mul_mod_self_left, Nat.mod_eq_of_lt (by omega)] at this
  omega
/-- a round f, what is gone instead (g), where the old ones stand in it (P), and where a detour of road and u is gone -/
structure Gone (f g P : Nat → Nat) (turn : Nat → Prop) (road u : List Nat) (a b : Nat) (X : Nat → Nat) : Prop where
  r0 : 0 < road.length
  xa : X 0 = a
  xu : ∀ k, k < u.length → u[k]? = some (X (1 + k))
  xb : X (u.length + 1) = b
  na : a ∉ road
  nb : b ∉ road
  gp : ∀ i, g (P i) = f i
  gr : ∀ i z x, turn i → road[z]? = some x → g (P i + 1 + z) = x
  gu : ∀ i z x, turn i → u[z]? = some x → g (P i + 1 + road.length + z) = x
  py : ∀ i, turn i → P (i + 1) = P i + 1 + road.length + u.length
  pn : ∀ i, ¬ turn i → P (i + 1) = P i + 1
  tn : ∀ s, (∀ k, k < u.length + 2 → f (s + k) = X k) → turn (s + u.length)
  ty : ∀ s, turn (s + u.length) → ∀ k, k < u.length + 2 → f (s + k) = X k
section
variable {f g P : Nat → Nat} {turn : Nat → Prop} {road u : List Nat} {a b : Nat} {X : Nat → Nat}
/-- an old tie, or one of the inner part gone once more -/
def Old (P : Nat → Nat) (turn : Nat → Prop) (road u : List Nat) (m p : Nat) : Prop := m = P p ∨ ∃ i x, turn i ∧ u.length ≤ i ∧ x < u.length ∧ m = P i + 1 + road.length + x ∧ p + u.length = i + 1 + x
def OnRoad (P : Nat → Nat) (turn : Nat → Prop) (road : List Nat) (m : Nat) : Prop := ∃ i z, turn i ∧ z < road.length ∧ m = P i + 1 + z
theorem Gone.onRoad (h : Gone f g P turn road u a b X) {m : Nat} (o : OnRoad P turn road m) : g m ∈ road := by
  obtain ⟨i, z, t, hz, rfl⟩ := o
  rw [h.gr i z _ t (List.getElem?_eq_getElem hz)]
  exact List.getElem_mem hz
theorem Gone.old (h : Gone f g P turn road u a b X) {m p : Nat} (o : Old P turn road u m p) : g m = f p := by
  rcases o with rfl | ⟨i, x, t, hi, hx, rfl, e⟩
  · exact h.gp p
  · rw [h.gu i x _ t (h.xu x hx)]
    have := h.ty (i - u.length) (by rw [Nat.sub_add_cancel hi]; exact t) (1 + x) (by omega)
    rw [← this]
    exact congrArg f (by omega)
theorem Gone.next (h : Gone f g P turn road u a b X) {m p : Nat} (o : Old P turn road u m p) : Old P turn road u (m + 1) (p + 1) ∨ OnRoad P turn road (m + 1) := by
  rcases o with rfl | ⟨i, x, t, hi, hx, rfl, e⟩
  · by_cases t : turn p
    · exact .inr ⟨p, 0, t, h.r0, rfl⟩
    · exact .inl (.inl (h.pn p t).symm)
  · by_cases c : x + 1 < u.length
    · exact .inl (.inr ⟨i, x + 1, t, hi, c, rfl, by omega⟩)
    · refine .inl (.inl ?_)
      rw [show p + 1 = i + 1 by omega, h.py i t]
      omega
theorem Gone.prev (h : Gone f g P turn road u a b X) {m p : Nat} (hp : u.length ≤ p) (o : Old P turn road u (m + 1) (p + 1)) : Old P turn road u m p ∨ OnRoad P turn road m := by
  rcases o with e | ⟨i, x, t, hi, hx, e1, e⟩
  · by_cases t : turn p
    · rw [h.py p t] at e
      by_cases c : 0 < u.length
      · exact .inl (.inr ⟨p, u.length - 1, t, hp, by omega, by omega, by omega⟩)
      · exact .inr ⟨p, road.length - 1, t, by have := h.r0; omega, by have := h.r0; omega⟩
    · rw [h.pn p t] at e
      exact .inl (.inl (by omega))
  · by_cases c : 0 < x
    · exact .inl (.inr ⟨i, x - 1, t, hi, by omega, by omega, by omega⟩)
    · exact .inr ⟨i, road.length - 1, t, by have := h.r0; omega, by have := h.r0; omega⟩
theorem Gone.at_ (h : Gone f g P turn road u a b X) (hp0 : P 0 = 0) : ∀ m, ∃ i, P i ≤ m ∧ m < P (i + 1)
  | 0 => ⟨0, by omega, by
    by_cases t : turn 0
    · rw [h.py 0 t]; omega
    · rw [h.pn 0 t]; omega⟩
  | m + 1 => by
    obtain ⟨i, h1, h2⟩ := h.at_ hp0 m
    by_cases c : m + 1 < P (i + 1)
    · exact ⟨i, by omega, c⟩
    · refine ⟨i + 1, by omega, ?_⟩
      by_cases t : turn (i + 1)
      · rw [h.py (i + 1) t]; omega
      · rw [h.pn (i + 1) t]; omega
theorem Gone.mono (h : Gone f g P turn road u a b X) (i : Nat) : ∀ k, P i + k ≤ P (i + k)
  | 0 => Nat.le_refl _
  | k + 1 => by
    have := h.mono i k
    by_cases t : turn (i + k)
    · have := h.py (i + k) t; rw [show i + (k + 1) = i + k + 1 by omega]; omega
    · have := h.pn (i + k) t; rw [show i + (k + 1) = i + k + 1 by omega]; omega
theorem Gone.cases (h : Gone f g P turn road u a b X) (hp0 : P 0 = 0) {m : Nat} (hm : P u.length ≤ m) : (∃ p, Old P turn road u m p) ∨ OnRoad P turn road m := by
  obtain ⟨i, h1, h2⟩ := h.at_ hp0 m
  have hi : u.length ≤ i := by
    refine Classical.byContradiction fun z => ?_
    have := h.mono (i + 1) (u.length - (i + 1))
    rw [show i + 1 + (u.length - (i + 1)) = u.length by omega] at this
    omega
  by_cases t : turn i
  · rw [h.py i t] at h2
    by_cases c : m = P i
    · exact .inl ⟨i, .inl c⟩
    · by_cases c2 : m < P i + 1 + road.length
      · exact .inr ⟨i, m - P i - 1, t, by omega, by omega⟩
      · exact .inl ⟨i + 1 + (m - P i - 1 - road.length) - u.length, .inr ⟨i, m - P i - 1 - road.length, t, hi, by omega, by omega, by omega⟩⟩
  · rw [h.pn i t] at h2
    exact .inl ⟨i, .inl (by omega)⟩
theorem least_with {p : Nat → Prop} (n : Nat) (hn : p n) : ∃ k, p k ∧ ∀ j, j < k → ¬ p j := by
  induction n using Nat.strongRecOn with
  | ind n ih =>
    by_cases c : ∃ j, j < n ∧ p j
    · obtain ⟨j, hj, hp⟩ := c
      exact ih j hj hp
    · exact ⟨n, hn, fun j hj hp => c ⟨j, hj, hp⟩⟩
theorem Gone.lacks (h : Gone f g P turn road u a b X) (hp0 : P 0 = 0) {m : Nat} (hm : P (u.length + u.length + 2) ≤ m) : ¬ ∀ k, k < u.length + 2 → g (m + k) = X k := by
  intro hX
  have hmu : P u.length ≤ m := by
    have := h.mono u.length (u.length + 2)
    rw [show u.length + (u.length + 2) = u.length + u.length + 2 by omega] at this
    omega
  have r0 := h.r0
  by_cases c : ∃ k, k < u.length + 2 ∧ OnRoad P turn road (m + k)
  · obtain ⟨n, hn⟩ := c
    obtain ⟨h', ⟨hk, i, z, t, hz, e⟩, hmin0⟩ := least_with (p := fun k => k < u.length + 2 ∧ OnRoad P turn road (m + k)) n hn
    have hmin : ∀ j, j < h' → ¬ OnRoad P turn road (m + j) := fun j hj o => hmin0 j hj ⟨by omega, o⟩
    have hroad : ∀ y, y < road.length → g (P i + 1 + y) ∈ road := fun y hy => h.onRoad ⟨i, y, t, hy, rfl⟩
    have h1 : 1 ≤ h' := by
      refine Classical.byContradiction fun q => ?_
      have := hroad z hz
      rw [← e, show h' = 0 by omega, hX 0 (by omega), h.xa] at this
      exact h.na this
    have hz0 : z = 0 := by
      refine Classical.byContradiction fun q => ?_
      exact hmin (h' - 1) (by omega) ⟨i, z - 1, t, by omega, by omega⟩
    subst hz0
    have hmi : u.length + u.length + 2 ≤ i := by
      refine Classical.byContradiction fun q => ?_
      have := h.mono i (u.length + u.length + 2 - i)
      rw [show i + (u.length + u.length + 2 - i) = u.length + u.length + 2 by omega] at this
      omega
    have h2 : h' ≤ u.length := by
      refine Classical.byContradiction fun q => ?_
      have := hroad 0 hz
      rw [← e, show h' = u.length + 1 by omega, hX _ (by omega), h.xb] at this
      exact h.nb this
    have back : ∀ y, y < h' → Old P turn road u (m + h' - 1 - y) (i - y) := by
      intro y
      induction y with
      | zero => exact fun _ => .inl (by simp only [Nat.sub_zero]; omega)
      | succ y ih =>
        intro hy
        have o := ih (by omega)
        rw [show m + h' - 1 - y = m + h' - 1 - (y + 1) + 1 by omega, show i - y = i - (y + 1) + 1 by omega] at o
        rcases h.prev (by omega) o with q | q
        · exact q
        · rw [show m + h' - 1 - (y + 1) = m + (h' - 1 - (y + 1)) by omega] at q
          exact absurd q (hmin _ (by omega))
    have hty := h.ty (i - u.length) (by rw [Nat.sub_add_cancel (by omega)]; exact t)
    have hr : h' + road.length ≤ u.length + 1 := by
      refine Classical.byContradiction fun q => ?_
      have := hroad (u.length + 1 - h') (by omega)
      rw [show P i + 1 + (u.length + 1 - h') = m + (u.length + 1) by omega, hX _ (by omega), h.xb] at this
      exact h.nb this
    have := word_over_road (X := X) (U := u.length) (h := h') (r := road.length) (B := fun x => x ∈ road) h1 r0 hr ?_ ?_ ?_
    · rw [h.xb] at this
      exact h.nb this
    · intro y hy
      have o := h.old (back (h' - 1 - y) (by omega))
      rw [show m + h' - 1 - (h' - 1 - y) = m + y by omega, hX y (by omega)] at o
      rw [o, ← hty (y + (u.length + 1 - h')) (by omega)]
      exact congrArg f (by omega)
    · intro y hy
      have := hroad y hy
      rw [show P i + 1 + y = m + (h' + y) by omega, hX _ (by omega)] at this
      exact this
    · intro x hx
      rw [← hX _ (by omega), show m + (h' + road.length + x) = P i + 1 + road.length + x by omega]
      exact h.gu i x _ t (h.xu x (by omega))
  · have noRoad : ∀ k, k < u.length + 2 → ¬ OnRoad P turn road (m + k) := fun k hk o => c ⟨k, hk, o⟩
    rcases h.cases hp0 hmu with ⟨p, o⟩ | o
    · have step : ∀ k, k < u.length + 2 → Old P turn road u (m + k) (p + k) := by
        intro k
        induction k with
        | zero => exact fun _ => o
        | succ k ih =>
          intro hk
          rcases h.next (ih (by omega)) with q | q
          · exact q
          · exact absurd q (noRoad (k + 1) hk)
      have t : turn (p + u.length) := h.tn p fun k hk => by rw [← h.old (step k hk), hX k hk]
      rcases step u.length (by omega) with e | ⟨i, x, ti, hi, hx, e, e2⟩
      · exact noRoad (u.length + 1) (by omega) ⟨p + u.length, 0, t, r0, by omega⟩
      · exact noRoad (u.length - 1 - x) (by omega) ⟨i, road.length - 1, ti, by omega, by omega⟩
    · exact noRoad 0 (by omega) o
theorem Gone.on (h : Gone f g P turn road u a b X) (hp0 : P 0 = 0) {R : Nat → Nat → Prop} (hf : ∀ i, R (f i) (f (i + 1))) (hx : ∀ k, k < u.length + 1 → R (X k) (X (k + 1)))
    (hb : ∀ x, road[0]? = some x → R (X u.length) x) (hr : ∀ z x y, road[z]? = some x → road[z + 1]? = some y → R x y) (he : ∀ x, road[road.length - 1]? = some x → R x (X 1)) {m : Nat} (hm : P u.length ≤ m) : R (g m) (g (m + 1)) := by
  obtain ⟨i, h1, h2⟩ := h.at_ hp0 m
  have r0 := h.r0
  have hi : u.length ≤ i := by
    refine Classical.byContradiction fun z => ?_
    have := h.mono (i + 1) (u.length - (i + 1))
    rw [show i + 1 + (u.length - (i + 1)) = u.length by omega] at this
    omega
  by_cases t : turn i
  · have hty := h.ty (i - u.length) (by rw [Nat.sub_add_cancel hi]; exact t)
    rw [h.py i t] at h2
    -- what comes at each place behind P i
    have g1 : ∀ z, (hz : z < road.length) → g (P i + 1 + z) = road[z] := fun z hz => h.gr i z _ t (List.getElem?_eq_getElem hz)
    have g2 : ∀ x, x < u.length + 1 → g (P i + 1 + road.length + x) = X (1 + x) := fun x hx' => by
      by_cases c : x < u.length
      · exact h.gu i x _ t (h.xu x c)
      · have hl : x = u.length := by omega
        subst hl
        rw [← h.py i t, h.gp, show 1 + u.length = u.length + 1 by omega, ← hty (u.length + 1) (by omega)]
        exact congrArg f (by omega)
    by_cases c0 : m = P i
    · rw [c0, h.gp, g1 0 r0]
      have := hb _ (List.getElem?_eq_getElem r0)
      rw [← hty u.length (by omega), show i - u.length + u.length = i by omega] at this
      exact this
    · by_cases c1 : m + 1 < P i + 1 + road.length
      · have e1 := g1 (m - P i - 1) (by omega)
        have e2 := g1 (m - P i - 1 + 1) (by omega)
        rw [show P i + 1 + (m - P i - 1) = m by omega] at e1
        rw [show P i + 1 + (m - P i - 1 + 1) = m + 1 by omega] at e2
        rw [e1, e2]
        exact hr _ _ _ (List.getElem?_eq_getElem (by omega)) (List.getElem?_eq_getElem (by omega))
      · by_cases c2 : m + 1 = P i + 1 + road.length
        · have e1 := g1 (road.length - 1) (by omega)
          have e2 := g2 0 (by omega)
          rw [show P i + 1 + (road.length - 1) = m by omega] at e1
          rw [show P i + 1 + road.length + 0 = m + 1 by omega] at e2
          rw [e1, e2]
          exact he _ (List.getElem?_eq_getElem (by omega))
        · have e1 := g2 (m - P i - 1 - road.length) (by omega)
          have e2 := g2 (m - P i - 1 - road.length + 1) (by omega)
          rw [show P i + 1 + road.length + (m - P i - 1 - road.length) = m by omega] at e1
          rw [show P i + 1 + road.length + (m - P i - 1 - road.length + 1) = m + 1 by omega] at e2
          rw [e1, e2]
          exact hx _ (by omega)
  · have h3 := h.pn i t
    rw [h3] at h2
    have e : m = P i := by omega
    rw [e, ← h3, h.gp, h.gp]
    exact hf i
end
/-! ### as lists -/
/-- a round's first ties, the detours among them -/
def dt (T tl ins : List Nat) : Nat → List Nat
  | 0 => []
  | i + 1 => dt T tl ins i ++ T.getD i 0 :: (if i ∈ tl then ins else [])
theorem dt_split (T tl ins : List Nat) (j : Nat) : ∀ k, ∃ rest, dt T tl ins (j + 1 + k) = dt T tl ins j ++ T.getD j 0 :: ((if j ∈ tl then ins else []) ++ rest)
  | 0 => ⟨[], by rw [List.append_nil]; rfl⟩
  | k + 1 => by
    obtain ⟨rest, e⟩ := dt_split T tl ins j k
    refine ⟨rest ++ T.getD (j + 1 + k) 0 :: (if j + 1 + k ∈ tl then ins else []), ?_⟩
    show dt T tl ins (j + 1 + k) ++ _ = _
    rw [e]
    simp
theorem dt_len (T tl ins : List Nat) (j : Nat) : (dt T tl ins (j + 1)).length = (dt T tl ins j).length + 1 + (if j ∈ tl then ins.length else 0) := by
  show (dt T tl ins j ++ _ :: _).length = _
  rw [List.length_append, List.length_cons]
  by_cases c : j ∈ tl
  · rw [if_pos c, if_pos c]; omega
  · rw [if_neg c, if_neg c]; rfl
theorem mod_cancel {n k : Nat} (h0 : 0 < n) {s s' : Nat} (h : (s + k) % n = (s' + k) % n) : s % n = s' % n := by
  have key : ∀ s, ((s + k) % n + (n - k % n)) % n = s % n := fun s => by
    rw [Nat.mod_add_mod, show s + k + (n - k % n) = s + n * (k / n + 1) by
      have := Nat.div_add_mod k n
      have := Nat.mod_lt k h0
      rw [Nat.mul_add]
      omega, Nat.add_mul_mod_self_left]
  rw [← key s, ← key s', h]
theorem dt_mem {T tl ins : List Nat} {x : Nat} : ∀ {k : Nat}, k ≤ T.length → x ∈ dt T tl ins k → x ∈ T ∨ x ∈ ins
  | 0, _, h => by cases h
  | k + 1, hk, h => by
    rcases List.mem_append.mp h with h | h
    · exact dt_mem (by omega) h
    · rcases List.mem_cons.mp h with h | h
      · rw [h, List.getD_eq_getElem?_getD, List.getElem?_eq_getElem (by omega)]
        exact .inl (List.getElem_mem _)
      · split at h
        · exact .inr h
        · cases h
theorem dt_has {T tl ins : List Nat} {x : Nat} (h : x ∈ T) : x ∈ dt T tl ins T.length := by
  obtain ⟨j, hj⟩ := List.getElem?_of_mem h
  have hl := (List.getElem?_eq_some_iff.mp hj).1
  obtain ⟨rest, e⟩ := dt_split T tl ins j (T.length - (j + 1))
  rw [show j + 1 + (T.length - (j + 1)) = T.length by omega] at e
  rw [e, List.getD_eq_getElem?_getD, hj]
  exact List.mem_append_right _ List.mem_cons_self
def pt (T tl ins : List Nat) (i : Nat) : Nat := (i / T.length) * (dt T tl ins T.length).length + (dt T tl ins (i % T.length)).length
section
variable {T tl ins : List Nat}
theorem dt_at (h0 : 0 < T.length) {i z x : Nat} (h : (T.getD (i % T.length) 0 :: (if i % T.length ∈ tl then ins else []))[z]? = some x) : gt (dt T tl ins T.length) (pt T tl ins i + z) = x := by
  have hj := Nat.mod_lt i h0
  obtain ⟨rest, e⟩ := dt_split T tl ins (i % T.length) (T.length - (i % T.length + 1))
  rw [show i % T.length + 1 + (T.length - (i % T.length + 1)) = T.length by omega] at e
  have hz := (List.getElem?_eq_some_iff.mp h).1
  have hL : (dt T tl ins (i % T.length)).length + z < (dt T tl ins T.length).length := by
    rw [e, List.length_append, List.length_cons, List.length_append]
    rw [List.length_cons] at hz
    omega
  unfold gt pt
  rw [Nat.add_assoc, Nat.mul_comm, Nat.mul_add_mod, Nat.mod_eq_of_lt hL, List.getD_eq_getElem?_getD]
  have e2 : (dt T tl ins T.length)[(dt T tl ins (i % T.length)).length + z]? = some x := by
    rw [e, List.getElem?_append_right (by omega), Nat.add_sub_cancel_left, ← List.cons_append, List.getElem?_append_left hz, h]
  rw [e2]
  rfl
theorem pt_succ (h0 : 0 < T.length) (i : Nat) : pt T tl ins (i + 1) = pt T tl ins i + 1 + (if i % T.length ∈ tl then ins.length else 0) := by
  have hj := Nat.mod_lt i h0
  have hd := dt_len T tl ins (i % T.length)
  have hdm := Nat.div_add_mod i T.length
  by_cases c : i % T.length + 1 < T.length
  · have e1 : (i + 1) / T.length = i / T.length := by
      rw [Nat.div_eq_iff (by omega)]
      have : T.length * (i / T.length) = i / T.length * T.length := Nat.mul_comm _ _
      omega
    have e2 : (i + 1) % T.length = i % T.length + 1 := by
      rw [Nat.add_mod, Nat.mod_eq_of_lt (a := 1) (by omega), Nat.mod_eq_of_lt c]
    unfold pt
    rw [e1, e2, hd]
    omega
  · have e0 : i % T.length + 1 = T.length := by omega
    have e3 : i + 1 = T.length * (i / T.length + 1) := by rw [Nat.mul_add]; omega
    have e1 : (i + 1) / T.length = i / T.length + 1 := by rw [e3, Nat.mul_div_cancel_left _ h0]
    have e2 : (i + 1) % T.length = 0 := by rw [e3, Nat.mul_mod_right]
    unfold pt
    rw [e1, e2]
    show (i / T.length + 1) * (dt T tl ins T.length).length + 0 = _
    rw [e0] at hd
    rw [Nat.add_mul, hd]
    omega
theorem gt_add (l : List Nat) (i k : Nat) : gt l (i + l.length * k) = gt l i := by
  unfold gt
  rw [Nat.add_mul_mod_self_left]
theorem gt_getD {l : List Nat} {i : Nat} (h : i < l.length) : gt l i = l.getD i 0 := by
  unfold gt
  rw [Nat.mod_eq_of_lt h]
/-- a word W = a u b, its begins in the round, the places where the detours are gone -/
theorem gone_is {road u : List Nat} {a b : Nat} (h0 : 0 < T.length) (r0 : 0 < road.length) (na : a ∉ road) (nb : b ∉ road) (hins : ins = road ++ u)
    (htl : ∀ x, x ∈ tl ↔ ∃ s, s ∈ due T (a :: (u ++ [b])) ∧ x = (s + u.length) % T.length) :
    Gone (gt T) (gt (dt T tl ins T.length)) (pt T tl ins) (fun i => i % T.length ∈ tl) road u a b (fun k => (a :: (u ++ [b])).getD k 0) := by
  have hwl : (a :: (u ++ [b])).length = u.length + 2 := by simp
  have read : ∀ s, (rd T s (u.length + 2) = a :: (u ++ [b])) ↔ ∀ k, k < u.length + 2 → gt T (s + k) = (a :: (u ++ [b])).getD k 0 := fun s => by
    constructor
    · intro h k hk
      have := rd_get T s (u.length + 2) k hk
      rw [h] at this
      rw [List.getD_eq_getElem?_getD, this]
      rfl
    · intro h
      apply List.ext_getElem?
      intro k
      by_cases hk : k < u.length + 2
      · rw [rd_get _ _ _ _ hk]
        have := h k hk
        rw [List.getD_eq_getElem?_getD, List.getElem?_eq_getElem (by omega)] at this
        rw [List.getElem?_eq_getElem (by omega)]
        exact congrArg some this
      · rw [List.getElem?_eq_none (by rw [rd_len]; omega), List.getElem?_eq_none (by omega)]
  have per : ∀ s, rd T (s % T.length) (u.length + 2) = rd T s (u.length + 2) := fun s => rd_mod T s _
  refine ⟨r0, rfl, fun k hk => ?_, ?_, na, nb, fun i => ?_, fun i z x t hz => ?_, fun i z x t hz => ?_, fun i t => ?_, fun i t => ?_, fun s h => ?_, fun s t => ?_⟩
  · rw [Nat.add_comm, List.getD_cons_succ, List.getD_eq_getElem?_getD, List.getElem?_append_left hk, List.getElem?_eq_getElem hk]
    rfl
  · show (u ++ [b]).getD u.length 0 = b
    rw [List.getD_eq_getElem?_getD, List.getElem?_append_right (Nat.le_refl _), Nat.sub_self]
    rfl
  · exact dt_at h0 (z := 0) rfl
  · rw [Nat.add_assoc]
    refine dt_at h0 ?_
    rw [if_pos t, Nat.add_comm 1 z, List.getElem?_cons_succ, hins, List.getElem?_append_left (List.getElem?_eq_some_iff.mp hz).1, hz]
  · rw [Nat.add_assoc, Nat.add_assoc]
    refine dt_at h0 ?_
    rw [if_pos t, Nat.add_comm 1, List.getElem?_cons_succ, hins, List.getElem?_append_right (by omega), Nat.add_sub_cancel_left, hz]
  · rw [pt_succ h0, if_pos t, hins, List.length_append]
    omega
  · rw [pt_succ h0, if_neg t]
  · refine (htl _).mpr ⟨s % T.length, mem_due.mpr ⟨Nat.mod_lt _ h0, ?_⟩, ?_⟩
    · rw [hwl, per]
      exact (read s).mpr h
    · rw [Nat.mod_add_mod]
  · obtain ⟨s', hs, e⟩ := (htl _).mp t
    obtain ⟨h1, h2⟩ := mem_due.mp hs
    rw [hwl] at h2
    have e2 : s % T.length = s' % T.length := by
      have h3 : (s + u.length) % T.length = (s' + u.length) % T.length := e
      exact mod_cancel h0 h3
    refine (read s).mp ?_
    rw [← per, e2, per]
    exact h2
end
end My
namespace My
open PySem L2 PyProof.Rows
theorem win_is {W : List Nat} {i j a b : Nat} (h1 : 1 ≤ i) (h2 : i ≤ j) (ha : W[i - 1]? = some a) (hb : W[j]? = some b) : (W.drop (i - 1)).take (j + 2 - i) = a :: ((W.drop i).take (j - i) ++ [b]) := by
  have hj := (List.getElem?_eq_some_iff.mp hb).1
  have hul : ((W.drop i).take (j - i)).length = j - i := by rw [List.length_take, List.length_drop]; omega
  apply List.ext_getElem?
  intro k
  by_cases c0 : k = 0
  · subst c0
    rw [List.getElem?_take, if_pos (by omega), List.getElem?_drop, Nat.add_zero, ha]
    rfl
  · obtain ⟨k', rfl⟩ : ∃ k', k = k' + 1 := ⟨k - 1, by omega⟩
    rw [List.getElem?_cons_succ]
    by_cases c1 : k' < j - i
    · rw [List.getElem?_append_left (by omega), List.getElem?_take, if_pos (by omega), List.getElem?_drop, List.getElem?_take, if_pos c1, List.getElem?_drop, show i - 1 + (k' + 1) = i + k' by omega]
    · rw [List.getElem?_append_right (by omega), hul]
      by_cases c2 : k' = j - i
      · subst c2
        rw [List.getElem?_take, if_pos (by omega), List.getElem?_drop, show i - 1 + (j - i + 1) = j by omega, hb, Nat.sub_self]
        rfl
      · rw [List.getElem?_take, if_neg (by omega), List.getElem?_eq_none (by show 1 ≤ _; omega)]
def OnT (ts : List (Nat × Nat)) (x y : Nat) : Prop := ∃ e f, ts[x]? = some e ∧ ts[y]? = some f ∧ f.1 = e.2
theorem gt_of {l : List Nat} {i x : Nat} (h : l[i]? = some x) : gt l i = x := by
  rw [gt_getD (List.getElem?_eq_some_iff.mp h).1, List.getD_eq_getElem?_getD, h]
  rfl
theorem gt_at {l : List Nat} {i : Nat} (h : i < l.length) : l[i]? = some (gt l i) := by
  rw [List.getElem?_eq_getElem h, gt_of (List.getElem?_eq_getElem h)]
theorem gt_turn (l : List Nat) (i : Nat) : gt l (i % l.length) = gt l i := by
  unfold gt
  rw [Nat.mod_mod]
theorem gt_memb {l : List Nat} (h0 : 0 < l.length) (i : Nat) : gt l i ∈ l := by
  rw [← gt_turn]
  exact List.mem_of_getElem? (gt_at (Nat.mod_lt i h0))
theorem round_on {ts : List (Nat × Nat)} {T : List Nat} (hc : Chain ts T) (hb : BackAt ts T) (i : Nat) : OnT ts (gt T i) (gt T (i + 1)) := by
  have h0 := hc.n0
  have hj := Nat.mod_lt i h0
  have e1 : gt T i = gt T (i % T.length) := (gt_turn T i).symm
  have e2 : gt T (i + 1) = gt T (i % T.length + 1) := by
    unfold gt
    rw [Nat.mod_add_mod]
  rw [e1, e2]
  by_cases c : i % T.length + 1 < T.length
  · obtain ⟨x, y, e, f, r1, r2, r3, r4, r5⟩ := hc.on _ c
    rw [gt_of r1, gt_of r2]
    exact ⟨e, f, r3, r4, r5⟩
  · obtain ⟨x, y, e, f, r1, r2, r3, r4, r5⟩ := hb
    rw [show i % T.length = T.length - 1 by omega, gt_of r2]
    have : gt T (T.length - 1 + 1) = gt T 0 := by
      unfold gt
      rw [Nat.sub_add_cancel h0, Nat.mod_self, Nat.zero_mod]
    rw [this, gt_of r1]
    exact ⟨f, e, r4, r3, r5⟩
theorem on_round {ts : List (Nat × Nat)} {T : List Nat} (h0 : 0 < T.length) (hm : ∀ x ∈ T, x < ts.length) (h : ∀ i, OnT ts (gt T i) (gt T (i + 1))) : Chain ts T ∧ BackAt ts T := by
  refine ⟨⟨h0, hm, fun i hi => ?_⟩, ?_⟩
  · obtain ⟨e, f, r3, r4, r5⟩ := h i
    exact ⟨_, _, e, f, gt_at (by omega), gt_at hi, r3, r4, r5⟩
  · obtain ⟨e, f, r3, r4, r5⟩ := h (T.length - 1)
    have : gt T (T.length - 1 + 1) = gt T 0 := by
      unfold gt
      rw [Nat.sub_add_cancel h0, Nat.mod_self, Nat.zero_mod]
    rw [this] at r4
    exact ⟨_, _, f, e, gt_at h0, gt_at (by omega), r4, r3, r5⟩
theorem due_far {g : Nat → Nat} {L K m : Nat} (per : ∀ i k, g (i + L * k) = g i) : g (m + L * K) = g m := per m K
/-- the round with the detours -/
theorem detour_round {ts : List (Nat × Nat)} {W T road tl : List Nat} {i j a b : Nat} (hW : Chain ts W) (hr : RoadAt ts W i j road) (hT : Chain ts T) (hB : BackAt ts T) (hcov : ∀ x, x < ts.length → x ∈ T)
    (ha : W[i - 1]? = some a) (hb : W[j]? = some b) (htl : ∀ x, x ∈ tl ↔ ∃ s, s ∈ due T (a :: ((W.drop i).take (j - i) ++ [b])) ∧ x = (s + (j - i)) % T.length) :
    Chain ts (dt T tl (road ++ (W.drop i).take (j - i)) T.length) ∧ BackAt ts (dt T tl (road ++ (W.drop i).take (j - i)) T.length) ∧ (∀ x, x < ts.length → x ∈ dt T tl (road ++ (W.drop i).take (j - i)) T.length) ∧
    ∀ s, ∃ k, k < W.length ∧ some (gt (dt T tl (road ++ (W.drop i).take (j - i)) T.length) (s + k)) ≠ W[k]? := by
  have h1 := hr.i1
  have h2 := hr.ij
  have h3 := hr.jl
  have h0 := hT.n0
  have r0 := hr.ch.n0
  generalize eu : (W.drop i).take (j - i) = u at htl
  have hul : u.length = j - i := by rw [← eu, List.length_take, List.length_drop]; omega
  rw [← hul] at htl
  have G := gone_is (T := T) (tl := tl) (ins := road ++ u) (road := road) (u := u) (a := a) (b := b) h0 r0 (hr.ni a ha) (hr.nj b hb) rfl htl
  generalize eL : dt T tl (road ++ u) T.length = L at G
  have hp0 : pt T tl (road ++ u) 0 = 0 := by
    unfold pt
    rw [Nat.zero_div, Nat.zero_mod, Nat.zero_mul]
    rfl
  -- the word's letters
  have hX : ∀ k, k < u.length + 2 → W[i - 1 + k]? = some ((a :: (u ++ [b])).getD k 0) := fun k hk => by
    have := win_is h1 h2 ha hb
    rw [eu] at this
    rw [← this, List.getD_eq_getElem?_getD, List.getElem?_take, if_pos (by omega), List.getElem?_drop, List.getElem?_eq_getElem (by omega)]
    rfl
  have hXon : ∀ k, k < u.length + 1 → OnT ts ((a :: (u ++ [b])).getD k 0) ((a :: (u ++ [b])).getD (k + 1) 0) := fun k hk => by
    obtain ⟨x, y, e, f, s1, s2, s3, s4, s5⟩ := hW.on (i - 1 + k) (by omega)
    have e1 := hX k (by omega)
    have e2 := hX (k + 1) (by omega)
    rw [s1] at e1
    rw [Nat.add_assoc] at s2
    rw [s2] at e2
    rw [← Option.some.inj e1, ← Option.some.inj e2]
    exact ⟨e, f, s3, s4, s5⟩
  obtain ⟨x0, y0, wj, wi, e0, f0, gj, gi, s1, s2, s3, s4, s5, s6, s7, s8, s9, s10⟩ := hr.ends
  rw [hb] at s3
  cases s3
  rw [ha] at s4
  cases s4
  have hLm : ∀ x ∈ L, x < ts.length := fun x hx => by
    rw [← eL] at hx
    rcases dt_mem (Nat.le_refl _) hx with h | h
    · exact hT.num x h
    · rcases List.mem_append.mp h with h | h
      · exact hr.ch.num x h
      · rw [← eu] at h
        exact hW.num x (List.mem_of_mem_drop (List.mem_of_mem_take h))
  have hLc : ∀ x, x < ts.length → x ∈ L := fun x hx => by rw [← eL]; exact dt_has (hcov x hx)
  have hL0 : 0 < L.length := List.length_pos_of_mem (hLc _ (hT.num _ (gt_memb h0 0)))
  have hon : ∀ m, OnT ts (gt L m) (gt L (m + 1)) := fun m => by
    have key : ∀ m, pt T tl (road ++ u) u.length ≤ m → OnT ts (gt L m) (gt L (m + 1)) := fun m hm => by
      refine G.on hp0 (R := OnT ts) (fun i => round_on hT hB i) hXon (fun x hx => ?_) (fun z x y hx hy => ?_) (fun x hx => ?_) hm
      · rw [s1] at hx
        cases hx
        obtain ⟨e, f, q1, q2, q3⟩ := hXon u.length (by omega)
        have ex : (a :: (u ++ [b])).getD (u.length + 1) 0 = b := G.xb
        rw [ex, s7] at q2
        cases q2
        exact ⟨e, e0, q1, s5, by rw [s9]; exact q3⟩
      · obtain ⟨x', y', e, f, q1, q2, q3, q4, q5⟩ := hr.ch.on z (List.getElem?_eq_some_iff.mp hy).1
        rw [q1] at hx
        rw [q2] at hy
        cases hx
        cases hy
        exact ⟨e, f, q3, q4, q5⟩
      · rw [s2] at hx
        cases hx
        obtain ⟨e, f, q1, q2, q3⟩ := hXon 0 (by omega)
        have ex : (a :: (u ++ [b])).getD 0 0 = a := rfl
        rw [ex, s8] at q1
        cases q1
        exact ⟨f0, f, s6, q2, by rw [s10]; exact q3⟩
    have := key (m + L.length * pt T tl (road ++ u) u.length) (by
      have : 1 * pt T tl (road ++ u) u.length ≤ L.length * pt T tl (road ++ u) u.length := Nat.mul_le_mul_right _ hL0
      omega)
    rw [gt_add, show m + L.length * pt T tl (road ++ u) u.length + 1 = m + 1 + L.length * pt T tl (road ++ u) u.length by omega, gt_add] at this
    exact this
  obtain ⟨c1, c2⟩ := on_round hL0 hLm hon
  refine ⟨c1, c2, hLc, fun s => Classical.byContradiction fun z => ?_⟩
  have hz : ∀ k, k < W.length → some (gt L (s + k)) = W[k]? := fun k hk => Classical.byContradiction fun q => z ⟨k, hk, q⟩
  refine G.lacks hp0 (m := s + (i - 1) + L.length * pt T tl (road ++ u) (u.length + u.length + 2)) ?_ fun k hk => ?_
  · have : 1 * pt T tl (road ++ u) (u.length + u.length + 2) ≤ L.length * pt T tl (road ++ u) (u.length + u.length + 2) := Nat.mul_le_mul_right _ hL0
    omega
  · rw [show s + (i - 1) + L.length * pt T tl (road ++ u) (u.length + u.length + 2) + k = s + (i - 1 + k) + L.length * pt T tl (road ++ u) (u.length + u.length + 2) by omega, gt_add]
    have := hz (i - 1 + k) (by omega)
    rw [hX k hk] at this
    exact Option.some.inj this
end My
/-! A word around which no road goes stands in whatever goes on and on by all its ties.
T: ties gone one behind another; st, en: where a tie begins and ends; X 0 .. X (n + 1): the word. -/
namespace My
/-- the first m of X stand at s -/
def Std (T X : Nat → Nat) (m s : Nat) : Prop := ∀ j, j < m → T (s + j) = X j
/-- no road around X within T: from behind X k to behind X g, by neither X (k + 1) nor X g -/
def Free (st en T X : Nat → Nat) (n : Nat) : Prop := ∀ g k, g ≤ k → k ≤ n → ∀ a b, a < b → st (T a) = en (X k) → en (T (b - 1)) = en (X g) → ∃ i, a ≤ i ∧ i < b ∧ (T i = X (k + 1) ∨ T i = X g)
theorem first_from {p : Nat → Prop} {a b : Nat} (hab : a ≤ b) (hb : p b) : ∃ x, a ≤ x ∧ x ≤ b ∧ p x ∧ ∀ i, a ≤ i → i < x → ¬ p i := by
  obtain ⟨d, rfl⟩ : ∃ d, b = a + d := ⟨b - a, by omega⟩
  induction d with
  | zero => exact ⟨a, by omega, by omega, hb, fun i h1 h2 => by omega⟩
  | succ d ih =>
    by_cases c : ∃ y, a ≤ y ∧ y ≤ a + d ∧ p y
    · obtain ⟨y, y1, y2, y3⟩ := c
      clear ih
      obtain ⟨f, rfl⟩ : ∃ f, y = a + f := ⟨y - a, by omega⟩
      have : ∀ f, p (a + f) → ∃ x, a ≤ x ∧ x ≤ a + f ∧ p x ∧ ∀ i, a ≤ i → i < x → ¬ p i := by
        intro f
        induction f using Nat.strongRecOn with
        | ind f ihf =>
          intro hf
          by_cases c2 : ∃ g, g < f ∧ p (a + g)
          · obtain ⟨g, g1, g2⟩ := c2
            obtain ⟨x, x1, x2, x3⟩ := ihf g g1 g2
            exact ⟨x, x1, by omega, x3⟩
          · refine ⟨a + f, by omega, by omega, hf, fun i h1 h2 hp => c2 ⟨i - a, by omega, ?_⟩⟩
            rw [show a + (i - a) = i by omega]
            exact hp
      obtain ⟨x, x1, x2, x3⟩ := this f y3
      exact ⟨x, x1, by omega, x3⟩
    · exact ⟨a + (d + 1), by omega, by omega, hb, fun i h1 h2 hp => c ⟨i, h1, by omega, hp⟩⟩
theorem last_to {p : Nat → Prop} {a b : Nat} (h : ∃ i, a ≤ i ∧ i < b ∧ p i) : ∃ r, a ≤ r ∧ r < b ∧ p r ∧ ∀ i, r < i → i < b → ¬ p i := by
  obtain ⟨i, h1, h2, h3⟩ := h
  obtain ⟨d, rfl⟩ : ∃ d, b = i + 1 + d := ⟨b - (i + 1), by omega⟩
  induction d generalizing i with
  | zero => exact ⟨i, h1, h2, h3, fun j h4 h5 => by omega⟩
  | succ d ih =>
    by_cases c : ∃ j, i < j ∧ j < i + 1 + (d + 1) ∧ p j
    · obtain ⟨j, j1, j2, j3⟩ := c
      by_cases cd : j = i + 1 + d
      · subst cd
        exact ⟨i + 1 + d, by omega, by omega, j3, fun k h4 h5 => by omega⟩
      · obtain ⟨r, r1, r2, r3, r4⟩ := ih i h1 h3 (by omega)
        by_cases ce : p (i + 1 + d)
        · exact ⟨i + 1 + d, by omega, by omega, ce, fun k h4 h5 => by omega⟩
        · refine ⟨r, r1, by omega, r3, fun k h4 h5 hp => ?_⟩
          by_cases cf : k = i + 1 + d
          · subst cf; exact ce hp
          · exact r4 k h4 (by omega) hp
    · exact ⟨i, h1, by omega, h3, fun j h4 h5 hp => c ⟨j, h4, h5, hp⟩⟩
theorem per_mul {X : Nat → Nat} {e n : Nat} (per : ∀ i, 1 ≤ i → i + e ≤ n → X (i + e) = X i) {i : Nat} (hi : 1 ≤ i) : ∀ t, i + e * t ≤ n → X (i + e * t) = X i
  | 0, _ => rfl
  | t + 1, h => by
    rw [Nat.mul_succ] at h ⊢
    rw [← Nat.add_assoc, per (i + e * t) (by omega) (by omega)]
    exact per_mul per hi t (by omega)
theorem stands_again {st en T : Nat → Nat} (hT : ∀ i, en (T i) = st (T (i + 1))) : ∀ n, ∀ X : Nat → Nat, (∀ i, i ≤ n → en (X i) = st (X (i + 1))) → Free st en T X n →
    ∀ e s x, e = x - (s + n + 1) → Std T X (n + 1) s → s + n + 1 ≤ x → (∀ i, s + n + 1 ≤ i → i < x → T i ≠ X (n + 1)) → T x = X (n + 1) → Std T X (n + 1) (x - (n + 1)) := by
  intro n
  induction n using Nat.strongRecOn with
  | ind n IHn =>
  intro X hX hF e
  induction e using Nat.strongRecOn with
  | ind e IHe =>
  intro s x he hs hx hno hTx
  by_cases e0 : x = s + n + 1
  · rw [e0, show s + n + 1 - (n + 1) = s by omega]
    exact hs
  have hA : ∀ j, j < n → T (x - n + j) = X (1 + j) := by
    by_cases n0 : n = 0
    · intro j hj; omega
    · have := IHn (n - 1) (by omega) (fun i => X (i + 1)) (fun i hi => hX (i + 1) (by omega)) (fun g k h1 h2 a b hab h3 h4 => hF (g + 1) (k + 1) (by omega) (by omega) a b hab h3 h4) (x - ((s + 1) + (n - 1) + 1)) (s + 1) x rfl (fun j hj => by
        have := hs (j + 1) (by omega)
        show T (s + 1 + j) = X (j + 1)
        rw [← this]
        exact congrArg T (by omega)) (by omega) (fun i h1 h2 => by
        have := hno i (by omega) h2
        rw [show n - 1 + 1 + 1 = n + 1 by omega]
        exact this) (by rw [show n - 1 + 1 + 1 = n + 1 by omega]; exact hTx)
      intro j hj
      have h := this j (by omega)
      rw [show n - 1 + 1 = n by omega] at h
      rw [h, Nat.add_comm 1 j]
  have hq1 : T (x - n) = X 1 := by
    by_cases n0 : n = 0
    · subst n0; exact hTx
    · exact hA 0 (by omega)
  have hplace : en (T (x - n - 1)) = en (X 0) := by
    rw [hT, show x - n - 1 + 1 = x - n by omega, hq1, hX 0 (by omega)]
  by_cases c1 : s + n + 1 < x - n
  · have hsp : st (T (s + n + 1)) = en (X n) := by
      rw [← hT (s + n), hs n (by omega)]
    obtain ⟨i, i1, i2, i3⟩ := hF 0 n (by omega) (by omega) (s + n + 1) (x - n) c1 hsp hplace
    have hi0 : T i = X 0 := by
      rcases i3 with h | h
      · exact absurd h (hno i i1 (by omega))
      · exact h
    obtain ⟨r, r1, r2, r3, r4⟩ := last_to (p := fun i => T i = X 0) ⟨i, i1, i2, hi0⟩
    have chain : ∀ m, m ≤ n → Std T X (m + 1) r := by
      intro m
      induction m with
      | zero =>
        intro _ j hj
        rw [show j = 0 by omega]
        exact r3
      | succ m ih =>
        intro hm
        have h1 := ih (by omega)
        obtain ⟨x', x1, x2, x3, x4⟩ := first_from (p := fun i => T i = X (m + 1)) (a := r + m + 1) (b := x - n + m) (by omega) (by
          show T (x - n + m) = X (m + 1)
          rw [hA m (by omega), Nat.add_comm 1 m])
        have h2 := IHn m (by omega) X (fun i hi => hX i (by omega)) (fun g k g1 g2 => hF g k g1 (by omega)) (x' - (r + m + 1)) r x' rfl h1 x1 x4 x3
        have h3 := h2 0 (by omega)
        rw [Nat.add_zero] at h3
        have h4 : x' = r + m + 1 := by
          refine Classical.byContradiction fun z => ?_
          exact r4 (x' - (m + 1)) (by omega) (by omega) h3
        intro j hj
        by_cases cj : j < m + 1
        · exact h1 j cj
        · rw [show j = m + 1 by omega, ← Nat.add_assoc, ← h4]
          exact x3
    exact IHe (x - (r + n + 1)) (by omega) r x rfl (chain n (by omega)) (by omega) (fun i h1 h2 => hno i (by omega) h2) hTx
  · -- the word overlaps itself
    have hee : 1 ≤ e := by omega
    have hen : e ≤ n := by omega
    have hxe : x = s + n + 1 + e := by omega
    have per : ∀ i, 1 ≤ i → i + e ≤ n → X (i + e) = X i := fun i h1 h2 => by
      have k1 := hs (i + e) (by omega)
      have k2 := hA (i - 1) (by omega)
      rw [← k1, show i = 1 + (i - 1) by omega, ← k2]
      exact congrArg T (by omega)
    have hdm := Nat.div_add_mod n e
    have hl := Nat.mod_lt n (show 0 < e by omega)
    generalize hle : n % e = l at hdm hl
    generalize hte : n / e = t at hdm
    have ht1 : 1 ≤ t := by
      rw [← hte]
      exact (Nat.one_le_div_iff (by omega)).mpr hen
    have het : e ≤ e * t := by
      have := Nat.mul_le_mul_left e ht1
      omega
    have hXet : X (e * t) = X e := by
      obtain ⟨t', rfl⟩ : ∃ t', t = t' + 1 := ⟨t - 1, by omega⟩
      have := per_mul per (i := e) hee t' (by rw [Nat.mul_succ] at hdm; omega)
      rw [Nat.mul_succ, Nat.add_comm]
      exact this
    have hTe : T (x - n - 1) = X e := by
      rw [show x - n - 1 = s + e by omega]
      exact hs e (by omega)
    have henl : en (X l) = en (X n) := by
      by_cases l0 : l = 0
      · rw [l0, ← hplace, hTe, ← hXet]
        exact congrArg (fun z => en (X z)) (by omega)
      · have := per_mul per (i := l) (by omega) t (by omega)
        rw [← this]
        exact congrArg (fun z => en (X z)) (by omega)
    have h2 := IHn l (by omega) (fun i => if i ≤ l then X i else X (n + 1)) (fun i hi => by
        by_cases ci : i + 1 ≤ l
        · rw [if_pos (by omega), if_pos ci]
          exact hX i (by omega)
        · rw [if_pos (by omega), if_neg ci, show i = l by omega, henl]
          exact hX n (by omega)) (fun g k g1 g2 a b hab h3 h4 => by
        have hg : (if g ≤ l then X g else X (n + 1)) = X g := if_pos (by omega)
        have hk : (if k ≤ l then X k else X (n + 1)) = X k := if_pos (by omega)
        show ∃ i, a ≤ i ∧ i < b ∧ (T i = (if k + 1 ≤ l then X (k + 1) else X (n + 1)) ∨ T i = if g ≤ l then X g else X (n + 1))
        replace h3 : st (T a) = en (if k ≤ l then X k else X (n + 1)) := h3
        replace h4 : en (T (b - 1)) = en (if g ≤ l then X g else X (n + 1)) := h4
        rw [hk] at h3
        rw [hg] at h4 ⊢
        by_cases ck : k + 1 ≤ l
        · rw [if_pos ck]
          exact hF g k g1 (by omega) a b hab h3 h4
        · rw [if_neg ck]
          have ekl : k = l := by omega
          rw [ekl, henl] at h3
          exact hF g n (by omega) (by omega) a b hab h3 h4) (x - (s + l + 1)) s x rfl (fun j hj => by
        show T (s + j) = if j ≤ l then X j else X (n + 1)
        rw [if_pos (by omega)]
        exact hs j (by omega)) (by omega) (fun i h1 h3 => by
        show T i ≠ if l + 1 ≤ l then X (l + 1) else X (n + 1)
        rw [if_neg (by omega)]
        by_cases ci : s + n + 1 ≤ i
        · exact hno i ci h3
        · intro hz
          obtain ⟨i', rfl⟩ : ∃ i', i = s + i' := ⟨i - s, by omega⟩
          rw [hs i' (by omega)] at hz
          have hdm2 := Nat.div_add_mod (n - i') e
          have hl2 := Nat.mod_lt (n - i') (show 0 < e by omega)
          generalize (n - i') / e = u at hdm2
          generalize (n - i') % e = v at hdm2 hl2
          have hp := per_mul per (i := i') (by omega) u (by omega)
          have hq := hA (i' + e * u - 1) (by omega)
          rw [show 1 + (i' + e * u - 1) = i' + e * u by omega, hp, hz] at hq
          exact hno _ (by omega) (by omega) hq) (by
        show T x = if l + 1 ≤ l then X (l + 1) else X (n + 1)
        rw [if_neg (by omega)]
        exact hTx)
    have h3 := h2 0 (by omega)
    replace h3 : T (x - (l + 1) + 0) = if 0 ≤ l then X 0 else X (n + 1) := h3
    rw [if_pos (Nat.zero_le l)] at h3
    have h4 := hA (e * t - 1) (by omega)
    rw [show x - n + (e * t - 1) = x - (l + 1) + 0 by omega, h3, show 1 + (e * t - 1) = e * t by omega, hXet] at h4
    intro j hj
    by_cases cj : j = 0
    · rw [cj, Nat.add_zero, show x - (n + 1) = x - n - 1 by omega, hTe, h4]
    · have := hA (j - 1) (by omega)
      rw [show 1 + (j - 1) = j by omega] at this
      rw [← this]
      exact congrArg T (by omega)
/-- so it stands, again and again -/
theorem stands_free {st en T X : Nat → Nat} {n : Nat} (hT : ∀ i, en (T i) = st (T (i + 1))) (hX : ∀ i, i ≤ n → en (X i) = st (X (i + 1))) (hF : Free st en T X n) (hc : ∀ j, j ≤ n + 1 → ∀ N, ∃ i, N ≤ i ∧ T i = X j) :
    ∀ m, m ≤ n + 1 → ∀ N, ∃ s, N ≤ s ∧ Std T X (m + 1) s := by
  intro m
  induction m with
  | zero =>
    intro _ N
    obtain ⟨i, i1, i2⟩ := hc 0 (by omega) N
    exact ⟨i, i1, fun j hj => by rw [show j = 0 by omega]; exact i2⟩
  | succ m ih =>
    intro hm N
    obtain ⟨s, s1, s2⟩ := ih (by omega) N
    obtain ⟨b, b1, b2⟩ := hc (m + 1) hm (s + m + 1)
    obtain ⟨x, x1, x2, x3, x4⟩ := first_from (p := fun i => T i = X (m + 1)) b1 b2
    have h := stands_again hT m X (fun i hi => hX i (by omega)) (fun g k g1 g2 => hF g k g1 (by omega)) (x - (s + m + 1)) s x rfl s2 x1 x4 x3
    refine ⟨x - (m + 1), by omega, fun j hj => ?_⟩
    by_cases cj : j < m + 1
    · exact h j cj
    · rw [show j = m + 1 by omega, show x - (m + 1) + (m + 1) = x by omega]
      exact x3
end My
set_option maxHeartbeats 4000000
namespace My
open PySem L2 PyProof.Rows
/-- ties that lead from u to v -/
def PathT (ts : List (Nat × Nat)) : Nat → Nat → List Nat → Prop
  | u, v, [] => u = v
  | u, v, x :: r => ∃ w, ts[x]? = some (u, w) ∧ PathT ts w v r
theorem PathT.app {ts : List (Nat × Nat)} {v w : Nat} {B : List Nat} : ∀ {A : List Nat} {u : Nat}, PathT ts u v A → PathT ts v w B → PathT ts u w (A ++ B)
  | [], u, h, k => by
    cases h
    exact k
  | x :: r, u, ⟨z, h1, h2⟩, k => ⟨z, h1, PathT.app h2 k⟩
theorem PathT.num {ts : List (Nat × Nat)} {v : Nat} : ∀ {A : List Nat} {u : Nat}, PathT ts u v A → ∀ x ∈ A, x < ts.length
  | [], u, _, x, hx => by cases hx
  | y :: r, u, ⟨z, h1, h2⟩, x, hx => by
    rcases List.mem_cons.mp hx with e | e
    · rw [e]; exact (List.getElem?_eq_some_iff.mp h1).1
    · exact PathT.num h2 x e
theorem PathT.one {ts : List (Nat × Nat)} {u v x : Nat} (h : ts[x]? = some (u, v)) : PathT ts u v [x] := ⟨v, h, rfl⟩
theorem closed_rch {N : Nat} {ts : List (Nat × Nat)} (h0 : 0 < N) (h : closedB N ts = true) : ∀ u, u < N → ∀ v, v < N → Rch (Ed ts) u v := by
  unfold closedB at h
  rw [Bool.and_eq_true, decide_eq_true_iff, decide_eq_true_iff] at h
  exact (parts_one h0).mp h.2
/-- ties that lead from a place back to it are a round -/
theorem PathT.on {ts : List (Nat × Nat)} {v : Nat} : ∀ {A : List Nat} {u : Nat}, PathT ts u v A → ∀ i, i + 1 < A.length → OnAt ts A i
  | [], u, _, i, hi => absurd hi (Nat.not_lt_zero _)
  | [x], u, _, i, hi => by
    rw [List.length_singleton] at hi
    omega
  | x :: y :: r, u, ⟨z, h1, z2, h2, h3⟩, i, hi => by
    cases i with
    | zero => exact ⟨x, y, (u, z), (z, z2), rfl, rfl, h1, h2, rfl⟩
    | succ i =>
      obtain ⟨a, b, e, f, s1, s2, s3⟩ := PathT.on (A := y :: r) (u := z) ⟨z2, h2, h3⟩ i (by rw [List.length_cons] at hi; omega)
      exact ⟨a, b, e, f, s1, s2, s3⟩
theorem PathT.first {ts : List (Nat × Nat)} {u v x : Nat} {A : List Nat} (h : PathT ts u v A) (hx : A[0]? = some x) : ∃ w, ts[x]? = some (u, w) := by
  cases A with
  | nil => cases hx
  | cons y r =>
    cases hx
    obtain ⟨z, h1, _⟩ := h
    exact ⟨z, h1⟩
theorem PathT.last {ts : List (Nat × Nat)} {v : Nat} : ∀ {A : List Nat} {u x : Nat}, PathT ts u v A → A[A.length - 1]? = some x → ∃ w, ts[x]? = some (w, v)
  | [], u, x, _, hx => by cases hx
  | [y], u, x, ⟨z, h1, h2⟩, hx => by
    cases hx
    cases h2
    exact ⟨u, h1⟩
  | y :: y2 :: r, u, x, ⟨z, h1, h2⟩, hx => by
    refine PathT.last (A := y2 :: r) h2 ?_
    rw [← hx]
    show (y2 :: r)[(y2 :: r).length - 1]? = (y :: y2 :: r)[(y2 :: r).length + 1 - 1]?
    rw [List.length_cons, Nat.add_sub_cancel, Nat.add_sub_cancel, List.getElem?_cons_succ]
theorem path_round {ts : List (Nat × Nat)} {u : Nat} {R : List Nat} (h : PathT ts u u R) (h0 : 0 < R.length) : Chain ts R ∧ BackAt ts R := by
  refine ⟨⟨h0, h.num, h.on⟩, ?_⟩
  have e1 : R[0]? = some (R[0]'h0) := List.getElem?_eq_getElem _
  have e2 : R[R.length - 1]? = some (R[R.length - 1]'(by omega)) := List.getElem?_eq_getElem _
  obtain ⟨w1, k1⟩ := h.first e1
  obtain ⟨w2, k2⟩ := h.last e2
  exact ⟨_, _, _, _, e1, e2, k1, k2, rfl⟩
theorem rch_path {ts : List (Nat × Nat)} {u v : Nat} (h : Rch (Ed ts) u v) : ∃ R, PathT ts u v R := by
  obtain ⟨k, h⟩ := h
  induction h with
  | nil u => exact ⟨[], rfl⟩
  | snoc h e ih =>
    obtain ⟨R, hR⟩ := ih
    obtain ⟨x, hx, _⟩ := e
    exact ⟨R ++ [x], hR.app (PathT.one hx)⟩
theorem road_of {ts : List (Nat × Nat)} {W R : List Nat} {i j wj wi wk : Nat} {eg eh : Nat × Nat} (hW : Chain ts W) (h1 : 1 ≤ i) (h2 : i ≤ j) (h3 : j < W.length) (j1 : W[j]? = some wj) (i1 : W[i]? = some wi) (k1 : W[i - 1]? = some wk) (j2 : ts[wj]? = some eg) (i2 : ts[wi]? = some eh)
    (hp : PathT ts eg.1 eh.1 R) (h0 : 0 < R.length) (hl : ∀ x ∈ R, x ∉ [wj, wk]) : RoadAt ts W i j R := by
  have e1 : R[0]? = some (R[0]'h0) := List.getElem?_eq_getElem _
  have e2 : R[R.length - 1]? = some (R[R.length - 1]'(by omega)) := List.getElem?_eq_getElem _
  obtain ⟨w1, q1⟩ := hp.first e1
  obtain ⟨w2, q2⟩ := hp.last e2
  obtain ⟨x', y', e', f', s1, s2, s3, s4, s5⟩ := hW.on (i - 1) (by omega)
  rw [show i - 1 + 1 = i by omega, i1] at s2
  cases s2
  rw [k1] at s1
  cases s1
  rw [i2] at s4
  cases s4
  refine ⟨h1, h2, h3, ⟨h0, hp.num, hp.on⟩, ⟨_, _, wj, wk, _, _, eg, e', e1, e2, j1, k1, q1, q2, j2, s3, rfl, s5⟩, fun w hw z => ?_, fun w hw z => ?_⟩
  · rw [j1] at hw
    cases hw
    exact hl _ z List.mem_cons_self
  · rw [k1] at hw
    cases hw
    exact hl _ z (List.mem_cons_of_mem _ List.mem_cons_self)
end My
set_option maxHeartbeats 4000000
namespace My
open PySem L2 PyProof.Rows
def HasRoad (ts : List (Nat × Nat)) (W : List Nat) : Prop := ∃ i j R, RoadAt ts W i j R
theorem gt_alls {T : List Nat} {x : Nat} (hx : x ∈ T) (N : Nat) : ∃ i, N ≤ i ∧ gt T i = x := by
  obtain ⟨p, hp⟩ := List.getElem?_of_mem hx
  have h0 : 0 < T.length := by have := (List.getElem?_eq_some_iff.mp hp).1; omega
  refine ⟨p + T.length * N, ?_, by rw [gt_add, gt_of hp]⟩
  have : 1 * N ≤ T.length * N := Nat.mul_le_mul_right N h0
  omega
theorem rd_len2 (T : List Nat) (a n : Nat) : (rd T a n).length = n := rd_len T a n
theorem round_has {ts : List (Nat × Nat)} {W T : List Nat} (hW : Chain ts W) (hT : Chain ts T) (hB : BackAt ts T) (hcov : ∀ x, x < ts.length → x ∈ T) (no : ¬ HasRoad ts W) (M : Nat) : ∃ s, M ≤ s ∧ ∀ k, k < W.length → gt T (s + k) = W.getD k 0 := by
  have h0 := hW.n0
  have hTn := hT.n0
  have hWm : ∀ k, k < W.length → W.getD k 0 ∈ W := fun k hk => by
    rw [List.getD_eq_getElem?_getD, List.getElem?_eq_getElem hk]
    exact List.getElem_mem hk
  have hWg : ∀ k, k < W.length → W[k]? = some (W.getD k 0) := fun k hk => by
    rw [List.getD_eq_getElem?_getD, List.getElem?_eq_getElem hk]
    rfl
  have hc : ∀ k, k < W.length → ∀ N, ∃ i, N ≤ i ∧ gt T i = W.getD k 0 := fun k hk N => gt_alls (hcov _ (hW.num _ (hWm k hk))) N
  by_cases h1 : W.length = 1
  · obtain ⟨i, i1, i2⟩ := hc 0 (by omega) M
    exact ⟨i, i1, fun k hk => by rw [show k = 0 by omega]; exact i2⟩
  have hlt : ∀ i, gt T i < ts.length := fun i => hT.num _ (gt_memb hTn i)
  have hts : ∀ x, x < ts.length → ts[x]? = some (ts.getD x (0, 0)) := fun x hx => by
    rw [List.getD_eq_getElem?_getD, List.getElem?_eq_getElem hx]
    rfl
  have hx : ∀ i, i + 1 < W.length → (ts.getD (W.getD i 0) (0, 0)).2 = (ts.getD (W.getD (i + 1) 0) (0, 0)).1 := fun i hi => by
    obtain ⟨x, y, e, f, s1, s2, s3, s4, s5⟩ := hW.on i hi
    rw [hWg i (by omega)] at s1
    rw [hWg (i + 1) hi] at s2
    cases s1
    cases s2
    rw [hts _ (hW.num _ (hWm i (by omega)))] at s3
    rw [hts _ (hW.num _ (hWm (i + 1) hi))] at s4
    cases s3
    cases s4
    exact s5.symm
  have main := stands_free (st := fun x => (ts.getD x (0, 0)).1) (en := fun x => (ts.getD x (0, 0)).2) (T := gt T) (X := fun k => W.getD k 0) (n := W.length - 2) (fun i => by
      obtain ⟨e, f, r1, r2, r3⟩ := round_on hT hB i
      rw [hts _ (hlt i)] at r1
      rw [hts _ (hlt (i + 1))] at r2
      cases r1
      cases r2
      exact r3.symm) (fun i hi => hx i (by omega)) (fun g k h1' h2' a b hab ha hb => Classical.byContradiction fun z => no ?_) (fun j hj N => hc j (by omega) N) (W.length - 1) (by omega) M
  · obtain ⟨s, s1, s2⟩ := main
    exact ⟨s, s1, fun k hk => s2 k (by omega)⟩
  · have hnone : ∀ i, a ≤ i → i < b → gt T i ≠ W.getD (k + 1) 0 ∧ gt T i ≠ W.getD g 0 := fun i i1 i2 => ⟨fun e => z ⟨i, i1, i2, .inl e⟩, fun e => z ⟨i, i1, i2, .inr e⟩⟩
    have hR : ∀ i, i < b - a → (rd T a (b - a))[i]? = some (gt T (a + i)) := fun i hi => rd_get T a (b - a) i hi
    have hRl := rd_len2 T a (b - a)
    have hRm : ∀ x ∈ rd T a (b - a), ∃ i, a ≤ i ∧ i < b ∧ x = gt T i := fun x hx' => by
      obtain ⟨i, hi⟩ := List.getElem?_of_mem hx'
      have hil := (List.getElem?_eq_some_iff.mp hi).1
      rw [hR i (by omega)] at hi
      exact ⟨a + i, by omega, by omega, (Option.some.inj hi).symm⟩
    refine ⟨g + 1, k + 1, rd T a (b - a), by omega, by omega, by omega, ⟨by omega, fun x hx' => ?_, fun i hi => ?_⟩, ?_, fun w hw hm => ?_, fun w hw hm => ?_⟩
    · obtain ⟨i, _, _, rfl⟩ := hRm x hx'
      exact hlt i
    · obtain ⟨e, f, r1, r2, r3⟩ := round_on hT hB (a + i)
      exact ⟨_, _, e, f, hR i (by omega), by rw [Nat.add_assoc] at r2; exact hR (i + 1) (by omega), r1, r2, r3⟩
    · refine ⟨_, _, _, _, _, _, _, _, hR 0 (by omega), hR (b - a - 1) (by omega) |> fun h => by rw [hRl]; exact h, hWg (k + 1) (by omega), by rw [Nat.add_sub_cancel]; exact hWg g (by omega), hts _ (hlt _), hts _ (hlt _), hts _ (hW.num _ (hWm (k + 1) (by omega))), hts _ (hW.num _ (hWm g (by omega))), ?_, ?_⟩
      · rw [Nat.add_zero]
        exact ha.trans (hx k (by omega))
      · rw [show a + (b - a - 1) = b - 1 by omega]
        exact hb
    · rw [hWg (k + 1) (by omega)] at hw
      cases hw
      obtain ⟨i, i1, i2, e⟩ := hRm _ hm
      exact (hnone i i1 i2).1 e.symm
    · rw [Nat.add_sub_cancel, hWg g (by omega)] at hw
      cases hw
      obtain ⟨i, i1, i2, e⟩ := hRm _ hm
      exact (hnone i i1 i2).2 e.symm
/-! ### standings: how much of the word was read last -/
/-- m of W were read last -/
structure Rdg (W r : List Nat) (m : Nat) : Prop where
  lt : m < W.length
  is : W.take m <:+ r
  max : ∀ k, k ≤ W.length → W.take k <:+ r → k ≤ m
theorem Rdg.start {W : List Nat} (h : 0 < W.length) : Rdg W [] 0 := ⟨h, by rw [List.take_zero]; exact List.suffix_refl _, fun k hk hs => by
  have := hs.length_le
  rw [List.length_take, List.length_nil] at this
  omega⟩
theorem Rdg.step {W r : List Nat} {m : Nat} (h : Rdg W r m) (t : Nat) : nxt W m t ≤ W.length ∧ W.take (nxt W m t) <:+ r ++ [t] ∧ ∀ k, k ≤ W.length → W.take k <:+ r ++ [t] → k ≤ nxt W m t := by
  have hl : (W.take m ++ [t]).length = m + 1 := by
    rw [List.length_append, List.length_take, List.length_singleton]
    have := h.lt
    omega
  have hs : W.take m ++ [t] <:+ r ++ [t] := by
    obtain ⟨u, hu⟩ := h.is
    exact ⟨u, by rw [← hu, List.append_assoc]⟩
  have hlt := h.lt
  refine ⟨?_, ?_, fun k hk hsk => ?_⟩
  · have := nxtD_le W (W.take m ++ [t]) (W.take m ++ [t]).length
    unfold nxt
    omega
  · have h1 := nxtD_is W (W.take m ++ [t]) (W.take m ++ [t]).length (Nat.le_refl _)
    unfold nxt
    rw [← h1]
    exact (List.drop_suffix _ _).trans hs
  · have hkl : (W.take k).length = k := by rw [List.length_take]; omega
    by_cases k0 : k = 0
    · omega
    have hk1 : k ≤ m + 1 := by
      have : W.take (k - 1) <:+ r := by
        obtain ⟨u, hu⟩ := hsk
        have hne : W.take k ≠ [] := fun z => by rw [z] at hkl; exact k0 hkl.symm
        have h2 : (u ++ W.take k).dropLast = (r ++ [t]).dropLast := by rw [hu]
        rw [List.dropLast_append_of_ne_nil hne, List.dropLast_concat] at h2
        refine ⟨u, ?_⟩
        rw [← h2, List.dropLast_eq_take, List.take_take, hkl, Nat.min_eq_left (by omega)]
      have := h.max (k - 1) (by omega) this
      omega
    have hsuf : W.take k <:+ W.take m ++ [t] := List.suffix_of_suffix_length_le hsk hs (by omega)
    refine nxtD_max W _ _ k (by omega) ?_
    obtain ⟨u, hu⟩ := hsuf
    have hul : u.length = (W.take m ++ [t]).length - k := by rw [← hu, List.length_append, hkl]; omega
    rw [← hul, ← hu, List.drop_left]
end My
set_option maxHeartbeats 4000000
namespace My
open PySem L2 PyProof.Rows
/-- one tie from standing to standing -/
def Stp (ts : List (Nat × Nat)) (W : List Nat) (s : Nat × Nat) (x : Nat) (u : Nat × Nat) : Prop := ts[x]? = some (s.1, u.1) ∧ u.2 = nxt W s.2 x ∧ u.2 < W.length
def Run (ts : List (Nat × Nat)) (W : List Nat) : Nat × Nat → List Nat → Nat × Nat → Prop
  | s, [], u => s = u
  | s, x :: r, u => ∃ v, Stp ts W s x v ∧ Run ts W v r u
section
variable {ts : List (Nat × Nat)} {W : List Nat}
theorem Run.app {v w : Nat × Nat} {B : List Nat} : ∀ {A : List Nat} {u : Nat × Nat}, Run ts W u A v → Run ts W v B w → Run ts W u (A ++ B) w
  | [], _, h, k => by
    cases h
    exact k
  | _ :: _, _, ⟨z, h1, h2⟩, k => ⟨z, h1, Run.app h2 k⟩
theorem Run.split {w : Nat × Nat} {B : List Nat} : ∀ {A : List Nat} {u : Nat × Nat}, Run ts W u (A ++ B) w → ∃ v, Run ts W u A v ∧ Run ts W v B w
  | [], u, h => ⟨u, rfl, h⟩
  | _ :: _, _, ⟨z, h1, h2⟩ => by
    obtain ⟨v, k1, k2⟩ := Run.split h2
    exact ⟨v, ⟨z, h1, k1⟩, k2⟩
theorem Run.one {u v : Nat × Nat} {x : Nat} (h : Stp ts W u x v) : Run ts W u [x] v := ⟨v, h, rfl⟩
theorem Stp.det {u v w : Nat × Nat} {x : Nat} (h : Stp ts W u x v) (k : Stp ts W u x w) : v = w := by
  obtain ⟨h1, h2, _⟩ := h
  obtain ⟨k1, k2, _⟩ := k
  rw [h1] at k1
  have e1 : v.1 = w.1 := congrArg Prod.snd (Option.some.inj k1)
  exact Prod.ext e1 (h2.trans k2.symm)
theorem Run.det : ∀ {A : List Nat} {u v w : Nat × Nat}, Run ts W u A v → Run ts W u A w → v = w
  | [], _, _, _, h, k => by
    cases h
    exact k
  | _ :: _, _, _, _, ⟨z, h1, h2⟩, ⟨y, k1, k2⟩ => by
    have := h1.det k1
    subst this
    exact Run.det h2 k2
theorem Run.path : ∀ {A : List Nat} {u v : Nat × Nat}, Run ts W u A v → PathT ts u.1 v.1 A
  | [], _, _, h => by
    cases h
    rfl
  | _ :: _, _, _, ⟨z, h1, h2⟩ => ⟨z.1, h1.1, h2.path⟩
theorem Run.reads : ∀ {A r : List Nat} {u v : Nat × Nat}, Run ts W u A v → Rdg W r u.2 → Rdg W (r ++ A) v.2
  | [], r, _, _, h, k => by
    cases h
    rw [List.append_nil]
    exact k
  | x :: A, r, u, _, ⟨z, h1, h2⟩, k => by
    obtain ⟨k1, k2, k3⟩ := k.step x
    obtain ⟨_, e, hl⟩ := h1
    rw [← e] at k2 k3
    have := Run.reads (r := r ++ [x]) h2 ⟨hl, k2, k3⟩
    rw [List.append_assoc] at this
    exact this
def Cm (ts : List (Nat × Nat)) (W : List Nat) (u v : Nat × Nat) : Prop := ∃ A, Run ts W u A v
theorem Cm.refl (u : Nat × Nat) : Cm ts W u u := ⟨[], rfl⟩
theorem Cm.trans {u v w : Nat × Nat} (h : Cm ts W u v) (k : Cm ts W v w) : Cm ts W u w := by
  obtain ⟨A, h⟩ := h
  obtain ⟨B, k⟩ := k
  exact ⟨A ++ B, h.app k⟩
theorem Cm.step {u v w : Nat × Nat} {x : Nat} (h : Cm ts W u v) (k : Stp ts W v x w) : Cm ts W u w := h.trans ⟨[x], Run.one k⟩
/-- standings that come to each other, by all ties -/
def NotSure (ts : List (Nat × Nat)) (W : List Nat) (N : Nat) : Prop := ∃ h : Nat × Nat, (∃ q, q < N ∧ Cm ts W (q, 0) h) ∧ ∀ x, x < ts.length → ∃ s u, Stp ts W s x u ∧ Cm ts W h s ∧ Cm ts W u h
theorem tour_of {h : Nat × Nat} (all : ∀ x, x < ts.length → ∃ s u, Stp ts W s x u ∧ Cm ts W h s ∧ Cm ts W u h) : ∀ n, n ≤ ts.length → ∃ Z, Run ts W h Z h ∧ ∀ x, x < n → x ∈ Z
  | 0, _ => ⟨[], rfl, fun x hx => absurd hx (Nat.not_lt_zero x)⟩
  | n + 1, hn => by
    obtain ⟨Z, z1, z2⟩ := tour_of all n (by omega)
    obtain ⟨s, u, k1, ⟨A, a1⟩, ⟨B, b1⟩⟩ := all n (by omega)
    refine ⟨Z ++ (A ++ ([n] ++ B)), z1.app (a1.app ((Run.one k1).app b1)), fun x hx => ?_⟩
    by_cases c : x < n
    · exact List.mem_append_left _ (z2 x c)
    · rw [show x = n by omega]
      simp
theorem run_on {h : Nat × Nat} {Z : List Nat} (hZ : Run ts W h Z h) (h0 : 0 < Z.length) : ∀ n, ∃ u, Run ts W h (rd Z 0 n) u ∧ Run ts W u (Z.drop (n % Z.length)) h
  | 0 => ⟨h, rfl, by rw [Nat.zero_mod]; exact hZ⟩
  | n + 1 => by
    obtain ⟨u, u1, u2⟩ := run_on hZ h0 n
    have hj := Nat.mod_lt n h0
    rw [List.drop_eq_getElem_cons hj] at u2
    obtain ⟨v, v1, v2⟩ := u2
    have e : Z[n % Z.length] = gt Z n := by
      have := gt_at hj
      rw [List.getElem?_eq_getElem hj, gt_turn] at this
      exact Option.some.inj this
    rw [e] at v1
    have hr : rd Z 0 (n + 1) = rd Z 0 n ++ [gt Z n] := by
      rw [rd_succ, Nat.zero_add]
      rfl
    refine ⟨v, by rw [hr]; exact u1.app (Run.one v1), ?_⟩
    by_cases c : n % Z.length + 1 < Z.length
    · have e2 : (n + 1) % Z.length = n % Z.length + 1 := by rw [Nat.add_mod, Nat.mod_eq_of_lt (a := 1) (by omega), Nat.mod_eq_of_lt c]
      rw [e2]
      exact v2
    · have e3 : n % Z.length + 1 = Z.length := by omega
      have e2 : (n + 1) % Z.length = 0 := by
        have := Nat.div_add_mod n Z.length
        rw [show n + 1 = Z.length * (n / Z.length + 1) by rw [Nat.mul_add]; omega, Nat.mul_mod_right]
      rw [e3, List.drop_length] at v2
      cases v2
      rw [e2]
      exact hZ
/-- all ties within a close lot of standings: not sure -/
theorem road_of_standings {N : Nat} (hm : 0 < ts.length) (hW : Chain ts W) (h : NotSure ts W N) : HasRoad ts W := by
  refine Classical.byContradiction fun no => ?_
  obtain ⟨h, ⟨q, _, ⟨A, hA⟩⟩, all⟩ := h
  obtain ⟨Z, hZ, hcov⟩ := tour_of all ts.length (Nat.le_refl _)
  have h0 : 0 < Z.length := List.length_pos_of_mem (hcov 0 hm)
  obtain ⟨c1, c2⟩ := path_round hZ.path h0
  obtain ⟨s, _, hs⟩ := round_has hW c1 c2 hcov no 0
  obtain ⟨u, u1, _⟩ := run_on hZ h0 (s + W.length)
  have hr := u1.reads (hA.reads (Rdg.start (W := W) hW.n0))
  have hw : rd Z s W.length = W := by
    apply List.ext_getElem?
    intro k
    by_cases hk : k < W.length
    · rw [rd_get _ _ _ _ hk, List.getElem?_eq_getElem hk]
      have := hs k hk
      rw [List.getD_eq_getElem?_getD, List.getElem?_eq_getElem hk] at this
      exact congrArg some this
    · rw [List.getElem?_eq_none (by rw [rd_len]; omega), List.getElem?_eq_none (by omega)]
  have hsuf : W.take W.length <:+ ([] ++ A) ++ rd Z 0 (s + W.length) := by
    rw [List.take_length, rd_split, Nat.zero_add, hw]
    exact ⟨[] ++ A ++ rd Z 0 s, by rw [List.append_assoc]⟩
  have := hr.max W.length (Nat.le_refl _) hsuf
  have := hr.lt
  omega
theorem cover_some {N : Nat} (ho : OkWeb N ts) (hm : 0 < ts.length) (hrc : ∀ u, u < N → ∀ v, v < N → Rch (Ed ts) u v) : ∃ T, Chain ts T ∧ BackAt ts T ∧ ∀ x, x < ts.length → x ∈ T := by
  have key : ∀ n, n ≤ ts.length → ∃ T, PathT ts 0 0 T ∧ ∀ x, x < n → x ∈ T := by
    intro n
    induction n with
    | zero => exact fun _ => ⟨[], rfl, fun x hx => absurd hx (Nat.not_lt_zero x)⟩
    | succ n ih =>
      intro hn
      obtain ⟨T, t1, t2⟩ := ih (by omega)
      have e : ts[n]? = some ts[n] := List.getElem?_eq_getElem (by omega)
      have hb := ho.ok _ (List.mem_of_getElem? e)
      obtain ⟨A, a1⟩ := rch_path (hrc 0 ho.n0 _ hb.1)
      obtain ⟨B, b1⟩ := rch_path (hrc _ hb.2 0 ho.n0)
      refine ⟨T ++ (A ++ ([n] ++ B)), t1.app (a1.app ((PathT.one e).app b1)), fun x hx => ?_⟩
      by_cases c : x < n
      · exact List.mem_append_left _ (t2 x c)
      · rw [show x = n by omega]
        simp
  obtain ⟨T, t1, t2⟩ := key ts.length (Nat.le_refl _)
  obtain ⟨c1, c2⟩ := path_round t1 (List.length_pos_of_mem (t2 0 hm))
  exact ⟨T, c1, c2, t2⟩
theorem pigeon {m : Nat} (f : Nat → Nat) (h : ∀ i, f i < m) : ∃ i j, i < j ∧ f i = f j := by
  refine Classical.byContradiction fun z => ?_
  have hn : ((List.range (m + 1)).map f).Nodup := List.Pairwise.map f (fun a b (hab : a < b) e => z ⟨a, b, hab, e⟩) List.pairwise_lt_range
  have := len_sub (B := List.range m) hn fun x hx => by
    obtain ⟨i, _, rfl⟩ := List.mem_map.mp hx
    exact List.mem_range.mpr (h i)
  rw [List.length_map, List.length_range, List.length_range] at this
  omega
/-- a road around: not sure by the standings -/
theorem standings_of_road {N : Nat} (ho : OkWeb N ts) (hm : 0 < ts.length) (hrc : ∀ u, u < N → ∀ v, v < N → Rch (Ed ts) u v) (hW : Chain ts W) (h : HasRoad ts W) : NotSure ts W N := by
  obtain ⟨i, j, R, hr⟩ := h
  obtain ⟨T, t1, t2, t3⟩ := cover_some ho hm hrc
  have hij := hr.ij
  have hjl := hr.jl
  have ha : W[i - 1]? = some (W[i - 1]'(by omega)) := List.getElem?_eq_getElem _
  have hb : W[j]? = some (W[j]'hjl) := List.getElem?_eq_getElem _
  obtain ⟨c1, c2, c3, c4⟩ := detour_round (tl := (due T (W[i - 1]'(by omega) :: ((W.drop i).take (j - i) ++ [W[j]'hjl]))).map fun s => (s + (j - i)) % T.length) hW hr t1 t2 t3 ha hb fun x => by
    rw [List.mem_map]
    exact ⟨fun ⟨a, b, c⟩ => ⟨a, b, c.symm⟩, fun ⟨a, b, c⟩ => ⟨a, b, c.symm⟩⟩
  generalize dt T _ _ _ = L at c1 c2 c3 c4
  have hL0 := c1.n0
  obtain ⟨e0, _, r0, _, _⟩ := round_on c1 c2 0
  -- the standings behind each tie
  have step : ∀ n, ∃ u, Run ts W (e0.1, 0) (rd L 0 n) u ∧ ∃ e, ts[gt L n]? = some (u.1, e) := by
    intro n
    induction n with
    | zero => exact ⟨(e0.1, 0), rfl, e0.2, r0⟩
    | succ n ih =>
      obtain ⟨u, u1, e, u2⟩ := ih
      have hrd := u1.reads (Rdg.start (W := W) hW.n0)
      obtain ⟨k1, k2, k3⟩ := hrd.step (gt L n)
      have hr1 : rd L 0 (n + 1) = rd L 0 n ++ [gt L n] := by
        rw [rd_succ, Nat.zero_add]
        rfl
      rw [List.nil_append, ← hr1] at k2
      have hlt : nxt W u.2 (gt L n) < W.length := by
        refine Classical.byContradiction fun z => ?_
        rw [show nxt W u.2 (gt L n) = W.length by omega, List.take_length] at k2
        have hlen := k2.length_le
        rw [rd_len] at hlen
        obtain ⟨v, hv⟩ := k2
        have hvl : v.length = n + 1 - W.length := by
          have := congrArg List.length hv
          rw [List.length_append, rd_len] at this
          omega
        obtain ⟨k, hk, hne⟩ := c4 (n + 1 - W.length)
        refine hne ?_
        have h1 := rd_get L 0 (n + 1) (n + 1 - W.length + k) (by omega)
        rw [← hv, List.getElem?_append_right (by omega), show n + 1 - W.length + k - v.length = k by omega, Nat.zero_add] at h1
        rw [h1]
        rfl
      obtain ⟨e', f', q1, q2, q3⟩ := round_on c1 c2 n
      rw [u2] at q1
      cases q1
      refine ⟨(e, nxt W u.2 (gt L n)), by rw [hr1]; exact u1.app (Run.one ⟨u2, rfl, hlt⟩), f'.2, ?_⟩
      rw [q2]
      have q3' : f'.1 = e := q3
      rw [← q3']
  have hU := fun n => Classical.choose_spec (step n)
  generalize hUU : (fun n => Classical.choose (step n)) = U at hU
  have hU2 : ∀ n, Run ts W (e0.1, 0) (rd L 0 n) (U n) := fun n => by rw [← hUU]; exact (Classical.choose_spec (step n)).1
  have hlast : ∀ n, (U n).2 < W.length := fun n => ((hU2 n).reads (Rdg.start (W := W) hW.n0)).lt
  have hplace : ∀ n, (U n).1 < N := fun n => by
    rw [← hUU]
    obtain ⟨e, he⟩ := (Classical.choose_spec (step n)).2
    exact (ho.ok _ (List.mem_of_getElem? he)).1
  have seg : ∀ a b, Run ts W (U a) (rd L a b) (U (a + b)) := fun a b => by
    have h1 := hU2 (a + b)
    rw [rd_split, Nat.zero_add] at h1
    obtain ⟨v, v1, v2⟩ := h1.split
    have := v1.det (hU2 a)
    subst this
    exact v2
  obtain ⟨p, p', hpp, heq⟩ := pigeon (m := N * W.length) (fun k => (U (L.length * k)).1 * W.length + (U (L.length * k)).2) fun k => by
    have h1 := hplace (L.length * k)
    have h2 := hlast (L.length * k)
    have h3 : ((U (L.length * k)).1 + 1) * W.length ≤ N * W.length := Nat.mul_le_mul_right _ h1
    rw [Nat.succ_mul] at h3
    omega
  have hsame : U (L.length * p) = U (L.length * p') := by
    have h2 := hlast (L.length * p)
    have h3 := hlast (L.length * p')
    have e1 : (U (L.length * p)).1 = (U (L.length * p')).1 := by
      have this : ((U (L.length * p)).1 * W.length + (U (L.length * p)).2) / W.length = ((U (L.length * p')).1 * W.length + (U (L.length * p')).2) / W.length := congrArg (fun z => z / W.length) heq
      have dv : ∀ a b m : Nat, b < m → (a * m + b) / m = a := fun a b m hb => by rw [Nat.mul_comm, Nat.mul_add_div (by omega), Nat.div_eq_of_lt hb, Nat.add_zero]
      rw [dv _ _ _ h2, dv _ _ _ h3] at this
      exact this
    refine Prod.ext e1 ?_
    rw [e1] at heq
    omega
  have he0N := (ho.ok _ (List.mem_of_getElem? r0)).1
  refine ⟨U (L.length * p), ⟨e0.1, he0N, ⟨_, hU2 _⟩⟩, fun x hx => ?_⟩
  obtain ⟨y, hy⟩ := List.getElem?_of_mem (c3 x hx)
  have hyl := (List.getElem?_eq_some_iff.mp hy).1
  have hx2 : gt L (L.length * p + y) = x := by
    rw [Nat.add_comm, gt_add, gt_of hy]
  have hz : L.length * p + L.length ≤ L.length * p' := by
    have : L.length * (p + 1) ≤ L.length * p' := Nat.mul_le_mul_left _ hpp
    rw [Nat.mul_succ] at this
    exact this
  refine ⟨U (L.length * p + y), U (L.length * p + y + 1), ?_, ⟨_, seg _ _⟩, ?_⟩
  · have := seg (L.length * p + y) 1
    obtain ⟨v, v1, v2⟩ := (show Run ts W _ [gt L (L.length * p + y)] _ from this)
    cases v2
    rw [hx2] at v1
    exact v1
  · have := seg (L.length * p + y + 1) (L.length * p' - (L.length * p + y + 1))
    rw [show L.length * p + y + 1 + (L.length * p' - (L.length * p + y + 1)) = L.length * p' by omega, ← hsame] at this
    exact ⟨_, this⟩
end
end My
set_option maxHeartbeats 4000000
namespace My
open PySem L2 PyProof.Rows
/-! ### lots of the product, and rounds that lack the word -/
section
variable {N : Nat} {ts : List (Nat × Nat)} {W : List Nat}
theorem stp_out {s u : Nat × Nat} {x : Nat} : Stp ts W s x u ↔ x ∈ outT ts W s ∧ u = goT ts W s x := by
  constructor
  · rintro ⟨h1, h2, h3⟩
    refine ⟨outT_mem.mpr ⟨⟨_, h1⟩, by rw [← h2]; exact h3⟩, ?_⟩
    unfold goT
    rw [endAt_of h1, ← h2]
  · rintro ⟨h1, rfl⟩
    obtain ⟨⟨v, h2⟩, h3⟩ := outT_mem.mp h1
    refine ⟨?_, rfl, h3⟩
    rw [h2]
    unfold goT
    rw [endAt_of h2]
noncomputable def ixS (N : Nat) (ts : List (Nat × Nat)) (W : List Nat) (s : Nat × Nat) : Nat := (prodS N ts W).idxOf s
theorem ixS_lt {s : Nat × Nat} (h : s ∈ std0 N ts W) : ixS N ts W s < (prodS N ts W).length := List.idxOf_lt_length_iff.mpr ((prodS_perm N ts W).mem_iff.mpr h)
theorem ixS_at {s : Nat × Nat} (h : s ∈ std0 N ts W) : (prodS N ts W)[ixS N ts W s]? = some s := by
  rw [List.getElem?_eq_getElem (ixS_lt h)]
  exact congrArg some (List.getElem_idxOf (ixS_lt h))
theorem ixS_inj {s u : Nat × Nat} (h : s ∈ std0 N ts W) (k : u ∈ std0 N ts W) (e : ixS N ts W s = ixS N ts W u) : s = u := by
  have h1 := ixS_at h
  rw [e, ixS_at k] at h1
  exact (Option.some.inj h1).symm
theorem ixS_of {i : Nat} (h : i < (prodS N ts W).length) : ∃ s ∈ std0 N ts W, i = ixS N ts W s := by
  refine ⟨(prodS N ts W)[i], (prodS_perm N ts W).mem_iff.mp (List.getElem_mem h), ?_⟩
  exact ((prodS_nodup N ts W).idxOf_getElem i h).symm
theorem stp_in {s u : Nat × Nat} {x : Nat} (ho : OkWeb N ts) (h0 : 0 < W.length) (hs : s ∈ std0 N ts W) (h : Stp ts W s x u) : u ∈ std0 N ts W := by
  obtain ⟨h1, rfl⟩ := stp_out.mp h
  exact std0_next ho (std0_state h0 hs) h1
theorem prodZ_step {z : Nat × Nat × Nat} : z ∈ prodZ N ts W ↔ ∃ s x u, s ∈ std0 N ts W ∧ Stp ts W s x u ∧ z = (ixS N ts W s, ixS N ts W u, x) := by
  rw [prodZ_mem]
  constructor
  · rintro ⟨s, x, h1, h2, rfl⟩
    exact ⟨s, x, _, h1, stp_out.mpr ⟨h2, rfl⟩, rfl⟩
  · rintro ⟨s, x, u, h1, h2, rfl⟩
    obtain ⟨h3, rfl⟩ := stp_out.mp h2
    exact ⟨s, x, h1, h3, rfl⟩
theorem ed_ends {Z : List (Nat × Nat × Nat)} {i j : Nat} : Ed (endsOf Z) i j ↔ ∃ x, (i, j, x) ∈ Z := by
  constructor
  · rintro ⟨k, h, _⟩
    obtain ⟨z, hz, e⟩ := List.mem_map.mp (List.mem_of_getElem? h)
    cases e
    exact ⟨_, hz⟩
  · rintro ⟨x, h⟩
    obtain ⟨k, hk⟩ := List.getElem?_of_mem h
    exact ⟨k, by unfold endsOf; rw [List.getElem?_map, hk]; rfl, by simp⟩
theorem lotE_step {i j : Nat} : lotE N ts W i j ↔ ∃ s x u, s ∈ std0 N ts W ∧ Stp ts W s x u ∧ i = ixS N ts W s ∧ j = ixS N ts W u := by
  unfold lotE
  rw [ed_ends]
  constructor
  · rintro ⟨x, h⟩
    obtain ⟨s, y, u, h1, h2, e⟩ := prodZ_step.mp h
    cases e
    exact ⟨s, _, u, h1, h2, rfl, rfl⟩
  · rintro ⟨s, x, u, h1, h2, rfl, rfl⟩
    exact ⟨x, prodZ_step.mpr ⟨s, x, u, h1, h2, rfl⟩⟩
theorem cm_in {s u : Nat × Nat} (ho : OkWeb N ts) (h0 : 0 < W.length) (hs : s ∈ std0 N ts W) (h : Cm ts W s u) : u ∈ std0 N ts W := by
  obtain ⟨A, h⟩ := h
  induction A generalizing s with
  | nil => cases h; exact hs
  | cons x r ih =>
    obtain ⟨v, h1, h2⟩ := h
    exact ih (stp_in ho h0 hs h1) h2
theorem cm_rch {s u : Nat × Nat} (ho : OkWeb N ts) (h0 : 0 < W.length) (hs : s ∈ std0 N ts W) (h : Cm ts W s u) : Rch (lotE N ts W) (ixS N ts W s) (ixS N ts W u) := by
  obtain ⟨A, h⟩ := h
  induction A generalizing s with
  | nil => cases h; exact rch_refl _
  | cons x r ih =>
    obtain ⟨v, h1, h2⟩ := h
    exact rch_trans (rch_one (lotE_step.mpr ⟨s, x, v, hs, h1, rfl, rfl⟩)) (ih (stp_in ho h0 hs h1) h2)
theorem rch_cm {s : Nat × Nat} {j : Nat} (ho : OkWeb N ts) (h0 : 0 < W.length) (hs : s ∈ std0 N ts W) (h : Rch (lotE N ts W) (ixS N ts W s) j) : ∃ u ∈ std0 N ts W, j = ixS N ts W u ∧ Cm ts W s u := by
  refine rch_closed (S := fun j => ∃ u ∈ std0 N ts W, j = ixS N ts W u ∧ Cm ts W s u) ?_ ⟨s, hs, rfl, Cm.refl s⟩ h
  rintro i j ⟨u, h1, rfl, h2⟩ h3
  obtain ⟨s', x, v, h4, h5, e1, rfl⟩ := lotE_step.mp h3
  have := ixS_inj h1 h4 e1
  subst this
  exact ⟨v, stp_in ho h0 h1 h5, rfl, h2.step h5⟩
theorem rch_cms {s u : Nat × Nat} (ho : OkWeb N ts) (h0 : 0 < W.length) (hs : s ∈ std0 N ts W) (hu : u ∈ std0 N ts W) (h : Rch (lotE N ts W) (ixS N ts W s) (ixS N ts W u)) : Cm ts W s u := by
  obtain ⟨v, h1, e, h2⟩ := rch_cm ho h0 hs h
  rw [ixS_inj hu h1 e]
  exact h2
/-- each standing is reached from one where nothing is read -/
theorem std0_from (ho : OkWeb N ts) (hW : Chain ts W) {s : Nat × Nat} (h : s ∈ std0 N ts W) : ∃ q, q < N ∧ Cm ts W (q, 0) s :=
  std0_all (S := fun s => ∃ q, q < N ∧ Cm ts W (q, 0) s) ho hW (fun p hp => ⟨p, hp, Cm.refl _⟩) (fun s x ⟨q, hq, h1⟩ hx => ⟨q, hq, h1.step (stp_out.mpr ⟨hx, rfl⟩)⟩) s h
theorem tiesL_all {m : Nat} {Z : List (Nat × Nat × Nat)} : (tiesL m Z).length = m ↔ ∀ x, x < m → ∃ y ∈ Z, y.2.2 = x := by
  have h := List.length_filter_eq_length_iff (l := List.range m) (p := fun x => decide (∃ y ∈ Z, y.2.2 = x))
  rw [List.length_range] at h
  unfold tiesL
  rw [h]
  constructor
  · intro h x hx
    exact of_decide_eq_true (h x (List.mem_range.mpr hx))
  · intro h x hx
    exact decide_eq_true (h x (List.mem_range.mp hx))
theorem lot_in {h : Nat} {s u : Nat × Nat} {x : Nat} (hz : (ixS N ts W s, ixS N ts W u, x) ∈ inLot (lotE N ts W) (prodS N ts W).length (prodZ N ts W) h) : Mut (lotE N ts W) h (ixS N ts W s) ∧ Mut (lotE N ts W) h (ixS N ts W u) := by
  have := of_decide_eq_true (List.mem_filter.mp hz).2
  exact ⟨(clsL_mem.mp this.1).2, (clsL_mem.mp this.2).2⟩
/-- a lot with all ties: not sure -/
theorem lots_notSure (ho : OkWeb N ts) (hW : Chain ts W) (hm : 0 < ts.length) : (∃ e ∈ lotsW N ts W, ∀ x, x < ts.length → ∃ y ∈ e.2, y.2.2 = x) ↔ NotSure ts W N := by
  have h0 := hW.n0
  constructor
  · rintro ⟨e, he, h⟩
    obtain ⟨hd, k1, rfl⟩ := List.mem_map.mp he
    have k2 := (headsL_mem.mp (List.mem_filter.mp k1).1).1
    obtain ⟨s0, hs0, rfl⟩ := ixS_of k2
    refine ⟨s0, std0_from ho hW hs0, fun x hx => ?_⟩
    obtain ⟨y, hy, rfl⟩ := h x hx
    obtain ⟨s, x, u, a1, a2, rfl⟩ := prodZ_step.mp (List.mem_filter.mp hy).1
    obtain ⟨m1, m2⟩ := lot_in hy
    exact ⟨s, u, a2, rch_cms ho h0 hs0 a1 m1.1, rch_cms ho h0 (stp_in ho h0 a1 a2) hs0 m2.2⟩
  · rintro ⟨h, ⟨q, hq, hc⟩, all⟩
    have hh := cm_in ho h0 (std0_mem.mpr (.inl ⟨rfl, hq⟩)) hc
    obtain ⟨hd, k1, k2⟩ := head_of (E := lotE N ts W) (ixS_lt hh)
    have inl : ∀ x, x < ts.length → ∃ y ∈ inLot (lotE N ts W) (prodS N ts W).length (prodZ N ts W) hd, y.2.2 = x := fun x hx => by
      obtain ⟨s, u, a1, a2, a3⟩ := all x hx
      have hs := cm_in ho h0 hh a2
      have hu := stp_in ho h0 hs a1
      have r1 := cm_rch ho h0 hh a2
      have r2 := cm_rch ho h0 hu a3
      have r3 := rch_one (lotE_step.mpr ⟨s, x, u, hs, a1, rfl, rfl⟩)
      refine ⟨(ixS N ts W s, ixS N ts W u, x), List.mem_filter.mpr ⟨prodZ_step.mpr ⟨s, x, u, hs, a1, rfl⟩, decide_eq_true ⟨clsL_mem.mpr ⟨ixS_lt hs, ?_⟩, clsL_mem.mpr ⟨ixS_lt hu, ?_⟩⟩⟩, rfl⟩
      · exact k2.symm.trans ⟨r1, rch_trans r3 r2⟩
      · exact k2.symm.trans ⟨rch_trans r1 r3, r2⟩
    refine ⟨_, List.mem_map.mpr ⟨hd, List.mem_filter.mpr ⟨k1, decide_eq_true fun z => ?_⟩, rfl⟩, inl⟩
    obtain ⟨y, hy, _⟩ := inl 0 hm
    rw [z] at hy
    cases hy
theorem lotsT_notSure (ho : OkWeb N ts) (hW : Chain ts W) (hm : 0 < ts.length) : (∃ e ∈ lotsT N ts W, e.2.length = ts.length) ↔ NotSure ts W N := by
  rw [← lots_notSure ho hW hm]
  constructor
  · rintro ⟨e, he, h⟩
    obtain ⟨f, hf, rfl⟩ := List.mem_map.mp he
    exact ⟨f, hf, tiesL_all.mp h⟩
  · rintro ⟨f, hf, h⟩
    exact ⟨_, List.mem_map.mpr ⟨f, hf, rfl⟩, tiesL_all.mpr h⟩
theorem lotsT_le {e : List Nat × List Nat} (he : e ∈ lotsT N ts W) : e.2.length ≤ ts.length := by
  obtain ⟨f, hf, rfl⟩ := List.mem_map.mp he
  exact Nat.le_trans (List.length_filter_le _ _) (by rw [List.length_range]; exact Nat.le_refl _)
/-- ties along a run that goes on and on never read the word -/
theorem run_lacks {h : Nat × Nat} {q : Nat} {A Z : List Nat} (hW : 0 < W.length) (hA : Run ts W (q, 0) A h) (hZ : Run ts W h Z h) (h0 : 0 < Z.length) (s : Nat) : ¬ ∀ k, k < W.length → gt Z (s + k) = W.getD k 0 := by
  intro hs
  obtain ⟨u, u1, _⟩ := run_on hZ h0 (s + W.length)
  have hr := u1.reads (hA.reads (Rdg.start (W := W) hW))
  have hw : rd Z s W.length = W := by
    apply List.ext_getElem?
    intro k
    by_cases hk : k < W.length
    · rw [rd_get _ _ _ _ hk, List.getElem?_eq_getElem hk]
      have := hs k hk
      rw [List.getD_eq_getElem?_getD, List.getElem?_eq_getElem hk] at this
      exact congrArg some this
    · rw [List.getElem?_eq_none (by rw [rd_len]; omega), List.getElem?_eq_none (by omega)]
  have hsuf : W.take W.length <:+ ([] ++ A) ++ rd Z 0 (s + W.length) := by
    rw [List.take_length, rd_split, Nat.zero_add, hw]
    exact ⟨[] ++ A ++ rd Z 0 s, by rw [List.append_assoc]⟩
  have := hr.max W.length (Nat.le_refl _) hsuf
  have := hr.lt
  omega
end
end My
set_option maxHeartbeats 4000000
namespace My
open PySem L2 PyProof.Rows
/-! ### rounds that never read the word, lots of standings, lots of windows -/
/-- a round in which the word never stands -/
structure Lck (ts : List (Nat × Nat)) (W T : List Nat) : Prop where
  c : Chain ts T
  b : BackAt ts T
  no : ∀ s, ¬ ∀ k, k < W.length → gt T (s + k) = W.getD k 0
/-- the ties S within a close lot of standings -/
def HeldP (ts : List (Nat × Nat)) (W : List Nat) (N : Nat) (S : List Nat) : Prop := ∃ h : Nat × Nat, (∃ q, q < N ∧ Cm ts W (q, 0) h) ∧ ∀ x ∈ S, ∃ s u, Stp ts W s x u ∧ Cm ts W h s ∧ Cm ts W u h
section
variable {N : Nat} {ts : List (Nat × Nat)} {W : List Nat}
theorem notSure_held : NotSure ts W N ↔ HeldP ts W N (List.range ts.length) :=
  ⟨fun ⟨h, h1, h2⟩ => ⟨h, h1, fun x hx => h2 x (List.mem_range.mp hx)⟩, fun ⟨h, h1, h2⟩ => ⟨h, h1, fun x hx => h2 x (List.mem_range.mpr hx)⟩⟩
theorem tourS {h : Nat × Nat} : ∀ {S : List Nat}, (∀ x ∈ S, ∃ s u, Stp ts W s x u ∧ Cm ts W h s ∧ Cm ts W u h) → ∃ Z, Run ts W h Z h ∧ ∀ x ∈ S, x ∈ Z
  | [], _ => ⟨[], rfl, fun x hx => nomatch hx⟩
  | y :: r, all => by
    obtain ⟨Z, z1, z2⟩ := tourS (S := r) fun x hx => all x (List.mem_cons_of_mem _ hx)
    obtain ⟨s, u, k1, ⟨A, a1⟩, ⟨B, b1⟩⟩ := all y List.mem_cons_self
    refine ⟨Z ++ (A ++ ([y] ++ B)), z1.app (a1.app ((Run.one k1).app b1)), fun x hx => ?_⟩
    rcases List.mem_cons.mp hx with rfl | hx
    · simp
    · exact List.mem_append_left _ (z2 x hx)
theorem held_lck {S : List Nat} (h0 : 0 < W.length) (hS : S ≠ []) (h : HeldP ts W N S) : ∃ T, Lck ts W T ∧ ∀ x ∈ S, x ∈ T := by
  obtain ⟨h, ⟨q, _, A, hA⟩, all⟩ := h
  obtain ⟨Z, z1, z2⟩ := tourS all
  have hz : 0 < Z.length := by
    cases S with
    | nil => exact absurd rfl hS
    | cons y r => exact List.length_pos_of_mem (z2 y List.mem_cons_self)
  obtain ⟨c1, c2⟩ := path_round z1.path hz
  exact ⟨Z, ⟨c1, c2, fun s => run_lacks h0 hA z1 hz s⟩, z2⟩
theorem lck_held {L S : List Nat} (ho : OkWeb N ts) (hW : Chain ts W) (hL : Lck ts W L) (hS : ∀ x ∈ S, x ∈ L) : HeldP ts W N S := by
  have c1 := hL.c
  have c2 := hL.b
  have c4 : ∀ s, ∃ k, k < W.length ∧ gt L (s + k) ≠ W.getD k 0 := fun s => Classical.byContradiction fun z => hL.no s fun k hk => Classical.byContradiction fun y => z ⟨k, hk, y⟩
  have hL0 := c1.n0
  obtain ⟨e0, _, r0, _, _⟩ := round_on c1 c2 0
  have step : ∀ n, ∃ u, Run ts W (e0.1, 0) (rd L 0 n) u ∧ ∃ e, ts[gt L n]? = some (u.1, e) := by
    intro n
    induction n with
    | zero => exact ⟨(e0.1, 0), rfl, e0.2, r0⟩
    | succ n ih =>
      obtain ⟨u, u1, e, u2⟩ := ih
      have hrd := u1.reads (Rdg.start (W := W) hW.n0)
      obtain ⟨k1, k2, k3⟩ := hrd.step (gt L n)
      have hr1 : rd L 0 (n + 1) = rd L 0 n ++ [gt L n] := by
        rw [rd_succ, Nat.zero_add]
        rfl
      rw [List.nil_append, ← hr1] at k2
      have hlt : nxt W u.2 (gt L n) < W.length := by
        refine Classical.byContradiction fun z => ?_
        rw [show nxt W u.2 (gt L n) = W.length by omega, List.take_length] at k2
        have hlen := k2.length_le
        rw [rd_len] at hlen
        obtain ⟨v, hv⟩ := k2
        have hvl : v.length = n + 1 - W.length := by
          have := congrArg List.length hv
          rw [List.length_append, rd_len] at this
          omega
        obtain ⟨k, hk, hne⟩ := c4 (n + 1 - W.length)
        refine hne ?_
        have h1 := rd_get L 0 (n + 1) (n + 1 - W.length + k) (by omega)
        rw [← hv, List.getElem?_append_right (by omega), show n + 1 - W.length + k - v.length = k by omega, Nat.zero_add] at h1
        rw [List.getD_eq_getElem?_getD, h1]
        rfl
      obtain ⟨e', f', q1, q2, q3⟩ := round_on c1 c2 n
      rw [u2] at q1
      cases q1
      refine ⟨(e, nxt W u.2 (gt L n)), by rw [hr1]; exact u1.app (Run.one ⟨u2, rfl, hlt⟩), f'.2, ?_⟩
      rw [q2]
      have q3' : f'.1 = e := q3
      rw [← q3']
  have hU := fun n => Classical.choose_spec (step n)
  generalize hUU : (fun n => Classical.choose (step n)) = U at hU
  have hU2 : ∀ n, Run ts W (e0.1, 0) (rd L 0 n) (U n) := fun n => by rw [← hUU]; exact (Classical.choose_spec (step n)).1
  have hlast : ∀ n, (U n).2 < W.length := fun n => ((hU2 n).reads (Rdg.start (W := W) hW.n0)).lt
  have hplace : ∀ n, (U n).1 < N := fun n => by
    rw [← hUU]
    obtain ⟨e, he⟩ := (Classical.choose_spec (step n)).2
    exact (ho.ok _ (List.mem_of_getElem? he)).1
  have seg : ∀ a b, Run ts W (U a) (rd L a b) (U (a + b)) := fun a b => by
    have h1 := hU2 (a + b)
    rw [rd_split, Nat.zero_add] at h1
    obtain ⟨v, v1, v2⟩ := h1.split
    have := v1.det (hU2 a)
    subst this
    exact v2
  obtain ⟨p, p', hpp, heq⟩ := pigeon (m := N * W.length) (fun k => (U (L.length * k)).1 * W.length + (U (L.length * k)).2) fun k => by
    have h1 := hplace (L.length * k)
    have h2 := hlast (L.length * k)
    have h3 : ((U (L.length * k)).1 + 1) * W.length ≤ N * W.length := Nat.mul_le_mul_right _ h1
    rw [Nat.succ_mul] at h3
    omega
  have hsame : U (L.length * p) = U (L.length * p') := by
    have h2 := hlast (L.length * p)
    have h3 := hlast (L.length * p')
    have e1 : (U (L.length * p)).1 = (U (L.length * p')).1 := by
      have this : ((U (L.length * p)).1 * W.length + (U (L.length * p)).2) / W.length = ((U (L.length * p')).1 * W.length + (U (L.length * p')).2) / W.length := congrArg (fun z => z / W.length) heq
      have dv : ∀ a b m : Nat, b < m → (a * m + b) / m = a := fun a b m hb => by rw [Nat.mul_comm, Nat.mul_add_div (by omega), Nat.div_eq_of_lt hb, Nat.add_zero]
      rw [dv _ _ _ h2, dv _ _ _ h3] at this
      exact this
    refine Prod.ext e1 ?_
    rw [e1] at heq
    omega
  have he0N := (ho.ok _ (List.mem_of_getElem? r0)).1
  refine ⟨U (L.length * p), ⟨e0.1, he0N, ⟨_, hU2 _⟩⟩, fun x hx => ?_⟩
  obtain ⟨y, hy⟩ := List.getElem?_of_mem (hS x hx)
  have hyl := (List.getElem?_eq_some_iff.mp hy).1
  have hx2 : gt L (L.length * p + y) = x := by
    rw [Nat.add_comm, gt_add, gt_of hy]
  have hz : L.length * p + L.length ≤ L.length * p' := by
    have : L.length * (p + 1) ≤ L.length * p' := Nat.mul_le_mul_left _ hpp
    rw [Nat.mul_succ] at this
    exact this
  refine ⟨U (L.length * p + y), U (L.length * p + y + 1), ?_, ⟨_, seg _ _⟩, ?_⟩
  · have := seg (L.length * p + y) 1
    obtain ⟨v, v1, v2⟩ := (show Run ts W _ [gt L (L.length * p + y)] _ from this)
    cases v2
    rw [hx2] at v1
    exact v1
  · have := seg (L.length * p + y + 1) (L.length * p' - (L.length * p + y + 1))
    rw [show L.length * p + y + 1 + (L.length * p' - (L.length * p + y + 1)) = L.length * p' by omega, ← hsame] at this
    exact ⟨_, this⟩
/-- lots of the product hold just the ties of rounds that lack the word -/
theorem lots_held (ho : OkWeb N ts) (hW : Chain ts W) {S : List Nat} (hS : S ≠ []) : (∃ e ∈ lotsW N ts W, ∀ x ∈ S, ∃ y ∈ e.2, y.2.2 = x) ↔ HeldP ts W N S := by
  have h0 := hW.n0
  constructor
  · rintro ⟨e, he, h⟩
    obtain ⟨hd, k1, rfl⟩ := List.mem_map.mp he
    have k2 := (headsL_mem.mp (List.mem_filter.mp k1).1).1
    obtain ⟨s0, hs0, rfl⟩ := ixS_of k2
    refine ⟨s0, std0_from ho hW hs0, fun x hx => ?_⟩
    obtain ⟨y, hy, rfl⟩ := h x hx
    obtain ⟨s, x, u, a1, a2, rfl⟩ := prodZ_step.mp (List.mem_filter.mp hy).1
    obtain ⟨m1, m2⟩ := lot_in hy
    exact ⟨s, u, a2, rch_cms ho h0 hs0 a1 m1.1, rch_cms ho h0 (stp_in ho h0 a1 a2) hs0 m2.2⟩
  · rintro ⟨h, ⟨q, hq, hc⟩, all⟩
    have hh := cm_in ho h0 (std0_mem.mpr (.inl ⟨rfl, hq⟩)) hc
    obtain ⟨hd, k1, k2⟩ := head_of (E := lotE N ts W) (ixS_lt hh)
    have inl : ∀ x ∈ S, ∃ y ∈ inLot (lotE N ts W) (prodS N ts W).length (prodZ N ts W) hd, y.2.2 = x := fun x hx => by
      obtain ⟨s, u, a1, a2, a3⟩ := all x hx
      have hs := cm_in ho h0 hh a2
      have hu := stp_in ho h0 hs a1
      have r1 := cm_rch ho h0 hh a2
      have r2 := cm_rch ho h0 hu a3
      have r3 := rch_one (lotE_step.mpr ⟨s, x, u, hs, a1, rfl, rfl⟩)
      refine ⟨(ixS N ts W s, ixS N ts W u, x), List.mem_filter.mpr ⟨prodZ_step.mpr ⟨s, x, u, hs, a1, rfl⟩, decide_eq_true ⟨clsL_mem.mpr ⟨ixS_lt hs, ?_⟩, clsL_mem.mpr ⟨ixS_lt hu, ?_⟩⟩⟩, rfl⟩
      · exact k2.symm.trans ⟨r1, rch_trans r3 r2⟩
      · exact k2.symm.trans ⟨rch_trans r1 r3, r2⟩
    refine ⟨_, List.mem_map.mpr ⟨hd, List.mem_filter.mpr ⟨k1, decide_eq_true fun z => ?_⟩, rfl⟩, inl⟩
    cases S with
    | nil => exact hS rfl
    | cons y r =>
      obtain ⟨z', hz', _⟩ := inl y List.mem_cons_self
      rw [z] at hz'
      cases hz'
end
/-! ### windows -/
/-- the walks of n + 1 ties, in the law's sequence -/
def nextW (ts : List (Nat × Nat)) (w : List Nat) : List (List Nat) := (frm ts (ts.getD (w.getLastD 0) (0, 0)).2).map fun x => w ++ [x]
theorem frm_iff {ts : List (Nat × Nat)} {p x : Nat} : x ∈ frm ts p ↔ x < ts.length ∧ (ts.getD x (0, 0)).1 = p := by
  unfold frm
  rw [frmN_mem]
  constructor
  · rintro ⟨h1, h2⟩
    refine ⟨h1, ?_⟩
    rw [List.getD_eq_getElem?_getD]
    rw [List.getElem?_eq_getElem h1] at h2 ⊢
    exact Option.some.inj h2
  · rintro ⟨h1, h2⟩
    refine ⟨h1, ?_⟩
    rw [List.getD_eq_getElem?_getD] at h2
    rw [List.getElem?_eq_getElem h1] at h2 ⊢
    exact congrArg some h2
def walksW (ts : List (Nat × Nat)) : Nat → List (List Nat)
  | 0 => (List.range ts.length).map fun x => [x]
  | n + 1 => (walksW ts n).flatMap (nextW ts)
/-- the steps between windows -/
def winZ (ts : List (Nat × Nat)) (W : List Nat) : List (List Nat × List Nat × Nat) :=
  if W.length = 1 then ((List.range ts.length).filter fun x => decide (x ≠ W.getD 0 0)).map fun x => ([(ts.getD x (0, 0)).1], [(ts.getD x (0, 0)).2], x)
  else ((walksW ts (W.length - 1)).filter fun w => decide (w ≠ W)).map fun w => (w.dropLast, w.tail, w.getLastD 0)
section
variable {N : Nat} {ts : List (Nat × Nat)} {W : List Nat}
theorem last_get {w : List Nat} (h : 0 < w.length) : w[w.length - 1]? = some (w.getLastD 0) := by
  rw [List.getElem?_eq_getElem (by omega), List.getLastD_eq_getLast?, List.getLast?_eq_getElem?, List.getElem?_eq_getElem (by omega)]
  rfl
theorem tie_get {x : Nat} (h : x < ts.length) : ts[x]? = some (ts.getD x (0, 0)) := by
  rw [List.getD_eq_getElem?_getD, List.getElem?_eq_getElem h]
  rfl
theorem chain_one {x : Nat} (h : x < ts.length) : Chain ts [x] := ⟨Nat.zero_lt_one, fun y hy => by rw [List.mem_singleton.mp hy]; exact h, fun i hi => absurd hi (by simp)⟩
theorem chain_snoc {w : List Nat} {x : Nat} (hw : 0 < w.length) : Chain ts (w ++ [x]) ↔ Chain ts w ∧ x < ts.length ∧ (ts.getD x (0, 0)).1 = (ts.getD (w.getLastD 0) (0, 0)).2 := by
  have hl := last_get hw
  constructor
  · intro h
    have hx := h.num x (by simp)
    refine ⟨⟨hw, fun y hy => h.num y (List.mem_append_left _ hy), fun i hi => ?_⟩, hx, ?_⟩
    · obtain ⟨a, b, e, f, h1, h2, r⟩ := h.on i (by rw [List.length_append]; omega)
      rw [List.getElem?_append_left (by omega)] at h1 h2
      exact ⟨a, b, e, f, h1, h2, r⟩
    · obtain ⟨a, b, e, f, h1, h2, h3, h4, h5⟩ := h.on (w.length - 1) (by rw [List.length_append]; show _ < _ + 1; omega)
      rw [List.getElem?_append_left (by omega), hl] at h1
      rw [show w.length - 1 + 1 = w.length by omega, List.getElem?_append_right (Nat.le_refl _), Nat.sub_self] at h2
      cases h1
      cases h2
      have e1 := tie_get (h.num _ (List.mem_append_left _ (List.mem_of_getElem? hl)))
      rw [h3] at e1
      have e2 := tie_get hx
      rw [h4] at e2
      rw [← Option.some.inj e1, ← Option.some.inj e2]
      exact h5
  · rintro ⟨h, hx, e⟩
    refine ⟨by rw [List.length_append]; omega, fun y hy => ?_, fun i hi => ?_⟩
    · rcases List.mem_append.mp hy with hy | hy
      · exact h.num y hy
      · rw [List.mem_singleton.mp hy]; exact hx
    · by_cases c : i + 1 < w.length
      · obtain ⟨a, b, e', f, h1, h2, r⟩ := h.on i c
        exact ⟨a, b, e', f, by rw [List.getElem?_append_left (by omega)]; exact h1, by rw [List.getElem?_append_left c]; exact h2, r⟩
      · rw [List.length_append] at hi
        have hi' : i + 1 < w.length + 1 := hi
        have ei : i = w.length - 1 := by omega
        subst ei
        refine ⟨_, x, _, _, by rw [List.getElem?_append_left (by omega)]; exact hl, ?_, tie_get (h.num _ (List.mem_of_getElem? hl)), tie_get hx, e⟩
        rw [show w.length - 1 + 1 = w.length by omega, List.getElem?_append_right (Nat.le_refl _), Nat.sub_self]
        rfl
theorem walksW_mem {w : List Nat} : ∀ {n : Nat}, w ∈ walksW ts n ↔ Chain ts w ∧ w.length = n + 1 := by
  intro n
  induction n generalizing w with
  | zero =>
    unfold walksW
    rw [List.mem_map]
    constructor
    · rintro ⟨x, hx, rfl⟩
      exact ⟨chain_one (List.mem_range.mp hx), rfl⟩
    · rintro ⟨h1, h2⟩
      match w, h1, h2 with
      | [x], h1, _ => exact ⟨x, List.mem_range.mpr (h1.num x (by simp)), rfl⟩
  | succ n ih =>
    show w ∈ (walksW ts n).flatMap (nextW ts) ↔ _
    rw [List.mem_flatMap]
    constructor
    · rintro ⟨v, hv, hw⟩
      obtain ⟨c, l⟩ := ih.mp hv
      obtain ⟨x, hx, rfl⟩ := List.mem_map.mp hw
      obtain ⟨hx1, hx2⟩ := frm_iff.mp hx
      exact ⟨(chain_snoc c.n0).mpr ⟨c, hx1, hx2⟩, by rw [List.length_append, l]; rfl⟩
    · rintro ⟨h1, h2⟩
      rcases List.eq_nil_or_concat w with rfl | ⟨v, x, rfl⟩
      · exact absurd h1.n0 (Nat.lt_irrefl 0)
      rw [List.concat_eq_append] at *
      rw [List.length_append] at h2
      have h2' : v.length = n + 1 := Nat.succ.inj h2
      obtain ⟨c, hx, e⟩ := (chain_snoc (by omega)).mp h1
      exact ⟨v, ih.mpr ⟨c, h2'⟩, List.mem_map.mpr ⟨x, frm_iff.mpr ⟨hx, e⟩, rfl⟩⟩
theorem winZ_one (h : W.length = 1) {p q : List Nat} {x : Nat} : (p, q, x) ∈ winZ ts W ↔ x < ts.length ∧ x ≠ W.getD 0 0 ∧ p = [(ts.getD x (0, 0)).1] ∧ q = [(ts.getD x (0, 0)).2] := by
  unfold winZ
  rw [if_pos h, List.mem_map]
  constructor
  · rintro ⟨y, hy, e⟩
    cases e
    obtain ⟨h1, h2⟩ := List.mem_filter.mp hy
    exact ⟨List.mem_range.mp h1, of_decide_eq_true h2, rfl, rfl⟩
  · rintro ⟨h1, h2, rfl, rfl⟩
    exact ⟨x, List.mem_filter.mpr ⟨List.mem_range.mpr h1, decide_eq_true h2⟩, rfl⟩
theorem winZ_more (h : 1 < W.length) {p q : List Nat} {x : Nat} : (p, q, x) ∈ winZ ts W ↔ Chain ts (p ++ [x]) ∧ p.length + 1 = W.length ∧ p ++ [x] ≠ W ∧ q = (p ++ [x]).tail := by
  unfold winZ
  rw [if_neg (by omega), List.mem_map]
  constructor
  · rintro ⟨w, hw, e⟩
    cases e
    obtain ⟨h1, h2⟩ := List.mem_filter.mp hw
    obtain ⟨c, l⟩ := walksW_mem.mp h1
    have e : w.dropLast ++ [w.getLastD 0] = w := by
      rcases List.eq_nil_or_concat w with rfl | ⟨v, y, rfl⟩
      · exact absurd c.n0 (Nat.lt_irrefl 0)
      · simp
    rw [e]
    exact ⟨c, by rw [List.length_dropLast]; omega, of_decide_eq_true h2, rfl⟩
  · rintro ⟨h1, h2, h3, rfl⟩
    refine ⟨p ++ [x], List.mem_filter.mpr ⟨walksW_mem.mpr ⟨h1, by rw [List.length_append]; show p.length + 1 = _; omega⟩, decide_eq_true h3⟩, ?_⟩
    simp
/-- from window to window -/
def WRun (ts : List (Nat × Nat)) (W : List Nat) : List Nat → List Nat → List Nat → Prop
  | p, [], q => p = q
  | p, x :: r, q => ∃ v, (p, v, x) ∈ winZ ts W ∧ WRun ts W v r q
theorem WRun.app {v w : List Nat} {B : List Nat} : ∀ {A : List Nat} {u : List Nat}, WRun ts W u A v → WRun ts W v B w → WRun ts W u (A ++ B) w
  | [], _, h, k => by
    cases h
    exact k
  | _ :: _, _, ⟨z, h1, h2⟩, k => ⟨z, h1, WRun.app h2 k⟩
theorem WRun.one {u v : List Nat} {x : Nat} (h : (u, v, x) ∈ winZ ts W) : WRun ts W u [x] v := ⟨v, h, rfl⟩
theorem WRun.split {w : List Nat} {B : List Nat} : ∀ {A : List Nat} {u : List Nat}, WRun ts W u (A ++ B) w → ∃ v, WRun ts W u A v ∧ WRun ts W v B w
  | [], u, h => ⟨u, rfl, h⟩
  | _ :: _, _, ⟨z, h1, h2⟩ => by
    obtain ⟨v, k1, k2⟩ := WRun.split h2
    exact ⟨v, ⟨z, h1, k1⟩, k2⟩
def WCm (ts : List (Nat × Nat)) (W : List Nat) (p q : List Nat) : Prop := ∃ A, WRun ts W p A q
/-- the ties S within a close lot of windows -/
def HeldW (ts : List (Nat × Nat)) (W : List Nat) (S : List Nat) : Prop := ∃ p : List Nat, (∃ q x, (p, q, x) ∈ winZ ts W) ∧ ∀ x ∈ S, ∃ a b, (a, b, x) ∈ winZ ts W ∧ WCm ts W p a ∧ WCm ts W b p
theorem tourW {h : List Nat} : ∀ {S : List Nat}, (∀ x ∈ S, ∃ s u, (s, u, x) ∈ winZ ts W ∧ WCm ts W h s ∧ WCm ts W u h) → ∃ Z, WRun ts W h Z h ∧ ∀ x ∈ S, x ∈ Z
  | [], _ => ⟨[], rfl, fun x hx => nomatch hx⟩
  | y :: r, all => by
    obtain ⟨Z, z1, z2⟩ := tourW (S := r) fun x hx => all x (List.mem_cons_of_mem _ hx)
    obtain ⟨s, u, k1, ⟨A, a1⟩, ⟨B, b1⟩⟩ := all y List.mem_cons_self
    refine ⟨Z ++ (A ++ ([y] ++ B)), z1.app (a1.app ((WRun.one k1).app b1)), fun x hx => ?_⟩
    rcases List.mem_cons.mp hx with rfl | hx
    · simp
    · exact List.mem_append_left _ (z2 x hx)
theorem wrun_on {h : List Nat} {Z : List Nat} (hZ : WRun ts W h Z h) (h0 : 0 < Z.length) : ∀ n, ∃ u, WRun ts W h (rd Z 0 n) u ∧ WRun ts W u (Z.drop (n % Z.length)) h
  | 0 => ⟨h, rfl, by rw [Nat.zero_mod]; exact hZ⟩
  | n + 1 => by
    obtain ⟨u, u1, u2⟩ := wrun_on hZ h0 n
    have hj := Nat.mod_lt n h0
    rw [List.drop_eq_getElem_cons hj] at u2
    obtain ⟨v, v1, v2⟩ := u2
    have e : Z[n % Z.length] = gt Z n := by
      have := gt_at hj
      rw [List.getElem?_eq_getElem hj, gt_turn] at this
      exact Option.some.inj this
    rw [e] at v1
    have hr : rd Z 0 (n + 1) = rd Z 0 n ++ [gt Z n] := by
      rw [rd_succ, Nat.zero_add]
      rfl
    refine ⟨v, by rw [hr]; exact u1.app (WRun.one v1), ?_⟩
    by_cases c : n % Z.length + 1 < Z.length
    · have e2 : (n + 1) % Z.length = n % Z.length + 1 := by rw [Nat.add_mod, Nat.mod_eq_of_lt (a := 1) (by omega), Nat.mod_eq_of_lt c]
      rw [e2]
      exact v2
    · have e3 : n % Z.length + 1 = Z.length := by omega
      have e2 : (n + 1) % Z.length = 0 := by
        have := Nat.div_add_mod n Z.length
        rw [show n + 1 = Z.length * (n / Z.length + 1) by rw [Nat.mul_add]; omega, Nat.mul_mod_right]
      rw [e3, List.drop_length] at v2
      cases v2
      rw [e2]
      exact hZ
/-- walks of one tie: windows are places -/
theorem wrun_path1 (h : W.length = 1) : ∀ {A : List Nat} {a : Nat} {q : List Nat}, WRun ts W [a] A q → ∃ b, q = [b] ∧ PathT ts a b A ∧ ∀ x ∈ A, x ≠ W.getD 0 0
  | [], a, q, e => ⟨a, e.symm, rfl, fun x hx => nomatch hx⟩
  | x :: r, a, q, ⟨v, h1, h2⟩ => by
    obtain ⟨k1, k2, k3, k4⟩ := (winZ_one h).mp h1
    subst k4
    obtain ⟨b, rfl, p1, p2⟩ := wrun_path1 h h2
    have ea : a = (ts.getD x (0, 0)).1 := (List.cons.inj k3).1
    refine ⟨b, rfl, ⟨(ts.getD x (0, 0)).2, ?_, p1⟩, fun y hy => ?_⟩
    · rw [tie_get k1, ea]
    · rcases List.mem_cons.mp hy with rfl | hy
      · exact k2
      · exact p2 y hy
/-- longer ones: what a window is behind a run -/
theorem wrun_more (h : 1 < W.length) : ∀ {A : List Nat} {p q : List Nat}, p.length + 1 = W.length → WRun ts W p A q → q = (p ++ A).drop A.length ∧ q.length + 1 = W.length ∧ PathT ts (ts.getD (p.getLastD 0) (0, 0)).2 (ts.getD (q.getLastD 0) (0, 0)).2 A
  | [], p, q, hp, e => by
    cases e
    exact ⟨by simp, hp, rfl⟩
  | x :: r, p, q, hp, ⟨v, h1, h2⟩ => by
    obtain ⟨k1, k2, k3, rfl⟩ := (winZ_more h).mp h1
    have hp0 : 0 < p.length := by omega
    obtain ⟨c, hx, e⟩ := (chain_snoc hp0).mp k1
    obtain ⟨y, r', rfl⟩ : ∃ y r', p = y :: r' := by
      cases p with
      | nil => exact absurd hp0 (Nat.lt_irrefl 0)
      | cons y r' => exact ⟨y, r', rfl⟩
    have hv : ((y :: r') ++ [x]).tail = r' ++ [x] := rfl
    rw [hv] at h2
    obtain ⟨g1, g2, g3⟩ := wrun_more h (p := r' ++ [x]) (by rw [List.length_append]; rw [List.length_cons] at hp; exact hp) h2
    refine ⟨?_, g2, (ts.getD x (0, 0)).2, ?_, ?_⟩
    · rw [g1]
      simp
    · rw [tie_get hx, ← e]
    · rw [show (r' ++ [x]).getLastD 0 = x by simp] at g3
      exact g3
/-- how many walks -/
theorem walksW_len {d : Nat} (h : ∀ p, (frm ts p).length ≤ d) : ∀ n, (walksW ts n).length ≤ ts.length * d ^ n
  | 0 => by
    unfold walksW
    rw [List.length_map, List.length_range, Nat.pow_zero, Nat.mul_one]
    exact Nat.le_refl _
  | n + 1 => by
    have ih := walksW_len h n
    have key : ∀ L : List (List Nat), (L.flatMap (nextW ts)).length ≤ L.length * d := by
      intro L
      induction L with
      | nil => exact Nat.zero_le _
      | cons w r ihr =>
        have := h (ts.getD (w.getLastD 0) (0, 0)).2
        rw [List.flatMap_cons, List.length_append, List.length_cons, Nat.add_mul, Nat.one_mul]
        have e : (nextW ts w).length = (frm ts (ts.getD (w.getLastD 0) (0, 0)).2).length := List.length_map ..
        omega
    refine Nat.le_trans (key (walksW ts n)) ?_
    rw [Nat.pow_succ, ← Nat.mul_assoc]
    exact Nat.mul_le_mul_right _ ih
theorem ringed_deg (ho : OkWeb N ts) (hr : Ringed N ts) (p : Nat) : (frm ts p).length + N ≤ ts.length + 1 := by
  have hp0 : p < N ∨ frm ts p = [] := by
    by_cases c : p < N
    · exact .inl c
    · refine .inr ?_
      cases e : frm ts p with
      | nil => rfl
      | cons x r =>
        obtain ⟨h1, h2⟩ := frm_iff.mp (show x ∈ frm ts p by rw [e]; simp)
        have := (ho.ok _ (List.mem_of_getElem? (tie_get h1))).1
        omega
  have out : ∀ q, q < N → ∃ x, x ∈ frm ts q := fun q hq => by
    obtain ⟨j, hj⟩ := List.getElem?_of_mem (hr q hq)
    have hl := (List.getElem?_eq_some_iff.mp hj).1
    exact ⟨j, frm_iff.mpr ⟨hl, by rw [List.getD_eq_getElem?_getD, hj]; rfl⟩⟩
  obtain ⟨g, hg⟩ : ∃ g : Nat → Nat, ∀ q, q < N → g q ∈ frm ts q := ⟨fun q => if h : q < N then Classical.choose (out q h) else 0, fun q hq => by
    show (if h : q < N then Classical.choose (out q h) else 0) ∈ _
    rw [dif_pos hq]
    exact Classical.choose_spec (out q hq)⟩
  have hnd : (frm ts p).Nodup := frmN_nodup ts p _
  have h1 : (frm ts p ++ ((List.range N).filter fun q => decide (q ≠ p)).map g).Nodup := by
    rw [List.nodup_append]
    refine ⟨hnd, ?_, fun a ha b hb e => ?_⟩
    · refine List.pairwise_map.mpr (List.Pairwise.imp_of_mem (fun {a b} ha hb hab e => hab ?_) (List.nodup_range.filter _))
      have ha' := List.mem_range.mp (List.mem_filter.mp ha).1
      have hb' := List.mem_range.mp (List.mem_filter.mp hb).1
      have e1 := (frm_iff.mp (hg a ha')).2
      have e2 := (frm_iff.mp (hg b hb')).2
      rw [e] at e1
      exact e1.symm.trans e2
    · obtain ⟨q, hq, rfl⟩ := List.mem_map.mp hb
      obtain ⟨q1, q2⟩ := List.mem_filter.mp hq
      have e1 := (frm_iff.mp ha).2
      have e2 := (frm_iff.mp (hg q (List.mem_range.mp q1))).2
      rw [e] at e1
      exact of_decide_eq_true q2 (e2.symm.trans e1)
  have h2 := few (N := ts.length) h1 fun x hx => by
    rcases List.mem_append.mp hx with hx | hx
    · exact (frm_iff.mp hx).1
    · obtain ⟨q, hq, rfl⟩ := List.mem_map.mp hx
      exact (frm_iff.mp (hg q (List.mem_range.mp (List.mem_filter.mp hq).1))).1
  rw [List.length_append, List.length_map] at h2
  have h3 : N ≤ ((List.range N).filter fun q => decide (q ≠ p)).length + 1 := by
    have : (List.range N).length ≤ (p :: ((List.range N).filter fun q => decide (q ≠ p))).length := len_sub List.nodup_range fun x hx => by
      by_cases c : x = p
      · rw [c]; exact List.mem_cons_self
      · exact List.mem_cons_of_mem _ (List.mem_filter.mpr ⟨hx, decide_eq_true c⟩)
    rw [List.length_range, List.length_cons] at this
    exact this
  rcases hp0 with c | c
  · omega
  · rw [c] at h2 ⊢
    have h4 : N ≤ (List.range N).length := by rw [List.length_range]; exact Nat.le_refl _
    have h5 : ((List.range N).map g).Nodup := List.pairwise_map.mpr (List.Pairwise.imp_of_mem (fun {a b} ha hb hab e => hab (by
      have e1 := (frm_iff.mp (hg a (List.mem_range.mp ha))).2
      have e2 := (frm_iff.mp (hg b (List.mem_range.mp hb))).2
      rw [e] at e1
      exact e1.symm.trans e2)) List.nodup_range)
    have := few (N := ts.length) h5 fun x hx => by
      obtain ⟨q, hq, rfl⟩ := List.mem_map.mp hx
      exact (frm_iff.mp (hg q (List.mem_range.mp hq))).1
    rw [List.length_map, List.length_range] at this
    show 0 + N ≤ _
    omega
end
end My
set_option maxHeartbeats 4000000
namespace My
open PySem L2 PyProof.Rows
section
variable {N : Nat} {ts : List (Nat × Nat)} {W : List Nat}
theorem rd_word {Z : List Nat} {s : Nat} (hs : ∀ k, k < W.length → gt Z (s + k) = W.getD k 0) : rd Z s W.length = W := by
  apply List.ext_getElem?
  intro k
  by_cases hk : k < W.length
  · rw [rd_get _ _ _ _ hk, List.getElem?_eq_getElem hk]
    have := hs k hk
    rw [List.getD_eq_getElem?_getD, List.getElem?_eq_getElem hk] at this
    exact congrArg some this
  · rw [List.getElem?_eq_none (by rw [rd_len]; omega), List.getElem?_eq_none (by omega)]
theorem heldW_lck {S : List Nat} (h0 : 0 < W.length) (hS : S ≠ []) (h : HeldW ts W S) : ∃ T, Lck ts W T ∧ ∀ x ∈ S, x ∈ T := by
  obtain ⟨p, ⟨q, x0, hp⟩, all⟩ := h
  obtain ⟨Z, z1, z2⟩ := tourW all
  have hz : 0 < Z.length := by
    cases S with
    | nil => exact absurd rfl hS
    | cons y r => exact List.length_pos_of_mem (z2 y List.mem_cons_self)
  by_cases h1 : W.length = 1
  · obtain ⟨_, _, rfl, _⟩ := (winZ_one h1).mp hp
    obtain ⟨b, e, k1, k2⟩ := wrun_path1 h1 z1
    rw [← (List.cons.inj e).1] at k1
    obtain ⟨c1, c2⟩ := path_round k1 hz
    refine ⟨Z, ⟨c1, c2, fun s hs => ?_⟩, z2⟩
    exact k2 _ (gt_memb hz (s + 0)) (hs 0 h0)
  · have hW : 1 < W.length := by omega
    have hpl := ((winZ_more hW).mp hp).2.1
    obtain ⟨_, _, k1⟩ := wrun_more hW hpl z1
    obtain ⟨c1, c2⟩ := path_round k1 hz
    refine ⟨Z, ⟨c1, c2, fun s hs => ?_⟩, z2⟩
    obtain ⟨u, u1, _⟩ := wrun_on z1 hz (s + (W.length - 1) + 1)
    rw [rd_succ, Nat.zero_add] at u1
    obtain ⟨v, v1, v2⟩ := u1.split
    obtain ⟨u', w1, w2⟩ := v2
    obtain ⟨g1, _, _⟩ := wrun_more hW hpl v1
    have hl : (rd Z 0 (s + (W.length - 1))).length = s + (W.length - 1) := rd_len _ _ _
    have ev : v = rd Z s (W.length - 1) := by
      rw [g1, List.drop_append, List.drop_eq_nil_of_le (by rw [hl]; omega), List.nil_append, hl, rd_split, Nat.zero_add, show s + (W.length - 1) - p.length = s by omega, List.drop_append, List.drop_eq_nil_of_le (by rw [rd_len]; exact Nat.le_refl _), rd_len, Nat.sub_self]
      rfl
    refine ((winZ_more hW).mp w1).2.2.1 ?_
    rw [ev]
    have e := rd_word hs
    rw [show W.length = (W.length - 1) + 1 by omega, rd_succ] at e
    exact e
theorem heldW_of {u : Nat → List Nat} {lab : Nat → Nat} {m : Nat} {S : List Nat} (h0 : 0 < m) (step : ∀ i, (u i, u (i + 1), lab i) ∈ winZ ts W) (back : u m = u 0) (hS : ∀ x ∈ S, ∃ i, i < m ∧ lab i = x) : HeldW ts W S := by
  have seg : ∀ b a, WCm ts W (u a) (u (a + b)) := by
    intro b
    induction b with
    | zero => exact fun a => ⟨[], rfl⟩
    | succ b ih =>
      intro a
      obtain ⟨A, hA⟩ := ih a
      exact ⟨A ++ [lab (a + b)], hA.app (WRun.one (step (a + b)))⟩
  refine ⟨u 0, ⟨_, _, step 0⟩, fun x hx => ?_⟩
  obtain ⟨i, hi, rfl⟩ := hS x hx
  refine ⟨_, _, step i, ?_, ?_⟩
  · have := seg i 0
    rw [Nat.zero_add] at this
    exact this
  · have := seg (m - (i + 1)) (i + 1)
    rw [show i + 1 + (m - (i + 1)) = m by omega, back] at this
    exact this
theorem gt_round {T : List Nat} (i : Nat) : gt T (T.length + i) = gt T i := by
  have := gt_add T i 1
  rw [Nat.mul_one, Nat.add_comm] at this
  exact this
theorem rd_chain {T : List Nat} (c : Chain ts T) (b : BackAt ts T) (i : Nat) {n : Nat} (h0 : 0 < n) : Chain ts (rd T i n) := by
  refine ⟨by rw [rd_len]; exact h0, fun x hx => ?_, fun k hk => ?_⟩
  · obtain ⟨k, hk⟩ := List.getElem?_of_mem hx
    have hl := (List.getElem?_eq_some_iff.mp hk).1
    rw [rd_len] at hl
    rw [rd_get _ _ _ _ hl] at hk
    rw [← Option.some.inj hk]
    exact c.num _ (gt_memb c.n0 (i + k))
  · rw [rd_len] at hk
    obtain ⟨e, f, r1, r2, r3⟩ := round_on c b (i + k)
    exact ⟨_, _, e, f, rd_get _ _ _ _ (by omega), rd_get _ _ _ _ hk, r1, r2, r3⟩
theorem lck_heldW {T S : List Nat} (h0 : 0 < W.length) (hT : Lck ts W T) (hS : ∀ x ∈ S, x ∈ T) : HeldW ts W S := by
  have hm := hT.c.n0
  by_cases h1 : W.length = 1
  · refine heldW_of (u := fun i => [(ts.getD (gt T i) (0, 0)).1]) (lab := fun i => gt T i) (m := T.length) hm (fun i => ?_) ?_ fun x hx => ?_
    · obtain ⟨e, f, r1, r2, r3⟩ := round_on hT.c hT.b i
      refine (winZ_one h1).mpr ⟨hT.c.num _ (gt_memb hm i), fun z => hT.no i fun k hk => ?_, rfl, ?_⟩
      · rw [show k = 0 by omega]; exact z
      · rw [show ts.getD (gt T (i + 1)) (0, 0) = f by rw [List.getD_eq_getElem?_getD, r2]; rfl, show ts.getD (gt T i) (0, 0) = e by rw [List.getD_eq_getElem?_getD, r1]; rfl, r3]
    · show [(ts.getD (gt T T.length) (0, 0)).1] = [(ts.getD (gt T 0) (0, 0)).1]
      rw [show gt T T.length = gt T 0 from gt_round 0]
    · obtain ⟨i, hi⟩ := List.getElem?_of_mem (hS x hx)
      exact ⟨i, (List.getElem?_eq_some_iff.mp hi).1, gt_of hi⟩
  · have hW : 1 < W.length := by omega
    refine heldW_of (u := fun i => rd T i (W.length - 1)) (lab := fun i => gt T (i + (W.length - 1))) (m := T.length) hm (fun i => ?_) ?_ fun x hx => ?_
    · have er : rd T i (W.length - 1) ++ [gt T (i + (W.length - 1))] = rd T i W.length := by
        rw [show W.length = (W.length - 1) + 1 by omega, rd_succ]
        rfl
      refine (winZ_more hW).mpr ⟨?_, by rw [rd_len]; omega, ?_, ?_⟩
      · rw [er]
        exact rd_chain hT.c hT.b i h0
      · rw [er]
        intro e
        refine hT.no i fun k hk => ?_
        have h2 := rd_get T i W.length k hk
        rw [e] at h2
        rw [List.getD_eq_getElem?_getD, h2]
        rfl
      · rw [er, show W.length = (W.length - 1) + 1 by omega, rd_cons]
        rfl
    · refine rd_congr fun j _ => ?_
      rw [gt_round, Nat.zero_add]
    · obtain ⟨i, hi⟩ := List.getElem?_of_mem (hS x hx)
      have hil := (List.getElem?_eq_some_iff.mp hi).1
      have hd := Nat.div_add_mod (W.length - 1) T.length
      have hr := Nat.mod_lt (W.length - 1) hm
      obtain ⟨r, er⟩ : ∃ r, r = (W.length - 1) % T.length := ⟨_, rfl⟩
      have key : ∀ j, gt T (j + (W.length - 1)) = gt T (j + r) := fun j => by
        rw [← hd, er, Nat.add_comm (T.length * _), ← Nat.add_assoc, gt_add]
      by_cases c : r ≤ i
      · exact ⟨i - r, by omega, by rw [key, show i - r + r = i by omega, gt_of hi]⟩
      · refine ⟨T.length + i - r, by omega, ?_⟩
        rw [key, show T.length + i - r + r = T.length + i by omega, gt_round, gt_of hi]
theorem heldW_iff {S : List Nat} (ho : OkWeb N ts) (hW : Chain ts W) (hS : S ≠ []) : HeldW ts W S ↔ HeldP ts W N S :=
  ⟨fun h => by
    obtain ⟨T, h1, h2⟩ := heldW_lck hW.n0 hS h
    exact lck_held ho hW h1 h2, fun h => by
    obtain ⟨T, h1, h2⟩ := held_lck hW.n0 hS h
    exact lck_heldW hW.n0 h1 h2⟩
theorem notSure_lck (ho : OkWeb N ts) (hW : Chain ts W) (hm : 0 < ts.length) : NotSure ts W N ↔ ∃ T, Lck ts W T ∧ ∀ x, x < ts.length → x ∈ T := by
  have hne : List.range ts.length ≠ [] := fun z => by
    have := congrArg List.length z
    rw [List.length_range] at this
    exact absurd this (Nat.ne_of_gt hm)
  rw [notSure_held]
  constructor
  · intro h
    obtain ⟨T, h1, h2⟩ := held_lck hW.n0 hne h
    exact ⟨T, h1, fun x hx => h2 x (List.mem_range.mpr hx)⟩
  · rintro ⟨T, h1, h2⟩
    exact lck_held ho hW h1 fun x hx => h2 x (List.mem_range.mp hx)
end
end My
set_option maxHeartbeats 4000000
namespace My
open PySem L2 PyProof.Rows
section
variable {N : Nat} {ts : List (Nat × Nat)} {W : List Nat}
/-- the number that a step of a lot bears -/
def lbZ (Z : List (Nat × Nat × Nat)) (i : Nat) : Nat := (Z.getD i (0, 0, 0)).2.2
theorem ends_lb {Z : List (Nat × Nat × Nat)} {i u v : Nat} (h : (endsOf Z)[i]? = some (u, v)) : Z[i]? = some (u, v, lbZ Z i) := by
  unfold endsOf at h
  rw [List.getElem?_map] at h
  unfold lbZ
  rw [List.getD_eq_getElem?_getD]
  cases e : Z[i]? with
  | none => rw [e] at h; cases h
  | some z =>
    rw [e] at h
    cases h
    rfl
theorem lb_at {Z : List (Nat × Nat × Nat)} {i : Nat} {z : Nat × Nat × Nat} (h : Z[i]? = some z) : lbZ Z i = z.2.2 := by
  unfold lbZ
  rw [List.getD_eq_getElem?_getD, h]
  rfl
theorem ends_len (Z : List (Nat × Nat × Nat)) : (endsOf Z).length = Z.length := List.length_map ..
theorem lot_path {Z : List (Nat × Nat × Nat)} (ho : OkWeb N ts) (h0 : 0 < W.length) (hZ : ∀ y ∈ Z, y ∈ prodZ N ts W) {j : Nat} : ∀ {R : List Nat} {s : Nat × Nat}, s ∈ std0 N ts W → PathT (endsOf Z) (ixS N ts W s) j R → ∃ u ∈ std0 N ts W, j = ixS N ts W u ∧ Run ts W s (R.map (lbZ Z)) u
  | [], s, hs, h => ⟨s, hs, h.symm, rfl⟩
  | x :: r, s, hs, ⟨w, h1, h2⟩ => by
    obtain ⟨s', x', u, a1, a2, e⟩ := prodZ_step.mp (hZ _ (List.mem_of_getElem? (ends_lb h1)))
    have e1 := congrArg Prod.fst e
    have e2 := congrArg (fun z => z.2.1) e
    have e3 := congrArg (fun z => z.2.2) e
    have := ixS_inj hs a1 e1
    subst this
    replace e2 : w = ixS N ts W u := e2
    subst e2
    obtain ⟨v, b1, b2, b3⟩ := lot_path ho h0 hZ (stp_in ho h0 a1 a2) h2
    refine ⟨v, b1, b2, u, ?_, b3⟩
    rw [show lbZ Z x = x' from e3]
    exact a2
/-- within a lot all come to each other by its own steps -/
theorem lot_rch {E : Nat → Nat → Prop} {Z : List (Nat × Nat × Nat)} {M h : Nat} (hE : ∀ a b, E a b ↔ Ed (endsOf Z) a b) (hM : ∀ a b, E a b → a < M ∧ b < M) {a b : Nat} (ha : Mut E h a) (haM : a < M) (hb : Rch E b h) (r : Rch E a b) : Rch (Ed (endsOf (inLot E M Z h))) a b := by
  obtain ⟨k, r⟩ := r
  induction r with
  | nil => exact rch_refl _
  | snoc r e ih =>
    rename_i n a v w
    have hv := rch_trans (rch_one e) hb
    have hav : Rch E a v := ⟨_, r⟩
    refine rch_trans (ih ha haM hv) (rch_one ?_)
    obtain ⟨x, hx⟩ := ed_ends.mp ((hE v w).mp e)
    have hh := hM v w e
    refine ed_ends.mpr ⟨x, List.mem_filter.mpr ⟨hx, decide_eq_true ⟨clsL_mem.mpr ⟨hh.1, rch_trans ha.1 hav, hv⟩, clsL_mem.mpr ⟨hh.2, rch_trans (rch_trans ha.1 hav) (rch_one e), hb⟩⟩⟩⟩
end
section
variable {P : Program} {w : World} {K : PySem.W.Frag} {mg : Str → Option Value} {base : Heap} {C : Addr}
def spis_sure_plain (_ : PySem.W.Frag) (C : Addr) : Sp := fun vs H Q _ => ∃ a N ts s W, vs = [.ref a, .ref s] ∧ WebAt C a N ts H ∧ OkWeb N ts ∧ closedB N ts = true ∧ SeqAt H s W ∧ Chain ts W ∧ N + W.length ≤ 61 ∧ W.length * ts.length ≤ 80 ∧ ts.length ≤ 60 ∧ ∀ b H', (b = true ↔ ¬ NotSure ts W N) → Same H H' → Q (.bl b) H'
theorem okis_sure_plain (D : Def K mg "is_sure_plain" sis_sure_plain ["web", "walk"]) (B : Bs mg) (Glb : Glo mg) (WK : WebK K mg C)
    (hparts_without : Good P w K mg base "parts_without" sparts_without ["web", "walk"] 13 (spparts_without K C))
    (hWeb_many : GoodP P w K mg base C "many" "Web.many" sWeb_many ["self"] 1 (spWeb_many K C)) :
    Good P w K mg base "is_sure_plain" sis_sure_plain ["web", "walk"] 14 (spis_sure_plain K C) := by
  refine D.good fun f fd F => ?_
  obtain ⟨fparts_without, dparts_without, Oparts_without, mparts_without, kparts_without, bparts_without, Fparts_without⟩ := hparts_without
  obtain ⟨qWeb_many, fWeb_many, dWeb_many, OWeb_many, pWeb_many, bWeb_many⟩ := hWeb_many
  refine F.ok scis_sure_plain (fun vs H Q E h => ?_) (fun cdv A outer s H vs Q E hr h => ?_)
  · obtain ⟨a, N, ts, s, W, rfl, hw, ho, hcl, hs, hW, hNW, hZ, hm, q⟩ := h
    first | rfl | (rcases h with ⟨_, _, rfl, _⟩ | ⟨_, rfl, _⟩ <;> rfl)
  obtain ⟨a, N, ts, s, W, rfl, hw, ho, hcl, hs, hW, hNW, hZ, hm, q⟩ := h
  refine ⟨_, (pss_one (ps_ret (pe_callB (cr_all rfl) (by rfl) B.all (by decide +kernel) (pa_cons (pe_lc (own := [("_", 2), ("ties", 3)]) (g := gTup K 2 (gCons (gName 2) (gCons (gName 3) gNil))) (by rfl) scis_sure_plain.nd (pi_list (pe_call Oparts_without hr rfl mparts_without kparts_without bparts_without .nil pass0 (pa_cons (pv 0) (pa_cons (pv 1) pa_nil)))) (blkOk_by (own := [("_", 2), ("ties", 3)]) (N := ["web", "walk", "_", "ties"]) (sc := defScope sis_sure_plain) (by decide +kernel)) (fun _ _ _ _ _ => (pg_tup rfl (pgs_cons (pg_name (i := 2) scis_sure_plain.nd rfl (by first | exact Or.inl rfl | exact Or.inr rfl)) (pgs_cons (pg_name (i := 3) scis_sure_plain.nd rfl (by first | exact Or.inl rfl | exact Or.inr rfl)) pgs_nil)))) (fun _ _ _ _ _ => pts_nil) (fun _ _ _ _ _ => (pe_cmpR op_lt (pe_callB (call_len_seqK (K := K) rfl) (by rfl) B.len (by decide +kernel) (pa_cons (pv 3) pa_nil)) (pe_prop (pv 0) WK.cl pWeb_many OWeb_many (hr.mono (by decide)) bWeb_many .nil pass0 (by rfl)) (nomark _)))) pa_nil)))), ?_⟩
  have hm0 : 0 < ts.length := Nat.lt_of_le_of_lt (Nat.zero_le _) (hW.num _ (List.getElem_mem hW.n0))
  refine ⟨_, rfl, _, rfl, a, N, ts, s, W, rfl, hw, ho, hcl, hs, hW, hNW, hZ, hm, fun H1 p us np hS1 hp hP => ?_⟩
  have hlen := paired_len hP
  have hll : (lotsT N ts W).length ≤ 61 := by
    unfold lotsT lotsW lotHeads
    rw [List.length_map, List.length_map]
    refine Nat.le_trans (List.length_filter_le _ _) (Nat.le_trans (nodup_len headsL_rising fun x hx => (headsL_mem.mp hx).1) ?_)
    rw [prodS_len]
    omega
  refine ⟨p, rfl, ⟨_, SqL.of hp⟩, fun D nD => ?_⟩
  refine lc_list (K := K) (a := p) (xs := us.map V.ref) (fun i H' => Same H1 H' ∧ H' D = some (.lst ((((lotsT N ts W).take i).map fun e => decide (e.2.length < ts.length)).map V.bl))) ⟨same_new nD _, upd_same⟩ (fun i H' _ ⟨hS', _⟩ => SqL.of (hS' _ _ hp)) ?_ ?_
  · rintro i x H2 hx ⟨hS2, hD2⟩
    obtain ⟨pe, e, rfl, _, he, l, t, g1, g2, g3⟩ := paired_at hP hx
    obtain ⟨dx, tl, fl, ol, k1, _⟩ := id (hw.same (hS1.trans hS2))
    refine ⟨pe, _, rfl, SqT.of (hS2 _ _ g1), rfl, _, _, rfl, _, _, rfl, rfl, rfl, _, rfl, t, _, rfl, .inl (SqL.of (hS2 _ _ g3)), _, rfl, a, dx, _, rfl, k1, a, N, ts, rfl, hw.same (hS1.trans hS2), _, _, rfl, rfl, ?_⟩
    refine ⟨_, hD2, ?_, same_upd hS2 nD, ?_⟩
    · rw [List.length_map, List.length_map, List.length_take]
      exact sml1000 (by omega)
    · rw [upd_same, List.take_succ, he, Option.toList_some, List.map_append, List.map_append]
      show some (HO.lst (_ ++ [V.bl (decide (((iv e.2).length : Int) < (ts.length : Int)))])) = some (HO.lst (_ ++ [V.bl (decide (e.2.length < ts.length))]))
      rw [iv_length, show decide ((e.2.length : Int) < (ts.length : Int)) = decide (e.2.length < ts.length) from decide_eq_decide.mpr (by omega)]
  rintro H2 ⟨hS2, hD2⟩
  rw [List.length_map, hlen, List.take_length] at hD2
  refine ⟨D, _, rfl, SqL.of hD2, ?_⟩
  refine q _ H2 ?_ (hS1.trans hS2)
  rw [List.all_map, List.all_eq_true, ← lotsT_notSure ho hW hm0]
  constructor
  · rintro h ⟨e, he, h2⟩
    have := of_decide_eq_true (h e he)
    omega
  · intro h e he
    have h1 := lotsT_le he
    exact decide_eq_true (Nat.lt_of_le_of_ne h1 fun z => h ⟨e, he, z⟩)
end
end My
set_option maxHeartbeats 4000000
namespace My
open PySem PySem.Spec PyProof.Rows L2
/-! set(xs), xs a list of tuples of whole numbers, however often each stands in it: fewer than 63 unlike ones -/
abbrev AK := Addr × List Int
def FewK (ks : List AK) : Prop := ∀ L : List AK, (L.map (·.2)).Nodup → (∀ p ∈ L, p ∈ ks) → L.length < 63
section
variable {prog : Program} {w : World} {A : Around} {E : Value → Shared → Prop} {s : Shared}
theorem tups_loop {I S : Addr} {fp wr : List Addr} {G : Array GenState → Array GenState → Prop} {n : Nat} {Pv : Nat → Value → Prop} {St : Nat → Shared → Prop} {R : Result → Shared → Prop} {ks : List AK} {hb : Heap}
    (Wk : WalksS prog w A.in1 I fp wr G n Pv St) (nS : S ∉ fp) (en : ks.length = n) (few : FewK ks)
    (pick : ∀ i v, Pv i v → ∃ p, v = .ref p.1 ∧ ks[i]? = some p) (tups : ∀ p ∈ ks, IsT prog w hb p.2 p.1) (fS : hb.get? S = none) (fW : ∀ b ∈ wr, hb.get? b = none) (room : A.in1.units < cLine) :
    ∀ (left i : Nat) (s : Shared), i + left = n → St i s → (∀ b o, hb.get? b = some o → s.heap.get? b = some o) → (∃ L es ep t, L2.Got ks i L ∧ SetTR prog w s.heap S L es ep t) →
      (∀ s' L es ep t, L2.Got ks n L → SetTR prog w s'.heap S L es ep t → Moved (S :: wr) G s s' → (∀ b o, hb.get? b = some o → s'.heap.get? b = some o) → R (.ok (.ret .none)) s') →
      codeAny (model prog w) A (.builtin "set.update.loop" ⟨[.ref S, .ref I], []⟩) R s := by
  have nSw : S ∉ wr := fun h => nS (Wk.sub _ h)
  have up : ∀ b ∈ wr, b ∈ S :: wr := fun b h => List.mem_cons_of_mem _ h
  have stays : ∀ {s s' : Shared}, Moved wr G s s' → (∀ b o, hb.get? b = some o → s.heap.get? b = some o) → ∀ b o, hb.get? b = some o → s'.heap.get? b = some o := fun hm old b o e =>
    hm.heap b o (fun h => by rw [fW b h] at e; cases e) (old b o e)
  have inks : ∀ {i : Nat} {L : List AK}, L2.Got ks i L → ∀ p ∈ L, p ∈ ks := fun g p h => List.mem_of_mem_take (g.sub p h)
  intro left
  induction left with
  | zero =>
    rintro i s el hst old ⟨L, es, ep, t, g, hS⟩ fin
    have ei : i = n := el
    subst ei
    refine codeAny_builtin F.entry_set_update_loop ?_
    rw [Around.under_plainId F.plain_set_update_loop _]
    show wpAny _ A.in1 (pyNext (.ref I) >>= _) _ _ s
    refine wpAny_bind (Wk.done s _ _ hst fun s' hm => ?_)
    have old' := stays hm old
    show wpAny _ A.in1 (ret Value.none) _ _ s'
    refine wpAny_pure (fin s' L es ep t g ?_ (hm.mono up) old')
    exact hS.keep (fun o e => hm.heap S o nSw e) fun p h => isT_keep (tups p (inks g p h)) old'
  | succ left ih =>
    rintro i s el hst old ⟨L, es, ep, t, g, hS⟩ fin
    refine codeAny_builtin F.entry_set_update_loop ?_
    rw [Around.under_plainId F.plain_set_update_loop _]
    show wpAny _ A.in1 (pyNext (.ref I) >>= _) _ _ s
    refine wpAny_bind (Wk.item i s _ _ (by omega) hst fun v s' hP hst' hm => ?_)
    obtain ⟨p, rfl, hp⟩ := pick i v hP
    have old' := stays hm old
    have hS1 : SetTR prog w s'.heap S L es ep t := hS.keep (fun o e => hm.heap S o nSw e) fun q h => isT_keep (tups q (inks g q h)) old'
    have hx : IsT prog w s'.heap p.2 p.1 := isT_keep (tups p (List.mem_of_getElem? hp)) old'
    show wpAny _ A.in1 (holding [Value.ref p.1] (setAdd S (.ref p.1)) >>= _) _ _ s'
    refine wpAny_bind (wpAny_holding ?_)
    unfold setAdd
    refine wpAny_holding (wpAny_bind (wpAny_pyHash_tuple room hx ?_))
    have hfew := few L hS1.nd (inks g)
    refine add_at (s := { s' with toks := s'.toks + (p.2.length + 1) }) hS1 hx room (by omega) fun b h' L' es' ep' t' sb hS2 c1 c2 => ?_
    have g2 : L2.Got ks (i + 1) L' := by
      by_cases c : p.2 ∈ L.map (·.2)
      · rw [c1 c]
        exact g.same hp c
      · exact g.more hp (c2 c)
    have old2 : ∀ b o, hb.get? b = some o → h'.get? b = some o := fun b o e => by
      rw [sb.2 b fun z => by rw [z, fS] at e; cases e]
      exact old' b o e
    have hst2 := Wk.frame _ s' h' (s'.toks + (p.2.length + 1)) hst' (Nat.le_add_right _ _) fun b hb' o e => by
      show h'.get? b = _
      rw [sb.2 b fun z => nS (z ▸ hb')]
      exact e
    refine wpAny_pure ⟨plainId_quiet F.plain_set_update_loop _, ih (i + 1) _ (by omega) hst2 old2 ⟨L', es', ep', t', g2, hS2⟩ fun s2 L2 es2 ep2 t2 g3 hS3 hm2 old3 => ?_⟩
    refine fin s2 L2 es2 ep2 t2 g3 hS3 (Moved.trans Wk.gtrans ((hm.mono up).then_heap (Nat.le_add_right _ _) fun b o hb' e => ?_) hm2) old3
    rw [sb.2 b fun z => hb' (z ▸ List.mem_cons_self)]
    exact e
theorem set_of_tups {q : Addr} {ys : Array Value} {ks : List AK} {Q : Value → Shared → Prop}
    (calm : A.handled = none) (hq : s.heap.IsList q ys) (hx : ys.toList = ks.map fun p => Value.ref p.1) (tups : ∀ p ∈ ks, IsT prog w s.heap p.2 p.1) (few : FewK ks) (room : A.units + 3 < cLine)
    (k : ∀ (h' : Heap) (tk : Nat) L es ep t, L2.Got ks ks.length L → SetTR prog w h' s.heap.objs.size L es ep t →
      (∀ b o, s.heap.get? b = some o → h'.get? b = some o) → Q (.ref s.heap.objs.size) { s with heap := h', toks := tk }) :
    wpAny (model prog w) A (call (.type "set") [.ref q]) Q E s := by
  obtain ⟨c, tl, hmro⟩ := PySem.F.called_set.mro
  have hmade := PySem.F.called_set.made
  have hsub := PySem.F.called_set.sub
  refine wpAny_call (codeAny_of_tree ?_)
  show wpAny _ _ (callAny (.type "set") _) _ _ _
  refine wpAny_pure ⟨Code.quiet_builtin _ (by decide +kernel), codeAny_builtin PySem.F.entry_type_call ?_⟩
  rw [Around.under_plain (weight_type_call_type "set" [.ref q] []) rfl]
  have h1 := PySem.F.called_set.notType
  have h2 := PySem.F.called_set.canCreate
  have hct := PySem.F.typeCall_set_1 (.ref q)
  repeat (any_goals (first | assumption | wp_step))
  obtain ⟨nw, enw⟩ : ∃ nw : Obj, nw = { cls := .type "set", dict := none, data := .set #[] 0 (.fresh 0 0 (!w.params.followText "set-order")) } := ⟨_, rfl⟩
  refine codeAny_mono (code_set_led1 (.ref q) (E := E) (Q₁ := fun obj s₁ => obj = .ref s.heap.objs.size ∧ s₁ = { s with heap := s.heap.push nw }) ⟨rfl, by rw [enw]⟩) fun r s₁ hr => ?_
  cases r with
  | error e => exact hr
  | ok fl =>
    cases fl with
    | ret obj =>
      obtain ⟨rfl, rfl⟩ := hr
      have hS : (s.heap.push nw).get? s.heap.objs.size = some nw := Heap.get?_push_size _ (by rw [enw]; rfl)
      have hT : Shared.TypeIs { s with heap := s.heap.push nw } (.ref s.heap.objs.size) "set" := ⟨_, hS, by rw [enw]⟩
      have hli := PySem.F.called_set.init.lookup
      have hbi := PySem.F.called_set.init.bind (.ref s.heap.objs.size)
      repeat (any_goals (first | assumption | wp_step))
      refine codeAny_mono (codeAny_call_builtin (R := wants (fun r s₂ => r = .none ∧ ∃ h' tk L es ep t, s₂ = { s with heap := h', toks := tk } ∧ L2.Got ks ks.length L ∧
          SetTR prog w h' s.heap.objs.size L es ep t ∧
          (∀ b o, s.heap.get? b = some o → h'.get? b = some o)) E) PySem.F.called_set.init.plain PySem.F.entry_set_init (check_set_init_1 hT ?_)) fun r₂ s₂ hr₂ => ?_
      · have push : ∀ b o, s.heap.get? b = some o → (s.heap.push nw).get? b = some o := fun b o e => Heap.get?_push_of_some _ e
        have isl : ∀ od nl sl, (s.heap.push nw).get? q = some { cls := .type "list", dict := od, data := .seq ys nl, slots := sl } → (s.heap.push nw).IsList q ys := fun _ nl _ e => ⟨_, e, rfl, nl, rfl⟩
        subst enw
        obtain ⟨ol, hol, hcl, nl, hdl⟩ := hq
        obtain ⟨ocls, odict, odata, oslots⟩ := ol
        simp only at hcl hdl
        subst hcl; subst hdl
        have hol' := push _ _ hol
        have hsls := PySem.F.sub_list_set
        have hslf := PySem.F.sub_list_frozenset
        have hne : (Value.type "list" == Value.type "dict") = false := by decide
        have hl1 := isl _ _ _ hol'
        unfold Builtin.«set.__init__» noKeywords Builtin.Frozenset.updateFrom
        generalize hPI : pyIter = PI
        wp_walk
        subst hPI
        refine wpAny_pyIter_list hl1 ?_
        refine wpAny_bind (wpAny_runValue ?_)
        have qS : q < s.heap.objs.size := Heap.lt_size hol
        have calm3 : A.in1.in1.in1.handled = none := by simp [calm]
        have z1 : ∀ o : Obj, (s.heap.push o).objs.size = s.heap.objs.size + 1 := fun o => Heap.size_push ..
        have qI : q ≠ s.heap.objs.size + 1 := by
          exact Nat.ne_of_lt (Nat.lt_succ_of_lt qS)
        have away : s.heap.objs.size ∉ [s.heap.objs.size + 1, q] := by
          simp only [List.mem_cons, List.mem_singleton, List.not_mem_nil, or_false, not_or]
          exact ⟨Nat.ne_of_lt (Nat.lt_succ_self _), Nat.ne_of_gt qS⟩
        have sz : ks.length = ys.size := by
          have e := congrArg List.length hx
          rw [Array.length_toList, List.length_map] at e
          exact e.symm
        have rd : ∀ (i : Nat) (v : Value), ys[i]? = some v → ∃ p, v = .ref p.1 ∧ ks[i]? = some p := fun i v hv => by
          have e : (ks.map fun p => Value.ref p.1)[i]? = some v := by rw [← hx, Array.getElem?_toList]; exact hv
          rw [List.getElem?_map] at e
          cases ek : ks[i]? with
          | none => rw [ek] at e; cases e
          | some p =>
            rw [ek] at e
            exact ⟨p, (Option.some.inj e).symm, rfl⟩
        have gone : ∀ b, s.heap.objs.size ≤ b → s.heap.get? b = none := fun b hb => by
          cases e : s.heap.get? b with
          | none => rfl
          | some o =>
            exact absurd (Heap.lt_size e) (Nat.not_lt_of_le hb)
        refine tups_loop (hb := s.heap) ((Walks.list calm3 _ q (by rw [z1]; exact qI) ys).toS) (by rw [z1]; exact away) sz few rd tups (gone _ (Nat.le_refl _)) (fun b hb => gone b ?_) room ys.size 0 _ (by omega)
          ⟨⟨_, Heap.get?_push_size _ (by rfl), rfl, rfl⟩, (hl1.push _)⟩ (fun b o e => Heap.get?_push_of_some _ (Heap.get?_push_of_some _ e)) ?start ?end_
        · rw [List.mem_singleton.mp hb, z1]
          exact Nat.le_succ _
        case start =>
          refine ⟨[], #[], 0, _, L2.Got.zero ks, setTR_fresh (Heap.get?_push_of_some _ hS)⟩
        case end_ =>
          intro s' L es ep t g hS' hm old
          obtain ⟨h', g', d', tk', os'⟩ := s'
          cases (show g' = s.gens from hm.gens)
          cases (show d' = s.drawn from hm.drawn)
          cases (show os' = s.os from hm.os)
          show wpAny _ _ _ _ _ _
          refine wpAny_pure ?_
          show wpAny _ _ (ret Value.none) _ _ _
          rw [← sz] at g
          exact wpAny_pure ⟨rfl, h', tk', L, es, ep, t, rfl, g, hS', old⟩
      · cases r₂ with
        | error e => exact hr₂
        | ok fl₂ =>
          cases fl₂ with
          | ret r =>
            obtain ⟨rfl, h', tk, L, es, ep, t, rfl, g, hS', old⟩ := hr₂
            repeat (any_goals (first | assumption | wp_step))
            exact k _ _ L es ep t g hS' old
          | _ => exact hr₂.elim
    | _ => exact hr.elim
end
section
variable {X : Cx}
def rSetTf (K : PySem.W.Frag) (P : Program) (w : World) : List V → Hp → VK → Prop := fun vs H Q => ∃ (l : Addr) (ks : List AK), vs = [V.ref l] ∧ SqL K H l (ks.map fun p => V.ref p.1) ∧ (∀ p ∈ ks, SqT K H p.1 (p.2.map V.int)) ∧ FewK ks ∧
  ∀ a L, H a = none → (∀ p ∈ L, p ∈ ks) → (∀ p ∈ ks, p.2 ∈ L.map (·.2)) → Q (.ref a) (upd H a (SetTO P w a L))
theorem cr_setTf (hc : X.calm = true) (hu : X.A.units + 64 < cLine) : CallR X (.type "set") (rSetTf X.K X.prog X.w) := by
  intro pins s σ H vs us Q I r h
  obtain ⟨l, ks, rfl, hl, hk, few, q⟩ := h
  rw [Vals.ref1 r]
  obtain ⟨its, rv, pl, _⟩ := I.list hl
  refine set_of_tups (prog := X.prog) (w := X.w) (I.ok.hd hc) pl.isList (by simpa using refs_of_vals rv) (fun p hp => I.isT (hk p hp)) few (by omega) fun h' tk L es ep t g R k => ?_
  refine ⟨.ref s.heap.objs.size, upd H s.heap.objs.size (SetTO X.prog X.w s.heap.objs.size L), I.laid (t' := tk) k (Nat.le_refl _) (setTO_new R.t0), rfl, ?_⟩
  exact q _ L (I.hok.fresh (Nat.le_refl _)) (fun p hp => List.mem_of_mem_take (g.sub p hp)) fun p hp => g.all p (by rw [List.take_length]; exact hp)
end
end My
/-! dict(xs), xs a list of pairs whose keys are tuples of numbers and texts -/
namespace My
open PySem PySem.Spec PyProof.Rows L2
section
variable {X : Cx}
/-- key, the key's tuple, value -/
abbrev Ent := List Key × Addr × V
def EntAt (H : Hp) (p : Addr) (e : Ent) : Prop := H p = some (.tup [.ref e.2.1, e.2.2]) ∧ H e.2.1 = some (.tup (e.1.map kV))
def mergeT (acc : List (List Key × V)) (es : List Ent) : List (List Key × V) := es.foldl (fun acc e => putK acc e.1 e.2.2) acc
theorem mergeT_len : ∀ (es : List Ent) (acc : List (List Key × V)), (mergeT acc es).length ≤ acc.length + es.length
  | [], _ => Nat.le_refl _
  | e :: r, acc => by
    have h1 := mergeT_len r (putK acc e.1 e.2.2)
    have h2 := length_putK acc e.1 e.2.2
    show (mergeT (putK acc e.1 e.2.2) r).length ≤ _
    rw [List.length_cons]
    omega
theorem ents_of {pins : List (Addr × Obj)} {σ : L2.St} {H : Hp} {s : Shared} (I : Inv X pins σ H s) : ∀ {ps : List Addr} {es : List Ent}, Paired (EntAt H) ps es →
    ∃ rs : List (List Key × Addr × Value), rs.length = ps.length ∧ Paired (fun (e : Ent) (r : List Key × Addr × Value) => e.1 = r.1 ∧ e.2.1 = r.2.1 ∧ RelV e.2.2 r.2.2 ∧ H e.2.1 = some (.tup (e.1.map kV))) es rs ∧ ∀ (j : Nat) r, rs[j]? = some r → ∃ b : Addr, ps[j]? = some b ∧ IsTup s.heap b #[.ref r.2.1, r.2.2]
  | _, _, .nil => ⟨[], rfl, .nil, fun j r h => by simp at h⟩
  | _, _, .cons (a := p) (b := e) h t => by
    obtain ⟨rs, l1, l2, l3⟩ := ents_of I t
    obtain ⟨its, rv, ht, _⟩ := I.tuple (SqT.of (K := X.K) h.1)
    obtain ⟨u, y, ei, ru, ry⟩ := vals2 rv
    subst ei
    cases ru
    refine ⟨(e.1, e.2.1, y) :: rs, by rw [List.length_cons, List.length_cons, l1], .cons ⟨rfl, rfl, ry, h.2⟩ l2, fun j r hr => ?_⟩
    cases j with
    | zero =>
      cases (show (e.1, e.2.1, y) = r from Option.some.inj hr)
      exact ⟨p, rfl, ht⟩
    | succ j =>
      obtain ⟨b, e1, e2⟩ := l3 j r (by simpa using hr)
      exact ⟨b, by simpa using e1, e2⟩
theorem kt_merge {H : Hp} : ∀ {es : List Ent} {rs : List (List Key × Addr × Value)} {acc : List (List Key × V)} {xs : List (List Key × Addr × Value)}, Paired (fun (e : Ent) (r : List Key × Addr × Value) => e.1 = r.1 ∧ e.2.1 = r.2.1 ∧ RelV e.2.2 r.2.2 ∧ H e.2.1 = some (.tup (e.1.map kV))) es rs → KT H acc xs → KT H (mergeT acc es) (PySem.storedAllH xs rs)
  | _, _, _, _, .nil, q => q
  | e :: es, r :: rs, acc, xs, .cons h t, q => by
    have h4 := h.2.2.2
    rw [h.2.1] at h4
    have := q.put e.1 h4 h.2.2.1
    rw [h.1] at this
    refine kt_merge (es := es) (rs := rs) t ?_
    show KT H (putK acc e.1 e.2.2) (storedH xs r.1 r.2.1 r.2.2)
    rw [h.1]
    exact this
theorem call_dictT (hc : X.calm = true) (hu : X.A.units + 64 < cLine) : CallR X (.type "dict") (fun xs H Q => ∃ (a : Addr) (ps : List Addr) (es : List Ent), xs = [.ref a] ∧ SqL X.K H a (ps.map V.ref) ∧ Paired (EntAt H) ps es ∧ ∀ p, H p = none → Q (.ref p) (upd H p (.dT (mergeT [] es)))) := by
  intro pins s σ H xs us Q I r q
  obtain ⟨a, ps, es, ex, hq, hp, q⟩ := q
  subst ex
  obtain ⟨u, eu, rx⟩ := vals1 r
  subst eu
  cases rx
  obtain ⟨its, rv, ⟨o, n, ho, hcl, hd, hdat⟩, hz⟩ := I.list hq
  have ei := refs_at rv
  subst ei
  rw [List.length_map] at hz
  obtain ⟨rs, l1, l2, l3⟩ := ents_of I hp
  have P := PySem.PairArg.list (prog := X.prog) (w := X.w) a (ps.map Value.ref).toArray (fun j => ps.getD j 0) (rs.map fun r => (Value.ref r.2.1, r.2.2))
  have hkt := kt_merge (acc := []) (xs := []) l2 .nil
  refine PySem.call_dict_pairsH (knd := tupleKind (mixKind X.prog X.w)) (ps := rs) P (I.ok.hd hc) (show X.A.units + 2 < cLine by omega) ⟨⟨o, n, ho, hcl, hd, hdat⟩, by simp [l1], fun j k v e => ?_⟩ ⟨by rw [List.length_map], fun i key v e => ?_⟩ (fun h' hk x hx => ?_) (by rw [List.length_map, l1]; exact hz) fun h' tk hd' hk => ?_
  · rw [List.getElem?_map] at e
    cases er : rs[j]? with
    | none => rw [er] at e; cases e
    | some r =>
      rw [er] at e
      cases e
      obtain ⟨b, e1, e2⟩ := l3 j r er
      have eb : ps.getD j 0 = b := by rw [List.getD_eq_getElem?_getD, e1]; rfl
      refine ⟨by simp [e1], ?_⟩
      show PairAt s.heap (ps.getD j 0) _ _
      rw [eb]
      obtain ⟨ob, h1, h2, nb, h3⟩ := e2
      exact .inl ⟨ob, h1, h2, nb, h3⟩
  · have e : (rs.map fun r => (Value.ref r.2.1, r.2.2))[i]? = some (key, v) := e
    rw [List.getElem?_map] at e
    cases er : rs[i]? with
    | none => rw [er] at e; cases e
    | some r =>
      rw [er] at e
      cases e
      exact ⟨r.1, r.2.1, rfl, rfl⟩
  · obtain ⟨j, hj⟩ := List.getElem?_of_mem hx
    have : ∀ {es : List Ent} {rs : List (List Key × Addr × Value)} {j : Nat} {x}, Paired (fun (e : Ent) (r : List Key × Addr × Value) => e.1 = r.1 ∧ e.2.1 = r.2.1 ∧ RelV e.2.2 r.2.2 ∧ H e.2.1 = some (.tup (e.1.map kV))) es rs → rs[j]? = some x → H x.2.1 = some (.tup (x.1.map kV)) := by
      intro es rs j x h
      induction h generalizing j with
      | nil => intro h; simp at h
      | cons h t ih =>
        intro hj
        cases j with
        | zero =>
          cases (Option.some.inj hj)
          rw [← h.1, ← h.2.1]
          exact h.2.2.2
        | succ j => exact ih (by simpa using hj)
    obtain ⟨ob, its, nb, k1, k2, k3, k4⟩ := key_of I.hok (this l2 hj)
    exact ⟨ob, its, nb, hk _ _ (Nat.ne_of_lt (Heap.lt_size k1)) (by simp) k1, k2, k3, k4⟩
  · have hm : (s.heap.objs.size == sysModules) = false := beq_eq_false_iff_ne.mpr (Nat.ne_of_gt I.big)
    have hlen : (mergeT [] es).length ≤ sizeLine := by
      refine Nat.le_trans (mergeT_len es []) ?_
      rw [List.length_nil, Nat.zero_add, ← pairedP_len hp]
      exact hz
    obtain ⟨oq, fs, ep, g1, g2, g3, g4, _, g5⟩ := hd'
    have hn := I.hok.fresh (Nat.le_refl s.heap.objs.size)
    refine ⟨.ref s.heap.objs.size, upd H s.heap.objs.size (.dT (mergeT [] es)), I.laid (t' := tk) (fun b o e => hk b o (by simp) e) (Nat.le_refl _) (show ObjOk X.prog X.w _ _ _ (.dT (mergeT [] es)) from ⟨hlen, hm, _, hkt.keeps fun c ys ec => ?_, oq, fs, ep, g1, g2, g3, g4, g5⟩), rfl, q _ hn⟩
    rw [upd_ne (ne_of_none ec hn)]
    exact ec
end
end My
namespace My
open PySem PySem.Spec PyProof.Rows L2
/-! one of two readings -/
section
variable {X : Cx}
theorem pe_either {e : Expr} {w1 w2 : TE} (h1 : PE X e w1) (h2 : PE X e w2) : PE X e (fun σ H Q => w1 σ H Q ∨ w2 σ H Q) :=
  ⟨fun pins s σ H Q I q => q.elim (h1.run pins s σ H Q I) (h2.run pins s σ H Q I)⟩
theorem cr_either {f : Value} {w1 w2 : List V → Hp → VK → Prop} (h1 : CallR X f w1) (h2 : CallR X f w2) : CallR X f (fun vs H Q => w1 vs H Q ∨ w2 vs H Q) := by
  intro pins s σ H vs us Q I r h
  exact h.elim (h1 pins s σ H vs us Q I r) (h2 pins s σ H vs us Q I r)
end
def rDictP (K : PySem.W.Frag) : List V → Hp → VK → Prop := fun xs H Q => ∃ (a : Addr) (ps : List Addr) (kvs : List (Key × V)), xs = [.ref a] ∧ SqL K H a (ps.map V.ref) ∧ Paired (fun p kv => SqT K H p [kV kv.1, kv.2]) ps kvs ∧ ∀ p, H p = none → Q (.ref p) (upd H p (.dK (mergeK [] kvs)))
def rDictT (K : PySem.W.Frag) : List V → Hp → VK → Prop := fun xs H Q => ∃ (a : Addr) (ps : List Addr) (es : List Ent), xs = [.ref a] ∧ SqL K H a (ps.map V.ref) ∧ Paired (EntAt H) ps es ∧ ∀ p, H p = none → Q (.ref p) (upd H p (.dT (mergeT [] es)))
section
variable {X : Cx}
theorem cr_dictP (hc : X.calm = true) : CallR X (.type "dict") (rDictP X.K) := call_dictP hc
theorem cr_dictT (hc : X.calm = true) (hu : X.A.units + 64 < cLine) : CallR X (.type "dict") (rDictT X.K) := call_dictT hc hu
end
end My
set_option maxHeartbeats 4000000
namespace My
open PySem L2 PyProof.Rows
/-- the walks grown so far -/
theorem walksW_take {ts : List (Nat × Nat)} {L : List (List Nat)} {i : Nat} {v : List Nat} (h : L[i]? = some v) : (L.take (i + 1)).flatMap (nextW ts) = (L.take i).flatMap (nextW ts) ++ nextW ts v := by
  rw [List.take_succ, h, Option.toList_some, List.flatMap_append]
  congr 1
  show nextW ts v ++ [] = _
  rw [List.append_nil]
theorem walksW_part {ts : List (Nat × Nat)} {L : List (List Nat)} {i : Nat} : ((L.take i).flatMap (nextW ts)).length ≤ (L.flatMap (nextW ts)).length := by
  have e : L.flatMap (nextW ts) = (L.take i).flatMap (nextW ts) ++ (L.drop i).flatMap (nextW ts) := by
    rw [← List.flatMap_append, List.take_append_drop]
  rw [e, List.length_append]
  omega
theorem frmN_le (ts : List (Nat × Nat)) (p : Nat) : ∀ k j, (frmN ts p j).length ≤ (frmN ts p (j + k)).length
  | 0, j => Nat.le_refl _
  | k + 1, j => by
    refine Nat.le_trans (frmN_le ts p k j) ?_
    show _ ≤ (if (ts[j + k]?.map Prod.fst) = some p then frmN ts p (j + k) ++ [j + k] else frmN ts p (j + k)).length
    split
    · rw [List.length_append]; omega
    · exact Nat.le_refl _
section
variable {P : Program} {w : World} {K : PySem.W.Frag} {mg : Str → Option Value} {base : Heap} {C : Addr}
def sp_law_walks (_ : PySem.W.Frag) (_ : Addr) : Sp := fun vs H Q _ => ∃ t ts m, vs = [.ref t, .int ((m : Nat) : Int)] ∧ TiesAt H t ts ∧ 0 < m ∧ m ≤ 100 ∧ ts.length ≤ 100 ∧ (∀ k, k < m → (walksW ts k).length ≤ 900) ∧ ∀ f H', Same H H' → H f = none → LolAt H' f (walksW ts (m - 1)) → Q (.ref f) H'
theorem ok_law_walks (D : Def K mg "_law_walks" s_law_walks ["_law_ties_here", "_law_many"]) (B : Bs mg) (Glb : Glo mg) (WK : WebK K mg C) :
    Good P w K mg base "_law_walks" s_law_walks ["_law_ties_here", "_law_many"] 1 (sp_law_walks K C) := by
  refine D.good fun f fd F => ?_
  refine F.ok sc_law_walks (fun vs H Q E h => ?_) (fun cdv A outer s H vs Q E hr h => ?_)
  · obtain ⟨t, ts, m, rfl, hT, hm0, hm, htl, hbd, q⟩ := h
    first | rfl | (rcases h with ⟨_, _, rfl, _⟩ | ⟨_, rfl, _⟩ <;> rfl)
  obtain ⟨t, ts, m, rfl, hT, hm0, hm, htl, hbd, q⟩ := h
  refine ⟨_, (pss_cons (ps_setLc (i := 2) (own := [("_law_tie", 6)]) (g := gName 6) (by rfl) sc_law_walks.nd rfl rfl (sw_true rfl rfl rfl (by decide +kernel)) (pi_range1 (by rfl) B.range (pa_cons (pe_callB call_len_seq (by rfl) B.len (by decide +kernel) (pa_cons (pv 0) pa_nil)) pa_nil)) (blkOk_by (own := [("_law_tie", 6)]) (N := ["_law_ties_here", "_law_many", "_law_found", "_law_turn", "_law_longer", "_law_one", "_law_tie"]) (sc := defScope s_law_walks) (by decide +kernel)) (fun _ _ _ _ _ => (pg_name (i := 6) sc_law_walks.nd rfl (by first | exact Or.inl rfl | exact Or.inr rfl))) (fun _ _ _ _ _ => pts_nil) (fun _ _ _ _ _ => (pe_lst (pa_cons (pv 6) pa_nil))))
  (pss_cons (ps_for PassesOwn.never rfl (pi_range1 (by rfl) B.range (pa_cons (pe_op op_sub (pv 1) pe_int) pa_nil)) (pg_name (i := 3) sc_law_walks.nd rfl (by first | exact Or.inl rfl | exact Or.inr rfl))
    (pss_cons (ps_set (i := 4) sc_law_walks.nd rfl (by first | exact Or.inl rfl | exact Or.inr rfl) (pe_lst pa_nil))
  (pss_cons (ps_for PassesOwn.never rfl (pi_list (pv 2)) (pg_name (i := 5) sc_law_walks.nd rfl (by first | exact Or.inl rfl | exact Or.inr rfl))
    (pss_one (ps_for PassesOwn.never rfl (pi_range1 (by rfl) B.range (pa_cons (pe_callB call_len_seq (by rfl) B.len (by decide +kernel) (pa_cons (pv 0) pa_nil)) pa_nil)) (pg_name (i := 6) sc_law_walks.nd rfl (by first | exact Or.inl rfl | exact Or.inr rfl))
    (pss_one (ps_if (pt_cmpR op_eq (pe_ix ix_tup (pe_ix ix_list (pv 0) (pv 6) (fun _ _ => rfl)) pe_int (fun _ _ => rfl)) (pe_ix ix_tup (pe_ix ix_list (pv 0) (pe_ix ix_list (pv 5) (pe_un un_neg pe_int) (fun _ _ => rfl)) (fun _ _ => rfl)) pe_int (fun _ _ => rfl)) (nomark _))
    (pss_one (ps_expr (pe_bm PySem.F.plainAttrs_list PySem.F.slot_list_append PySem.F.type_list_append mt_append (pv 4) (pa_cons (pe_op op_cat (pv 5) (pe_lst (pa_cons (pv 6) pa_nil))) pa_nil)))) pss_nil)))))
  (pss_one (ps_set (i := 2) sc_law_walks.nd rfl (by first | exact Or.inl rfl | exact Or.inr rfl) (pv 4))))))
  (pss_one (ps_ret (pv 2))))), ?_⟩
  obtain ⟨tas, t1, t2⟩ := id hT
  have tl := paired_len t2
  refine ⟨_, rfl, t, _, rfl, .inl (SqL.of t1), _, rfl, by rw [List.length_map]; omega, by rw [List.length_map]; omega, fun D nD => ?_⟩
  rw [List.length_map, tl, show ((ts.length : Nat) : Int).toNat = ts.length by omega]
  refine lc_range (lo := 0) (n := ts.length) (fun i H' => Same H H' ∧ LolAt H' D ((List.range i).map fun x => [x])) ⟨same_new nD _, [], upd_same, .nil⟩ ?_ ?_
  · rintro i H1 hi ⟨hS1, hD1⟩
    rw [Int.zero_add]
    refine ⟨rfl, _, rfl, (by show 1 ≤ sizeLine; decide), fun p np => ?_⟩
    have hD2 : LolAt (upd H1 p (.lst [.int (i : Int)])) D ((List.range i).map fun x => [x]) := hD1.same (same_new np _)
    have npD : p ≠ D := by
      obtain ⟨as, e, _⟩ := hD1
      exact (ne_of_none e np).symm
    obtain ⟨xs, g1, g2, g3⟩ := hD2.add (x := p) (L := [i]) upd_same npD
    refine ⟨xs, g1, ?_, same_upd (hS1.trans (same_new np _)) nD, ?_⟩
    · rw [g2, List.length_map, List.length_range]; exact sml1000 (by omega)
    · rw [List.range_succ, List.map_append]
      exact g3
  rintro H1 ⟨hS1, hD1⟩
  refine ⟨_, rfl, _, _, rfl, rfl, _, rfl, by omega, by omega, ?_⟩
  rw [show ((m : Int) - 1).toNat = m - 1 by omega]
  refine for_range (lo := 0) (n := m - 1) (fun k σ H' => ∃ (f : Addr) (v3 v4 v5 v6 : Option V), σ = [some (.ref t), some (.int (m : Int)), some (.ref f), v3, v4, v5, v6] ∧ Same H H' ∧ H f = none ∧ LolAt H' f (walksW ts k)) ⟨D, none, none, none, none, rfl, hS1, nD, hD1⟩ ?_ ?_
  · rintro k σ H2 hk ⟨f, v3, v4, v5, v6, rfl, hS2, nf, hf2⟩
    refine ⟨Nat.zero_le _, fun L nL => ?_⟩
    have nLH := hS2.free nL
    have hS3 := hS2.trans (same_new nL (.lst []))
    have hf3 := hf2.same (same_new nL (.lst []))
    have hL3 : LolAt (upd H2 L (.lst [])) L [] := ⟨[], upd_same, .nil⟩
    have hLf : L ≠ f := by
      obtain ⟨as, e, _⟩ := hf2
      exact (ne_of_none e nL).symm
    have hS23 := same_new nL (.lst [])
    generalize upd H2 L (.lst []) = H3 at hS3 hf3 hL3 hS23
    obtain ⟨fas, f1, f2⟩ := id hf2
    have fl := paired_len f2
    refine ⟨_, rfl, f, rfl, ⟨_, SqL.of (hS23 _ _ f1)⟩, ?_⟩
    refine for_list (K := K) (a := f) (xs := fas.map V.ref) (fun i σ H' => ∃ v5 v6 : Option V, σ = [some (.ref t), some (.int (m : Int)), some (.ref f), some (.int (k : Int)), some (.ref L), v5, v6] ∧ Same H2 H' ∧ LolAt H' L (((walksW ts k).take i).flatMap (nextW ts))) ⟨v5, v6, by rw [Int.zero_add]; rfl, hS23, hL3⟩ (fun i σ H' _ ⟨_, _, _, hS', _⟩ => SqL.of (hS' _ _ f1)) ?_ ?_
    · rintro i x σ H4 hx ⟨v5, v6, rfl, hS4, hL4⟩
      obtain ⟨px, ww, rfl, _, hw, hpx⟩ := paired_at f2 hx
      have hmem := List.mem_of_getElem? hw
      obtain ⟨cw, lw⟩ := walksW_mem.mp hmem
      have lx := last_get cw.n0
      have lt := cw.num _ (List.mem_of_getElem? lx)
      have htx := tie_get lt
      obtain ⟨e, he⟩ : ∃ e, e = ts.getD (ww.getLastD 0) (0, 0) := ⟨_, rfl⟩
      rw [← he] at htx
      have hS04 := hS2.trans hS4
      refine ⟨_, rfl, t, _, rfl, .inl (SqL.of (hS04 _ _ t1)), _, rfl, by rw [List.length_map]; omega, by rw [List.length_map]; omega, ?_⟩
      rw [List.length_map, tl, show ((ts.length : Nat) : Int).toNat = ts.length by omega]
      refine for_range (lo := 0) (n := ts.length) (fun j σ H' => ∃ v6 : Option V, σ = [some (.ref t), some (.int (m : Int)), some (.ref f), some (.int (k : Int)), some (.ref L), some (.ref px), v6] ∧ Same H2 H' ∧ LolAt H' L (((walksW ts k).take i).flatMap (nextW ts) ++ (frmN ts e.2 j).map fun x => ww ++ [x])) ⟨v6, rfl, hS4, by rw [show (frmN ts e.2 0) = [] from rfl, List.map_nil, List.append_nil]; exact hL4⟩ ?_ ?_
      · rintro j σ H5 hj ⟨v6, rfl, hS5, hL5⟩
        rw [Int.zero_add]
        have hS05 := hS2.trans hS5
        obtain ⟨⟨u, v⟩, he'⟩ : ∃ e, ts[j]? = some e := ⟨_, List.getElem?_eq_getElem hj⟩
        obtain ⟨xs', p', k1', k2', k3'⟩ := (hT.same hS05).at_ he'
        obtain ⟨xs, p0, k1, k2, k3⟩ := (hT.same hS05).at_ htx
        have hp5 := hS5 _ _ hpx
        refine ⟨_, rfl, _, rfl, _, _, _, .ref p', rfl, rfl, SqL.of k1', k2', _, _, _, .int (u : Int), rfl, rfl, SqT.of k3', rfl, ?_⟩
        refine ⟨_, rfl, _, rfl, _, rfl, _, _, _, .int ((ww.getLastD 0 : Nat) : Int), rfl, rfl, SqL.of hp5, iv_back lx, _, _, _, .ref p0, rfl, rfl, SqL.of k1, k2, _, _, _, .int (e.2 : Int), rfl, rfl, SqT.of k3, rfl, rfl, _, rfl, ?_⟩
        by_cases c : u = e.2
        · have e3 : frmN ts e.2 (j + 1) = frmN ts e.2 j ++ [j] := if_pos (by rw [he', c]; rfl)
          refine iteYes (by rw [c]) ?_
          have hb := hbd (k + 1) (by omega)
          have hpart : (((walksW ts k).take i).flatMap (nextW ts) ++ (frmN ts e.2 (j + 1)).map fun x => ww ++ [x]).length ≤ 900 := by
            have h1 := walksW_part (ts := ts) (L := walksW ts k) (i := i + 1)
            rw [walksW_take hw, List.length_append] at h1
            have h2 : (nextW ts ww).length = (frm ts e.2).length := by
              unfold nextW
              rw [← he, List.length_map]
            have h3 := frmN_le ts e.2 (ts.length - (j + 1)) (j + 1)
            rw [show j + 1 + (ts.length - (j + 1)) = ts.length by omega] at h3
            have h4 : ((walksW ts k).flatMap (nextW ts)).length ≤ 900 := hb
            rw [List.length_append, List.length_map]
            have h5 : (frm ts e.2).length = (frmN ts e.2 ts.length).length := rfl
            omega
          have cwl : ww.length ≤ 100 := by omega
          obtain ⟨las, l1, l2⟩ := id hL5
          refine ⟨_, rfl, .inl ⟨rfl, _, SqL.of l1⟩, _, rfl, _, rfl, (by show 1 ≤ sizeLine; decide), fun q2 nq2 => ⟨px, q2, _, _, rfl, rfl, same_new nq2 _ _ _ hp5, upd_same, ?_, fun l nl => ?_⟩⟩
          · rw [iv_length]
            exact Nat.le_of_lt (sml1000 (by show ww.length + 1 ≤ _; omega))
          have hS6 := (same_new nq2 (.lst [V.int (j : Int)])).trans (same_new nl (.lst (iv ww ++ [V.int (j : Int)])))
          have hl6 : upd (upd H5 q2 (.lst [V.int (j : Int)])) l (.lst (iv ww ++ [V.int (j : Int)])) l = some (.lst (iv (ww ++ [j]))) := by
            rw [upd_same, iv_app]
          have hLl : l ≠ L := (ne_of_none (same_new nq2 _ _ _ l1) nl).symm
          generalize upd (upd H5 q2 (.lst [V.int (j : Int)])) l (.lst (iv ww ++ [V.int (j : Int)])) = H6 at hS6 hl6
          obtain ⟨ys, y1, y2, y3⟩ := (hL5.same hS6).add hl6 hLl
          refine ⟨L, ys, _, rfl, rfl, y1, ?_, _, rfl, same_upd (hS5.trans hS6) nL, ?_⟩
          · rw [y2]
            rw [e3, List.map_append, ← List.append_assoc, List.length_append] at hpart
            exact sml1000 (by omega)
          · rw [e3, List.map_append, ← List.append_assoc]
            exact y3
        · have e3 : frmN ts e.2 (j + 1) = frmN ts e.2 j := if_neg (by rw [he']; intro z; exact c (by simpa using z))
          refine iteNo (fun z => c (by have := int_eq.mp z; omega)) ⟨_, rfl, hS5, ?_⟩
          rw [e3]
          exact hL5
      · rintro σ H5 ⟨v6, rfl, hS5, hL5⟩
        refine ⟨_, _, rfl, hS5, ?_⟩
        rw [walksW_take hw]
        unfold nextW
        rw [← he]
        exact hL5
    · rintro σ H4 ⟨v5, v6, rfl, hS4, hL4⟩
      rw [List.length_map, fl, List.take_length] at hL4
      refine ⟨_, rfl, L, _, _, _, _, rfl, hS2.trans hS4, nLH, ?_⟩
      exact hL4
  rintro σ H2 ⟨f, v3, v4, v5, v6, rfl, hS2, nf, hf2⟩
  exact ⟨_, rfl, q f H2 hS2 nf hf2⟩
end
end My
set_option maxHeartbeats 4000000
namespace My
open PySem L2 PyProof.Rows
/-- a window as a key: a place (walks of one tie), or a tuple of ties -/
def KeyAt : Bool → Hp → V → List Nat → Prop
  | true, _, v, k => ∃ p : Nat, k = [p] ∧ v = .int (p : Int)
  | false, H, v, k => ∃ a, v = .ref a ∧ H a = some (.tup (iv k))
theorem KeyAt.same {b : Bool} {H H' : Hp} {v : V} {k : List Nat} (h : KeyAt b H v k) (s : Same H H') : KeyAt b H' v k := by
  cases b with
  | true => exact h
  | false =>
    obtain ⟨a, e, h⟩ := h
    exact ⟨a, e, s _ _ h⟩
theorem KeyAt.over {b : Bool} {H : Hp} {v : V} {k : List Nat} {l : Addr} {o o' : HO} (h : KeyAt b H v k) (hl : H l = some o) (no : ∀ xs, o ≠ .tup xs) : KeyAt b (upd H l o') v k := by
  cases b with
  | true => exact h
  | false =>
    obtain ⟨a, e, h⟩ := h
    exact ⟨a, e, by rw [upd_ne (ne_of h hl (fun z => no _ z.symm))]; exact h⟩
abbrev Wst := List Nat × List Nat × Nat
def WstAt (b : Bool) (H : Hp) (p : Addr) (z : Wst) : Prop := ∃ va vb, H p = some (.tup [va, vb, .int (z.2.2 : Int)]) ∧ KeyAt b H va z.1 ∧ KeyAt b H vb z.2.1
def WsL (b : Bool) (H : Hp) (l : Addr) (Z : List Wst) : Prop := ∃ as : List Addr, H l = some (.lst (as.map V.ref)) ∧ Paired (WstAt b H) as Z
theorem WstAt.same {b : Bool} {H H' : Hp} {p : Addr} {z : Wst} (h : WstAt b H p z) (s : Same H H') : WstAt b H' p z := by
  obtain ⟨va, vb, h1, h2, h3⟩ := h
  exact ⟨va, vb, s _ _ h1, h2.same s, h3.same s⟩
theorem WstAt.over {b : Bool} {H : Hp} {p l : Addr} {z : Wst} {o o' : HO} (h : WstAt b H p z) (hl : H l = some o) (no : ∀ xs, o ≠ .tup xs) : WstAt b (upd H l o') p z := by
  obtain ⟨va, vb, h1, h2, h3⟩ := h
  exact ⟨va, vb, by rw [upd_ne (ne_of h1 hl (fun z => no _ z.symm))]; exact h1, h2.over hl no, h3.over hl no⟩
theorem WsL.same {b : Bool} {H H' : Hp} {l : Addr} {Z : List Wst} (h : WsL b H l Z) (s : Same H H') : WsL b H' l Z := by
  obtain ⟨as, h1, h2⟩ := h
  exact ⟨as, s _ _ h1, paired_mono (fun p z h => h.same s) h2⟩
theorem WsL.add {b : Bool} {H : Hp} {l p : Addr} {Z : List Wst} {z : Wst} (h : WsL b H l Z) (hp : WstAt b H p z) : ∃ xs, H l = some (.lst xs) ∧ xs.length = Z.length ∧ WsL b (upd H l (.lst (xs ++ [.ref p]))) l (Z ++ [z]) := by
  obtain ⟨as, h1, h2⟩ := h
  have no : ∀ xs, HO.lst (as.map V.ref) ≠ .tup xs := fun xs z => by cases z
  refine ⟨as.map V.ref, h1, by rw [List.length_map]; exact paired_len h2, as ++ [p], by rw [upd_same, List.map_append]; rfl, paired_app (paired_mono (fun q y hq => hq.over h1 no) h2) (hp.over h1 no)⟩
theorem walk_step {w : List Nat} : (w.dropLast, w.tail, w.getLastD 0) = (w.take (w.length - 1), w.drop 1, w.getLastD 0) := by
  rw [List.dropLast_eq_take, List.drop_one]
section
variable {P : Program} {w : World} {K : PySem.W.Frag} {mg : Str → Option Value} {base : Heap} {C : Addr}
def sp_law_steps (_ : PySem.W.Frag) (_ : Addr) : Sp := fun vs H Q _ => ∃ t s ts W, vs = [.ref t, .ref s] ∧ TiesAt H t ts ∧ H s = some (.lst (iv W)) ∧ Chain ts W ∧ W.length ≤ 100 ∧ ts.length ≤ 100 ∧ (∀ k, k < W.length → (walksW ts k).length ≤ 900) ∧ ∀ f H', Same H H' → H f = none → WsL (decide (W.length = 1)) H' f (winZ ts W) → Q (.ref f) H'
theorem ok_law_steps (D : Def K mg "_law_steps" s_law_steps ["_law_ties_here", "_law_walk_here"]) (B : Bs mg) (Glb : Glo mg) (WK : WebK K mg C)
    (h_law_walks : Good P w K mg base "_law_walks" s_law_walks ["_law_ties_here", "_law_many"] 1 (sp_law_walks K C)) :
    Good P w K mg base "_law_steps" s_law_steps ["_law_ties_here", "_law_walk_here"] 2 (sp_law_steps K C) := by
  refine D.good fun f fd F => ?_
  obtain ⟨f_law_walks, d_law_walks, O_law_walks, m_law_walks, k_law_walks, b_law_walks, F_law_walks⟩ := h_law_walks
  refine F.ok sc_law_steps (fun vs H Q E h => ?_) (fun cdv A outer s H vs Q E hr h => ?_)
  · obtain ⟨t, s, ts, W, rfl, hT, hs, hW, hWl, htl, hbd, q⟩ := h
    first | rfl | (rcases h with ⟨_, _, rfl, _⟩ | ⟨_, rfl, _⟩ <;> rfl)
  obtain ⟨t, s, ts, W, rfl, hT, hs, hW, hWl, htl, hbd, q⟩ := h
  refine ⟨_, (pss_cons (ps_if (pt_cmpR op_eq (pe_callB call_len_seq (by rfl) B.len (by decide +kernel) (pa_cons (pv 1) pa_nil)) pe_int (nomark _))
    (pss_one (ps_ret (pe_lc (own := [("_law_tie", 4)]) (g := gName 4) (by rfl) sc_law_steps.nd (pi_range1 (by rfl) B.range (pa_cons (pe_callB call_len_seq (by rfl) B.len (by decide +kernel) (pa_cons (pv 0) pa_nil)) pa_nil)) (blkOk_by (own := [("_law_tie", 4)]) (N := ["_law_ties_here", "_law_walk_here", "_law_found", "_law_one", "_law_tie"]) (sc := defScope s_law_steps) (by decide +kernel)) (fun _ _ _ _ _ => (pg_name (i := 4) sc_law_steps.nd rfl (by first | exact Or.inl rfl | exact Or.inr rfl))) (fun _ _ _ _ _ => (pts_one (pt_cmpR op_ne (pv 4) (pe_ix (ix_listK (K := K) rfl) (pv 1) pe_int (by exact fun _ _ => rfl)) (nomark _)))) (fun _ _ _ _ _ => (pe_tup (pa_cons (pe_ix (ix_tupK (K := K) rfl) (pe_ix (ix_listK (K := K) rfl) (pv 0) (pv 4) (by exact fun _ _ => rfl)) pe_int (by exact fun _ _ => rfl)) (pa_cons (pe_ix (ix_tupK (K := K) rfl) (pe_ix (ix_listK (K := K) rfl) (pv 0) (pv 4) (by exact fun _ _ => rfl)) pe_int (by exact fun _ _ => rfl)) (pa_cons (pv 4) pa_nil)))))))) pss_nil)
  (pss_cons (ps_set (i := 2) sc_law_steps.nd rfl (by first | exact Or.inl rfl | exact Or.inr rfl) (pe_lst pa_nil))
  (pss_cons (ps_for PassesOwn.never rfl (pi_list (pe_call O_law_walks hr rfl m_law_walks k_law_walks b_law_walks .nil pass0 (pa_cons (pv 0) (pa_cons (pe_callB call_len_seq (by rfl) B.len (by decide +kernel) (pa_cons (pv 1) pa_nil)) pa_nil)))) (pg_name (i := 3) sc_law_steps.nd rfl (by first | exact Or.inl rfl | exact Or.inr rfl))
    (pss_one (ps_if (pt_cmpR (op_neD hr.units) (pv 3) (pv 1) (nomark _))
    (pss_one (ps_expr (pe_bm PySem.F.plainAttrs_list PySem.F.slot_list_append PySem.F.type_list_append mt_append (pv 2) (pa_cons (pe_tup (pa_cons (pe_callTy call_tuple_of (by rfl) B.tuple (by decide +kernel) (pa_cons (pe_slice sl_list (pv 3) po_none (po_some (pe_un un_neg pe_int))) pa_nil)) (pa_cons (pe_callTy call_tuple_of (by rfl) B.tuple (by decide +kernel) (pa_cons (pe_slice sl_list (pv 3) (po_some pe_int) po_none) pa_nil)) (pa_cons (pe_ix ix_list (pv 3) (pe_un un_neg pe_int) (fun _ _ => rfl)) pa_nil)))) pa_nil)))) pss_nil)))
  (pss_one (ps_ret (pv 2)))))), ?_⟩
  obtain ⟨tas, t1, t2⟩ := id hT
  have tl := paired_len t2
  have h0 := hW.n0
  refine ⟨_, rfl, s, _, rfl, .inl (SqL.of hs), rfl, _, rfl, ?_⟩
  by_cases c1 : W.length = 1
  · rw [decide_eq_true c1] at q
    have ez : winZ ts W = ((List.range ts.length).filter fun x => decide (x ≠ W.getD 0 0)).map fun x => ([(ts.getD x (0, 0)).1], [(ts.getD x (0, 0)).2], x) := by
      unfold winZ
      rw [if_pos c1]
    refine iteYes (by rw [iv_length, c1]; rfl) ?_
    refine ⟨_, rfl, t, _, rfl, .inl (SqL.of t1), _, rfl, by rw [List.length_map]; omega, by rw [List.length_map]; omega, fun D nD => ?_⟩
    rw [List.length_map, tl, show ((ts.length : Nat) : Int).toNat = ts.length by omega]
    refine lc_range (lo := 0) (n := ts.length) (fun i H' => Same H H' ∧ WsL true H' D (((List.range i).filter fun x => decide (x ≠ W.getD 0 0)).map fun x => ([(ts.getD x (0, 0)).1], [(ts.getD x (0, 0)).2], x))) ⟨same_new nD _, [], upd_same, .nil⟩ ?_ ?_
    · rintro i H1 hi ⟨hS1, hD1⟩
      rw [Int.zero_add]
      have hs1 := hS1 _ _ hs
      have ew : W[0]? = some (W.getD 0 0) := by
        rw [List.getD_eq_getElem?_getD, List.getElem?_eq_getElem h0]
        rfl
      refine ⟨rfl, _, rfl, _, rfl, _, _, _, .int ((W.getD 0 0 : Nat) : Int), rfl, rfl, SqL.of hs1, iv_at (j := 0) ew, rfl, _, rfl, ?_⟩
      by_cases c : i = W.getD 0 0
      · refine iteNot' (by rw [c]) ⟨hS1, ?_⟩
        rw [List.range_succ, List.filter_append, List.filter_cons_of_neg (by simpa using c), List.filter_nil, List.append_nil]
        exact hD1
      · refine iteNot (fun z => c (by have := int_eq.mp z; omega)) ?_
        obtain ⟨xs', p', k1', k2', k3'⟩ := (hT.same hS1).at_ (tie_get hi)
        refine ⟨_, rfl, _, rfl, _, _, _, .ref p', rfl, rfl, SqL.of k1', k2', _, _, _, .int (((ts.getD i (0, 0)).1 : Nat) : Int), rfl, rfl, SqT.of k3', rfl, _, rfl, _, rfl, _, _, _, .ref p', rfl, rfl, SqL.of k1', k2', _, _, _, .int (((ts.getD i (0, 0)).2 : Nat) : Int), rfl, rfl, SqT.of k3', rfl, _, rfl, (by show 3 ≤ sizeLine; decide), fun p np => ?_⟩
        obtain ⟨xs, y1, y2, y3⟩ := (hD1.same (same_new np (.tup [.int (((ts.getD i (0, 0)).1 : Nat) : Int), .int (((ts.getD i (0, 0)).2 : Nat) : Int), .int (i : Int)]))).add (p := p) (z := ([(ts.getD i (0, 0)).1], [(ts.getD i (0, 0)).2], i)) ⟨_, _, upd_same, ⟨_, rfl, rfl⟩, ⟨_, rfl, rfl⟩⟩
        refine ⟨xs, y1, ?_, same_upd (hS1.trans (same_new np _)) nD, ?_⟩
        · rw [y2, List.length_map]
          have := List.length_filter_le (fun x => decide (x ≠ W.getD 0 0)) (List.range i)
          rw [List.length_range] at this
          exact sml1000 (by omega)
        · rw [List.range_succ, List.filter_append, List.filter_cons_of_pos (p := fun x => decide (x ≠ W.getD 0 0)) (decide_eq_true c), List.filter_nil, List.map_append]
          exact y3
    rintro H1 ⟨hS1, hD1⟩
    exact q D H1 hS1 nD (by rw [ez]; exact hD1)
  rw [decide_eq_false c1] at q
  have hb := hbd (W.length - 1) (by omega)
  refine iteNo (fun z => c1 (by have := int_eq.mp z; rw [iv_length] at this; omega)) ?_
  refine ⟨Nat.zero_le _, fun F nF => ?_⟩
  refine ⟨_, rfl, _, rfl, s, _, rfl, .inl (SqL.of (same_new nF (.lst []) _ _ hs)), t, ts, W.length, by rw [iv_length]; rfl, hT.same (same_new nF _), h0, hWl, htl, hbd, fun f H1 hS1 nf hf => ?_⟩
  have hS01 := (same_new nF (.lst [])).trans hS1
  have hF1 : WsL false H1 F [] := ⟨[], hS1 _ _ upd_same, .nil⟩
  obtain ⟨fas, f1, f2⟩ := id hf
  have fl := paired_len f2
  have hfF : f ≠ F := fun z => by rw [z, upd_same] at nf; cases nf
  refine ⟨f, rfl, ⟨_, SqL.of f1⟩, for_list (K := K) (a := f) (xs := fas.map V.ref) (fun i σ H' => ∃ v3 v4 : Option V, σ = [some (.ref t), some (.ref s), some (.ref F), v3, v4] ∧ Same H H' ∧ Kept F H1 H' ∧ WsL false H' F ((((walksW ts (W.length - 1)).take i).filter fun w => decide (w ≠ W)).map fun w => (w.dropLast, w.tail, w.getLastD 0))) ⟨none, none, rfl, hS01, fun b o e _ => e, hF1⟩ (fun i σ H' _ ⟨_, _, _, _, h, _⟩ => SqL.of (h _ _ f1 hfF)) ?_ ?_⟩
  · rintro i x σ H2 hx ⟨v3, v4, rfl, hS2, hk2, hF2⟩
    obtain ⟨px, ww, rfl, _, hw, hpx⟩ := paired_at f2 hx
    obtain ⟨cw, lw⟩ := walksW_mem.mp (List.mem_of_getElem? hw)
    have hFz : H1 F = some (.lst []) := hS1 _ _ upd_same
    have hpF : px ≠ F := fun z => by
      rw [z, hFz] at hpx
      have e := HO.lst.inj (Option.some.inj hpx)
      have := congrArg List.length e
      rw [iv_length] at this
      exact absurd cw.n0 (by rw [← this]; exact Nat.lt_irrefl 0)
    have hpx2 : H2 px = some (.lst (iv ww)) := hk2 _ _ hpx hpF
    have lx := last_get cw.n0
    have hs2 := hS2 _ _ hs
    have hpart : ((((walksW ts (W.length - 1)).take i).filter fun w => decide (w ≠ W)).map fun w => (w.dropLast, w.tail, w.getLastD 0)).length ≤ 900 := by
      rw [List.length_map]
      have h1 := List.length_filter_le (fun w => decide (w ≠ W)) ((walksW ts (W.length - 1)).take i)
      rw [List.length_take] at h1
      omega
    refine ⟨_, rfl, _, rfl, _, _, dp_dn hpx2, dp_dn hs2, shaped_dn _, shaped_dn _, _, rfl, ?_⟩
    rw [eqv_dns]
    have esn : ∀ b : Bool, decide (ww ≠ W) = b → (((walksW ts (W.length - 1)).take (i + 1)).filter fun w => decide (w ≠ W)) = ((walksW ts (W.length - 1)).take i).filter (fun w => decide (w ≠ W)) ++ if b = true then [ww] else [] := fun b hb => by
      rw [List.take_succ, hw, Option.toList_some, List.filter_append]
      congr 1
      rw [List.filter_cons, hb]
      rfl
    by_cases c : ww = W
    · refine iteNot' c ⟨_, _, rfl, hS2, hk2, ?_⟩
      rw [esn false (decide_eq_false fun z => z c), if_neg (by simp), List.append_nil]
      exact hF2
    · refine iteNot c ?_
      obtain ⟨zas, z1, z2⟩ := id hF2
      refine ⟨_, rfl, .inl ⟨rfl, _, SqL.of z1⟩, _, rfl, _, rfl, _, rfl, px, _, rfl, SqL.of hpx2, fun q1 nq1 => ⟨q1, _, rfl, .inl ⟨SqL.of upd_same, fun l1 nl1 => ?_⟩⟩⟩
      have eq1 : cutV (iv ww) none (some (-1)) = iv ww.dropLast := by
        rw [cutV_most (by rw [iv_length]; exact cw.n0), iv_length, ← iv_take, List.dropLast_eq_take]
      have eq2 : cutV (iv ww) (some 1) none = iv ww.tail := by
        have := cutV_from (xs := iv ww) (k := 1)
        rw [show (((1 : Nat) : Int)) = 1 from rfl] at this
        rw [this, ← iv_drop, List.drop_one]
      have hS3 := (same_new nq1 (.lst (cutV (iv ww) none (some (-1))))).trans (same_new nl1 (.tup (cutV (iv ww) none (some (-1)))))
      have hl1 : upd (upd H2 q1 (.lst (cutV (iv ww) none (some (-1))))) l1 (.tup (cutV (iv ww) none (some (-1)))) l1 = some (.tup (iv ww.dropLast)) := by rw [upd_same, eq1]
      generalize upd (upd H2 q1 (.lst (cutV (iv ww) none (some (-1))))) l1 (.tup (cutV (iv ww) none (some (-1)))) = H3 at hS3 hl1
      refine ⟨_, rfl, _, rfl, px, _, rfl, SqL.of (hS3 _ _ hpx2), fun q2 nq2 => ⟨q2, _, rfl, .inl ⟨SqL.of upd_same, fun l2 nl2 => ?_⟩⟩⟩
      have hS4 := hS3.trans ((same_new nq2 (.lst (cutV (iv ww) (some 1) none))).trans (same_new nl2 (.tup (cutV (iv ww) (some 1) none))))
      have hl14 := same_new nl2 (.tup (cutV (iv ww) (some 1) none)) _ _ (same_new nq2 (.lst (cutV (iv ww) (some 1) none)) _ _ hl1)
      have hl2 : upd (upd H3 q2 (.lst (cutV (iv ww) (some 1) none))) l2 (.tup (cutV (iv ww) (some 1) none)) l2 = some (.tup (iv ww.tail)) := by rw [upd_same, eq2]
      generalize upd (upd H3 q2 (.lst (cutV (iv ww) (some 1) none))) l2 (.tup (cutV (iv ww) (some 1) none)) = H4 at hS4 hl14 hl2
      refine ⟨_, rfl, _, rfl, _, _, _, .int ((ww.getLastD 0 : Nat) : Int), rfl, rfl, SqL.of (hS4 _ _ hpx2), iv_back lx, (by show 3 ≤ sizeLine; decide), fun tp ntp => ?_⟩
      have hS5 := hS4.trans (same_new ntp (.tup [.ref l1, .ref l2, .int ((ww.getLastD 0 : Nat) : Int)]))
      obtain ⟨ys, y1, y2, y3⟩ := (hF2.same hS5).add (p := tp) (z := (ww.dropLast, ww.tail, ww.getLastD 0)) ⟨_, _, upd_same, ⟨l1, rfl, same_new ntp _ _ _ hl14⟩, ⟨l2, rfl, same_new ntp _ _ _ hl2⟩⟩
      refine ⟨F, ys, _, rfl, rfl, y1, ?_, _, _, rfl, same_upd (hS2.trans hS5) nF, ?_, ?_⟩
      · rw [y2]; exact sml1000 (by omega)
      · intro b o e n
        rw [upd_ne n]
        exact hS5 _ _ (hk2 b o e n)
      · rw [esn true (decide_eq_true c), if_pos rfl, List.map_append]
        exact y3
  · rintro σ H2 ⟨v3, v4, rfl, hS2, hk2, hF2⟩
    rw [List.length_map, fl, List.take_length] at hF2
    refine ⟨_, rfl, q F H2 hS2 nF ?_⟩
    unfold winZ
    rw [if_neg c1]
    exact hF2
end
end My
set_option maxHeartbeats 4000000
namespace My
open PySem L2 PyProof.Rows
/-! ### dicts whose keys are windows -/
abbrev wkk (k : List Nat) : List Key := k.map fun x : Nat => (.inl (x : Int) : Key)
theorem wkk_inj {j k : List Nat} (h : wkk j = wkk k) : j = k := (List.map_inj_right (fun a b h => Int.ofNat.inj (Sum.inl.inj h))).mp h
theorem wkk_tup (k : List Nat) : (wkk k).map kV = iv k := by
  unfold iv
  rw [List.map_map]
  rfl
def DkAt : Bool → Hp → Addr → Nat → (List Nat → Option V) → Prop
  | true, H, f, n, F => ∃ kvs : List (Key × V), H f = some (.dK kvs) ∧ kvs.length ≤ n ∧ ∀ p : Nat, valV kvs (.inl (p : Int)) = F [p]
  | false, H, f, n, F => ∃ kvs : List (List Key × V), H f = some (.dT kvs) ∧ kvs.length ≤ n ∧ ∀ k : List Nat, valV kvs (wkk k) = F k
section
variable {b : Bool} {H : Hp} {f : Addr} {n : Nat} {F : List Nat → Option V} {v : V} {k : List Nat}
theorem DkAt.same {H' : Hp} (h : DkAt b H f n F) (s : Same H H') : DkAt b H' f n F := by
  cases b with
  | true => obtain ⟨kvs, h1, h2⟩ := h; exact ⟨kvs, s _ _ h1, h2⟩
  | false => obtain ⟨kvs, h1, h2⟩ := h; exact ⟨kvs, s _ _ h1, h2⟩
theorem DkAt.kept {a : Addr} {H' : Hp} (h : DkAt b H f n F) (s : Kept a H H') (hf : f ≠ a) : DkAt b H' f n F := by
  cases b with
  | true => obtain ⟨kvs, h1, h2⟩ := h; exact ⟨kvs, s _ _ h1 hf, h2⟩
  | false => obtain ⟨kvs, h1, h2⟩ := h; exact ⟨kvs, s _ _ h1 hf, h2⟩
theorem DkAt.obj (h : DkAt b H f n F) : ∃ o, H f = some o ∧ (∀ xs, o ≠ .tup xs) ∧ ∀ xs, o ≠ .lst xs := by
  cases b with
  | true => obtain ⟨kvs, h1, _⟩ := h; exact ⟨_, h1, (fun xs z => by cases z), fun xs z => by cases z⟩
  | false => obtain ⟨kvs, h1, _⟩ := h; exact ⟨_, h1, (fun xs z => by cases z), fun xs z => by cases z⟩
theorem DkAt.is (h : DkAt b H f n F) : IsD H f := by
  cases b with
  | true => obtain ⟨kvs, h1, _⟩ := h; exact .inl ⟨kvs, Rd.of h1⟩
  | false => obtain ⟨kvs, h1, _⟩ := h; exact .inr ⟨kvs, Rd.of h1⟩
theorem DkAt.get (h : DkAt b H f n F) (hk : KeyAt b H v k) : DGet H f v (F k) := by
  cases b with
  | true =>
    obtain ⟨kvs, h1, _, h3⟩ := h
    obtain ⟨p, rfl, rfl⟩ := hk
    rw [← h3]
    exact DGet.k h1 (k := .inl (p : Int))
  | false =>
    obtain ⟨kvs, h1, _, h3⟩ := h
    obtain ⟨a, rfl, ha⟩ := hk
    rw [← h3]
    exact DGet.t h1 (k := wkk k) (by rw [ha, wkk_tup])
theorem DkAt.put (h : DkAt b H f n F) (hk : KeyAt b H v k) (hn : n < sizeLine) (x : V) : ∃ o, DPut H f v x (upd H f o) ∧ (∀ xs, o ≠ .tup xs) ∧ (∀ xs, o ≠ .lst xs) ∧ DkAt b (upd H f o) f (n + 1) fun j => if j = k then some x else F j := by
  cases b with
  | true =>
    obtain ⟨kvs, h1, h2, h3⟩ := h
    obtain ⟨p, rfl, rfl⟩ := hk
    refine ⟨_, DPut.k h1 (k := .inl (p : Int)) (Nat.lt_of_le_of_lt h2 hn), (fun xs z => by cases z), (fun xs z => by cases z), _, upd_same, ?_, fun q => ?_⟩
    · have := length_putK kvs (.inl (p : Int)) x
      omega
    · rw [valV_put, h3]
      by_cases c : q = p
      · subst c
        rw [if_pos rfl]
        exact (if_pos rfl).symm
      · rw [if_neg (show ¬ (Sum.inl (q : Int) : Key) = Sum.inl (p : Int) from fun z => c (Int.ofNat.inj (Sum.inl.inj z)))]
        exact (if_neg fun z => c (List.cons.inj z).1).symm
  | false =>
    obtain ⟨kvs, h1, h2, h3⟩ := h
    obtain ⟨a, rfl, ha⟩ := hk
    refine ⟨_, DPut.t h1 (k := wkk k) (by rw [ha, wkk_tup]) (Nat.lt_of_le_of_lt h2 hn), (fun xs z => by cases z), (fun xs z => by cases z), _, upd_same, ?_, fun q => ?_⟩
    · have := length_putK kvs (wkk k) x
      omega
    · rw [valV_put, h3]
      by_cases c : q = k
      · subst c
        rw [if_pos rfl]
        exact (if_pos rfl).symm
      · rw [if_neg fun z => c (wkk_inj z)]
        exact (if_neg c).symm
end
/-! ### lists of windows -/
def KsL (b : Bool) (H : Hp) (l : Addr) (ks : List (List Nat)) : Prop := ∃ xs : List V, H l = some (.lst xs) ∧ Paired (KeyAt b H) xs ks
def encW : Bool → List Nat → PyData
  | true, k => .int ((k.getD 0 0 : Nat) : Int)
  | false, k => .tuple ((k.map fun n : Nat => (n : Int)).map PyData.int)
section
variable {b : Bool} {H : Hp} {l : Addr} {ks : List (List Nat)} {v : V} {k : List Nat}
theorem KsL.same {H' : Hp} (h : KsL b H l ks) (s : Same H H') : KsL b H' l ks := by
  obtain ⟨xs, h1, h2⟩ := h
  exact ⟨xs, s _ _ h1, paired_mono (fun p z h => h.same s) h2⟩
theorem KsL.add (h : KsL b H l ks) (hk : KeyAt b H v k) : ∃ xs, H l = some (.lst xs) ∧ xs.length = ks.length ∧ KsL b (upd H l (.lst (xs ++ [v]))) l (ks ++ [k]) := by
  obtain ⟨xs, h1, h2⟩ := h
  have no : ∀ ys, HO.lst xs ≠ .tup ys := fun ys z => by cases z
  exact ⟨xs, h1, paired_len h2, xs ++ [v], upd_same, paired_app (paired_mono (fun q y hq => hq.over h1 no) h2) (hk.over h1 no)⟩
theorem KsL.pop (h : KsL b H l (ks ++ [k])) : ∃ xs v, H l = some (.lst xs) ∧ xs[xs.length - 1]? = some v ∧ KeyAt b H v k ∧ KsL b (upd H l (.lst xs.dropLast)) l ks := by
  obtain ⟨xs, h1, h2⟩ := h
  obtain ⟨m, a, rfl, h3, h4⟩ := paired_end1 h2
  have no : ∀ ys, HO.lst (m ++ [a]) ≠ .tup ys := fun ys z => by cases z
  refine ⟨_, a, h1, by simp, h4, m, by rw [upd_same, List.dropLast_concat], paired_mono (fun q y hq => hq.over h1 no) h3⟩
theorem KeyAt.dp {K : PySem.W.Frag} (h : KeyAt b H v k) : Dp K H v (encW b k) := by
  cases b with
  | true => obtain ⟨p, rfl, rfl⟩ := h; exact .int _
  | false => obtain ⟨a, rfl, ha⟩ := h; exact .tup (SqT.of ha) (dpAll_tupn k)
theorem dpAll_ks {K : PySem.W.Frag} : ∀ {xs : List V} {ks : List (List Nat)}, Paired (KeyAt b H) xs ks → DpAll K H xs (ks.map (encW b))
  | _, _, .nil => .nil
  | _, _, .cons h r => .cons h.dp (dpAll_ks r)
theorem KsL.dp {K : PySem.W.Frag} (h : KsL b H l ks) : Dp K H (.ref l) (.list (ks.map (encW b))) := by
  obtain ⟨xs, h1, h2⟩ := h
  exact .lst (SqL.of h1) (dpAll_ks h2)
theorem lay_encW : ∀ (b : Bool) (k : List Nat), PyData.canLay0 (encW b k) = true
  | true, _ => rfl
  | false, k => by
    show PyData.canLay0 (.tuple ((k.map fun n : Nat => (n : Int)).map PyData.int)) = true
    unfold PyData.canLay0
    exact layAll_iz _
theorem depth_encW : ∀ (b : Bool) (k : List Nat), PyData.depth (encW b k) ≤ 1
  | true, _ => by show PyData.depth (.int _) ≤ 1; simp [PyData.depth]
  | false, k => by
    show PyData.depth (.tuple ((k.map fun n : Nat => (n : Int)).map PyData.int)) ≤ 1
    unfold PyData.depth
    rw [depthAll_iz]
    exact Nat.le_refl _
theorem layAll_ks : ∀ ks : List (List Nat), PyData.canLayAll0 (ks.map (encW b)) = true
  | [] => rfl
  | e :: r => by
    show (PyData.canLay0 (encW b e) && PyData.canLayAll0 (r.map (encW b))) = true
    rw [layAll_ks r, lay_encW]
    rfl
theorem depthAll_ks : ∀ ks : List (List Nat), PyData.depthAll (ks.map (encW b)) ≤ 1
  | [] => by show PyData.depthAll [] ≤ 1; decide
  | z :: Z => by
    show max (PyData.depth (encW b z)) (PyData.depthAll (Z.map (encW b))) ≤ 1
    have := depthAll_ks Z
    have := depth_encW b z
    omega
theorem shaped_ks (b : Bool) (ks : List (List Nat)) : SeqAt.shaped (.list (ks.map (encW b))) = true := by
  unfold SeqAt.shaped
  have h1 : PyData.canLay0 (.list (ks.map (encW b))) = true := by
    unfold PyData.canLay0
    exact layAll_ks _
  have h2 : PyData.depth (.list (ks.map (encW b))) ≤ 64 := by
    unfold PyData.depth
    have := depthAll_ks (b := b) ks
    omega
  rw [h1, decide_eq_true h2]
  rfl
theorem eqv_ksnil (b : Bool) (ks : List (List Nat)) : PyData.eqv (.list (ks.map (encW b))) (dz []) = decide (ks = []) := by
  cases ks with
  | nil => rfl
  | cons n r => rfl
end
theorem KsL.over {f : Addr} {o o' : HO} {b : Bool} {H : Hp} {l : Addr} {ks : List (List Nat)} (h : KsL b H l ks) (hf : H f = some o) (n1 : ∀ xs, o ≠ .tup xs) (n2 : ∀ xs, o ≠ .lst xs) : KsL b (upd H f o') l ks := by
  obtain ⟨xs, h1, h2⟩ := h
  exact ⟨xs, by rw [upd_ne (ne_of h1 hf fun z => n2 _ z.symm)]; exact h1, paired_mono (fun q y hq => hq.over hf n1) h2⟩
theorem KeyAt.kept {a : Addr} {H' : Hp} {b : Bool} {H : Hp} {v : V} {k : List Nat} (h : KeyAt b H v k) (s : Kept a H H') (no : ∀ xs, H a ≠ some (.tup xs)) : KeyAt b H' v k := by
  cases b with
  | true => exact h
  | false =>
    obtain ⟨c, e, h⟩ := h
    exact ⟨c, e, s _ _ h fun z => no _ (z ▸ h)⟩
theorem KsL.kept {a : Addr} {H' : Hp} {b : Bool} {H : Hp} {l : Addr} {ks : List (List Nat)} (h : KsL b H l ks) (s : Kept a H H') (hl : l ≠ a) (no : ∀ xs, H a ≠ some (.tup xs)) : KsL b H' l ks := by
  obtain ⟨xs, h1, h2⟩ := h
  exact ⟨xs, s _ _ h1 hl, paired_mono (fun q y hq => hq.kept s no) h2⟩
/-- all stays but two -/
def Kept2 (a c : Addr) (H H' : Hp) : Prop := ∀ b o, H b = some o → b ≠ a → b ≠ c → H' b = some o
theorem Kept2.trans {a c : Addr} {H H1 H2 : Hp} (h : Kept2 a c H H1) (k : Kept2 a c H1 H2) : Kept2 a c H H2 := fun b o e n m => k b o (h b o e n m) n m
theorem Same.kept2 {a c : Addr} {H H' : Hp} (h : Same H H') : Kept2 a c H H' := fun b o e _ _ => h b o e
theorem kept2_l {a c : Addr} {H : Hp} {o : HO} : Kept2 a c H (upd H a o) := fun b o' e n _ => by rw [upd_ne n]; exact e
theorem kept2_r {a c : Addr} {H : Hp} {o : HO} : Kept2 a c H (upd H c o) := fun b o' e _ n => by rw [upd_ne n]; exact e
theorem KeyAt.kept2 {a c : Addr} {H' : Hp} {b : Bool} {H : Hp} {v : V} {k : List Nat} (h : KeyAt b H v k) (s : Kept2 a c H H') (n1 : ∀ xs, H a ≠ some (.tup xs)) (n2 : ∀ xs, H c ≠ some (.tup xs)) : KeyAt b H' v k := by
  cases b with
  | true => exact h
  | false =>
    obtain ⟨d, e, h⟩ := h
    exact ⟨d, e, s _ _ h (fun z => n1 _ (z ▸ h)) fun z => n2 _ (z ▸ h)⟩
theorem KsL.kept2 {a c : Addr} {H' : Hp} {b : Bool} {H : Hp} {l : Addr} {ks : List (List Nat)} (h : KsL b H l ks) (s : Kept2 a c H H') (l1 : l ≠ a) (l2 : l ≠ c) (n1 : ∀ xs, H a ≠ some (.tup xs)) (n2 : ∀ xs, H c ≠ some (.tup xs)) : KsL b H' l ks := by
  obtain ⟨xs, h1, h2⟩ := h
  exact ⟨xs, s _ _ h1 l1 l2, paired_mono (fun q y hq => hq.kept2 s n1 n2) h2⟩
theorem DkAt.kept2 {a c : Addr} {H' : Hp} {b : Bool} {H : Hp} {f : Addr} {n : Nat} {F : List Nat → Option V} (h : DkAt b H f n F) (s : Kept2 a c H H') (h1 : f ≠ a) (h2 : f ≠ c) : DkAt b H' f n F := by
  cases b with
  | true => obtain ⟨kvs, g1, g2⟩ := h; exact ⟨kvs, s _ _ g1 h1 h2, g2⟩
  | false => obtain ⟨kvs, g1, g2⟩ := h; exact ⟨kvs, s _ _ g1 h1 h2, g2⟩
/-- {key: True} -/
theorem disp_key {σ : L2.St} {H : Hp} {Q : VK} {i : Nat} {b : Bool} {v : V} {k : List Nat} (h : σ[i]? = some (some v)) (hk : KeyAt b H v k) (q : ∀ p H1, H p = none → Same H H1 → DkAt b H1 p 1 (fun j => if j = k then some (.bl true) else none) → Q (.ref p) H1) :
    tDisp [(tVar i, tC (.bl true))] σ H Q ∨ tDispT [(tVar i, tC (.bl true))] σ H Q := by
  cases b with
  | true =>
    obtain ⟨p, rfl, rfl⟩ := hk
    refine .inl fun a na => ⟨_, h, upd_same, [(.inl (p : Int), .bl true)], rfl, (by show 1 ≤ 15; decide), q a _ na (same_upd (same_new na _) na) ⟨_, upd_same, Nat.le_refl _, fun r => ?_⟩⟩
    by_cases c : r = p
    · subst c
      exact (valV_pos (p := ((.inl (r : Int) : Key), V.bl true)) rfl).trans (if_pos rfl).symm
    · exact (valV_neg (p := ((.inl (p : Int) : Key), V.bl true)) fun z => c (Int.ofNat.inj (Sum.inl.inj z)).symm).trans (if_neg fun z => c (List.cons.inj z).1).symm
  | false =>
    obtain ⟨c0, rfl, hc⟩ := hk
    refine .inr fun a na => ⟨_, h, upd_same, c0, wkk k, _, rfl, by rw [same_new na _ _ _ hc, wkk_tup], q a _ na (same_upd (same_new na _) na) ⟨_, upd_same, Nat.le_refl _, fun r => ?_⟩⟩
    by_cases c : r = k
    · subst c
      exact (valV_pos (p := (wkk r, V.bl true)) rfl).trans (if_pos rfl).symm
    · exact (valV_neg (p := (wkk k, V.bl true)) fun z => c (wkk_inj z).symm).trans (if_neg c).symm
/-- {} -/
theorem dnew_key {σ : L2.St} {H : Hp} {Q : VK} (b : Bool) (q : ∀ p o, H p = none → (∀ xs, o ≠ .tup xs) → (∀ xs, o ≠ .lst xs) → DkAt b (upd H p o) p 0 (fun _ => none) → Q (.ref p) (upd H p o)) : tDNewK σ H Q ∨ tDNewT σ H Q := by
  cases b with
  | true => exact .inl fun p np => q p _ np (fun xs z => by cases z) (fun xs z => by cases z) ⟨[], upd_same, Nat.le_refl _, fun _ => rfl⟩
  | false => exact .inr fun p np => q p _ np (fun xs z => by cases z) (fun xs z => by cases z) ⟨[], upd_same, Nat.le_refl _, fun _ => rfl⟩
/-! ### who is led to -/
def outsW (Z : List Wst) (k : List Nat) : List (List Nat) := (Z.filter fun z => decide (z.1 = k)).map fun z => z.2.1
theorem outsW_mem {Z : List Wst} {k j : List Nat} : j ∈ outsW Z k ↔ ∃ x, (k, j, x) ∈ Z := by
  unfold outsW
  rw [List.mem_map]
  constructor
  · rintro ⟨⟨a, c, x⟩, h, rfl⟩
    obtain ⟨h1, h2⟩ := List.mem_filter.mp h
    have e : a = k := of_decide_eq_true h2
    subst e
    exact ⟨x, h1⟩
  · rintro ⟨x, h⟩
    exact ⟨_, List.mem_filter.mpr ⟨h, decide_eq_true rfl⟩, rfl⟩
theorem outsW_snoc {Z : List Wst} {i : Nat} {z : Wst} (h : Z[i]? = some z) (k : List Nat) : outsW (Z.take (i + 1)) k = outsW (Z.take i) k ++ if z.1 = k then [z.2.1] else [] := by
  unfold outsW
  rw [List.take_succ, h, Option.toList_some, List.filter_append, List.map_append]
  congr 1
  by_cases c : z.1 = k
  · rw [if_pos c]
    show ([z].filter _).map _ = _
    rw [List.filter_cons, if_pos (decide_eq_true c)]
    rfl
  · rw [if_neg c]
    show ([z].filter _).map _ = _
    rw [List.filter_cons, if_neg (by simpa using c)]
    rfl
/-- one window leads to another, by steps of Z -/
inductive WRch (Z : List Wst) : List Nat → List Nat → Prop
  | refl (k) : WRch Z k k
  | step {k j i x} : WRch Z k j → (j, i, x) ∈ Z → WRch Z k i
theorem wrch_wcm {ts : List (Nat × Nat)} {W p q : List Nat} : WRch (winZ ts W) p q ↔ WCm ts W p q := by
  constructor
  · intro h
    induction h with
    | refl => exact ⟨[], rfl⟩
    | step _ h2 ih =>
      obtain ⟨A, hA⟩ := ih
      exact ⟨_, hA.app (WRun.one h2)⟩
  · rintro ⟨A, hA⟩
    have key : ∀ (A : List Nat) (v : List Nat), WRch (winZ ts W) p v → WRun ts W v A q → WRch (winZ ts W) p q := by
      intro A
      induction A with
      | nil => intro v hv hr; cases hr; exact hv
      | cons x r ih =>
        rintro v hv ⟨z, h1, h2⟩
        exact ih z (hv.step h1) h2
    exact key A p (.refl p) hA
/-- those reached so far (D), those that wait (R); h is the one whose steps are looked at, but for those in S -/
structure WI (Z : List Wst) (s : List Nat) (D R : List (List Nat)) (h : Option (List Nat)) : Prop where
  nd : D.Nodup
  st : s ∈ D
  sub : ∀ u ∈ R, u ∈ D
  cm : ∀ u ∈ D, WRch Z s u
  done : ∀ u ∈ D, u ∉ R → h ≠ some u → ∀ v ∈ outsW Z u, v ∈ D
theorem WI.fin {Z : List Wst} {s : List Nat} {D : List (List Nat)} (h : WI Z s D [] none) {u : List Nat} : u ∈ D ↔ WRch Z s u := by
  refine ⟨h.cm u, fun hr => ?_⟩
  induction hr with
  | refl => exact h.st
  | step _ h2 ih => exact h.done _ ih (by simp) (by simp) _ (outsW_mem.mpr ⟨_, h2⟩)
theorem WI.few {Z : List Wst} {s : List Nat} {D R : List (List Nat)} {h : Option (List Nat)} (w : WI Z s D R h) : D.length ≤ Z.length + 1 := by
  have := len_sub (B := s :: Z.map fun z => z.2.1) w.nd fun u hu => by
    cases w.cm u hu with
    | refl => exact List.mem_cons_self
    | step _ h2 => exact List.mem_cons_of_mem _ (List.mem_map.mpr ⟨_, h2, rfl⟩)
  rw [List.length_cons, List.length_map] at this
  exact this
theorem WI.pop {Z : List Wst} {s h : List Nat} {D R : List (List Nat)} (w : WI Z s D (R ++ [h]) none) : WI Z s D R (some h) :=
  ⟨w.nd, w.st, fun u hu => w.sub u (List.mem_append_left _ hu), w.cm, fun u hu hn hh => w.done u hu (fun z => by
    rcases List.mem_append.mp z with z | z
    · exact hn z
    · exact hh (by rw [List.mem_singleton.mp z])) (by simp)⟩
theorem WI.close {Z : List Wst} {s h : List Nat} {D R : List (List Nat)} (w : WI Z s D R (some h)) (a : ∀ v ∈ outsW Z h, v ∈ D) : WI Z s D R none :=
  ⟨w.nd, w.st, w.sub, w.cm, fun u hu hn _ v hv => by
    by_cases c : h = u
    · subst c; exact a v hv
    · exact w.done u hu hn (fun z => c (Option.some.inj z)) v hv⟩
theorem WI.add {Z : List Wst} {s h v : List Nat} {D R : List (List Nat)} (w : WI Z s D R (some h)) (hh : h ∈ D) (hv : v ∈ outsW Z h) (nv : v ∉ D) : WI Z s (D ++ [v]) (R ++ [v]) (some h) where
  nd := by
    rw [List.nodup_append]
    exact ⟨w.nd, List.nodup_cons.mpr ⟨List.not_mem_nil, List.nodup_nil⟩, fun a ha b hb z => nv (by rw [List.mem_singleton.mp hb] at z; rw [← z]; exact ha)⟩
  st := List.mem_append_left _ w.st
  sub := fun u hu => by
    rcases List.mem_append.mp hu with z | z
    · exact List.mem_append_left _ (w.sub u z)
    · exact List.mem_append_right _ z
  cm := fun u hu => by
    rcases List.mem_append.mp hu with z | z
    · exact w.cm u z
    · rw [List.mem_singleton.mp z]
      obtain ⟨x, hx⟩ := outsW_mem.mp hv
      exact (w.cm h hh).step hx
  done := fun u hu hn hne x hx => by
    rcases List.mem_append.mp hu with z | z
    · exact List.mem_append_left _ (w.done u z (fun y => hn (List.mem_append_left _ y)) hne x hx)
    · exact absurd (List.mem_append_right _ z) hn
/-- whither one comes from each window, in a dict of lists -/
def AfAt (b : Bool) (H0 H : Hp) (f : Addr) (n : Nat) (Z : List Wst) : Prop := ∃ F, DkAt b H f n F ∧ ∀ k, (outsW Z k = [] ∧ F k = none) ∨ ∃ a, F k = some (.ref a) ∧ H0 a = none ∧ KsL b H a (outsW Z k)
section
variable {P : Program} {w : World} {K : PySem.W.Frag} {mg : Str → Option Value} {base : Heap} {C : Addr}
def sp_law_come_to (_ : PySem.W.Frag) (_ : Addr) : Sp := fun vs H Q _ => ∃ b l v Z k, vs = [.ref l, v] ∧ WsL b H l Z ∧ KeyAt b H v k ∧ Z.length ≤ 900 ∧ ∀ f F H', Same H H' → H f = none → DkAt b H' f 2000 F → (∀ j, (F j).isSome = true ↔ WRch Z k j) → Q (.ref f) H'
theorem ok_law_come_to (D : Def K mg "_law_come_to" s_law_come_to ["_law_steps_here", "_law_near"]) (B : Bs mg) (Glb : Glo mg) (WK : WebK K mg C) :
    Good P w K mg base "_law_come_to" s_law_come_to ["_law_steps_here", "_law_near"] 1 (sp_law_come_to K C) := by
  refine D.good fun f fd F => ?_
  refine F.ok sc_law_come_to (fun vs H Q E h => ?_) (fun cdv A outer s H vs Q E hr h => ?_)
  · obtain ⟨b, l, v, Z, k, rfl, hZ, hv, hZl, q⟩ := h
    first | rfl | (rcases h with ⟨_, _, rfl, _⟩ | ⟨_, rfl, _⟩ <;> rfl)
  obtain ⟨b, l, v, Z, k, rfl, hZ, hv, hZl, q⟩ := h
  refine ⟨_, (pss_cons (ps_par3 (i := 2) (j := 3) (l := 4) (by rfl) sc_law_come_to.nd rfl rfl rfl (by decide) (by decide) (by decide) rfl rfl rfl (pa_cons (pe_either (pe_disp (pps_cons (pv 1) pe_bl pps_nil) (by rfl) (by rfl) (fun z => by cases z) (by decide)) (pe_dispT (hu_of hr) (pps_cons (pv 1) pe_bl pps_nil))) (pa_cons (pe_lst (pa_cons (pv 1) pa_nil)) (pa_cons (pe_either pe_dnewK pe_dnewT) pa_nil))) (by rfl))
  (pss_cons (ps_for PassesOwn.never rfl (pi_list (pv 0)) (pg_tup rfl (pgs_cons (pg_name (i := 5) sc_law_come_to.nd rfl (by first | exact Or.inl rfl | exact Or.inr rfl)) (pgs_cons (pg_name (i := 6) sc_law_come_to.nd rfl (by first | exact Or.inl rfl | exact Or.inr rfl)) (pgs_cons (pg_name (i := 7) sc_law_come_to.nd rfl (by first | exact Or.inl rfl | exact Or.inr rfl)) pgs_nil))))
    (pss_one (ps_dput (hu_of hr) (pv 4) (pv 5) (pe_op op_cat (pe_dget2 (hu_of hr) (pv 4) (pv 5) (pe_lst pa_nil) ⟨rfl, rfl, rfl, rfl⟩) (pe_lst (pa_cons (pv 6) pa_nil))) rfl)))
  (pss_cons (ps_while PassesOwn.never (pt_cmpR (op_neD hr.units) (pv 3) (pe_lst pa_nil) (nomark _))
    (pss_one (ps_for PassesOwn.never rfl (pi_list (pe_dget2 (hu_of hr) (pv 4) (pe_bm0 PySem.F.plainAttrs_list PySem.F.slot_list_pop PySem.F.type_list_pop mt_pop (pv 3)) (pe_lst pa_nil) ⟨rfl, rfl, rfl, rfl⟩)) (pg_name (i := 6) sc_law_come_to.nd rfl (by first | exact Or.inl rfl | exact Or.inr rfl))
    (pss_one (ps_if (pt_cmp (pc_dnotin (hu_of hr) (pv 6) (pv 2)))
    (pss_cons (ps_dput (hu_of hr) (pv 2) (pv 6) pe_bl rfl)
  (pss_one (ps_expr (pe_bm PySem.F.plainAttrs_list PySem.F.slot_list_append PySem.F.type_list_append mt_append (pv 3) (pa_cons (pv 6) pa_nil))))) pss_nil)))))
  (pss_one (ps_ret (pv 2)))))), ?_⟩
  refine disp_key (i := 1) rfl hv fun md H1 nmd hS1 hmd => ?_
  refine ⟨_, rfl, (by show 1 ≤ sizeLine; decide), fun rw nrw => ?_⟩
  refine dnew_key b fun af o naf no1 no2 haf => ?_
  refine ⟨_, _, _, rfl, ?_⟩
  have nrwH : H rw = none := hS1.free nrw
  have nmdrw : md ≠ rw := by
    obtain ⟨o1, e1, _⟩ := hmd.obj
    exact ne_of_none e1 nrw
  have hS2 := same_new nrw (.lst [v])
  have hrw2 : KsL b (upd H1 rw (.lst [v])) rw [k] := ⟨[v], upd_same, .cons ((hv.same hS1).same hS2) .nil⟩
  have hmd2 := hmd.same hS2
  generalize upd H1 rw (.lst [v]) = H2 at hS2 hrw2 hmd2 naf haf
  have nafH1 : H1 af = none := hS2.free naf
  have nafH : H af = none := hS1.free nafH1
  have afmd : af ≠ md := by
    obtain ⟨o1, e1, _⟩ := hmd2.obj
    exact (ne_of_none e1 naf).symm
  have afrw : af ≠ rw := by
    obtain ⟨xs, e1, _⟩ := hrw2
    exact (ne_of_none e1 naf).symm
  have hS3 := same_new naf o
  have haf3 : AfAt b H2 (upd H2 af o) af 0 (Z.take 0) := ⟨_, haf, fun k => .inl ⟨rfl, rfl⟩⟩
  have hobj3 : upd H2 af o af = some o := upd_same
  have hrw3 := hrw2.same hS3
  have hmd3 := hmd2.same hS3
  have hS03 : Same H (upd H2 af o) := (hS1.trans hS2).trans hS3
  generalize upd H2 af o = H3 at hS3 haf haf3 hobj3 hrw3 hmd3 hS03
  obtain ⟨zas, z1, z2⟩ := id hZ
  have zl := paired_len z2
  refine ⟨_, rfl, l, rfl, ⟨_, SqL.of (hS03 _ _ z1)⟩, for_list (K := K) (a := l) (xs := zas.map V.ref) (fun i σ H' => ∃ v5 v6 v7 : Option V, σ = [some (.ref l), some v, some (.ref md), some (.ref rw), some (.ref af), v5, v6, v7] ∧ Same H H' ∧ Kept af H3 H' ∧ AfAt b H2 H' af i (Z.take i)) ⟨none, none, none, rfl, hS03, fun b o e _ => e, haf3⟩ (fun i σ H' _ ⟨_, _, _, _, hS', _⟩ => SqL.of (hS' _ _ z1)) ?_ ?_⟩
  · rintro i x σ H4 hx ⟨v5, v6, v7, rfl, hS4, hk4, F, hF, hFk⟩
    obtain ⟨px, z, rfl, hiz, hz, va, vb, h1, h2, h3⟩ := paired_at z2 hx
    have hzl := (List.getElem?_eq_some_iff.mp hz).1
    have h2' := h2.same hS4
    refine ⟨px, _, rfl, SqT.of (hS4 _ _ h1), rfl, _, _, rfl, _, _, rfl, _, _, rfl, rfl, ?_⟩
    refine ⟨_, rfl, af, rfl, hF.is, _, rfl, Nat.zero_le _, fun z0 nz0 => ⟨F z.1, (hF.same (same_new nz0 _)).get (h2'.same (same_new nz0 _)), ?_⟩⟩
    have fresh2 : ∀ c, H4 c = none → H2 c = none := fun c hc => hS3.free (hk4.free hc (by
      obtain ⟨o1, e1, _⟩ := hF.obj
      exact (ne_of_none e1 hc).symm))
    obtain ⟨c, ec, hc1, hc2⟩ : ∃ c, (F z.1).getD (.ref z0) = .ref c ∧ H2 c = none ∧ KsL b (upd H4 z0 (.lst [])) c (outsW (Z.take i) z.1) := by
      rcases hFk z.1 with ⟨e1, e2⟩ | ⟨c, e1, e2, e3⟩
      · rw [e1, e2]
        exact ⟨z0, rfl, fresh2 _ nz0, [], upd_same, .nil⟩
      · rw [e1]
        exact ⟨c, rfl, e2, e3.same (same_new nz0 _)⟩
    rw [ec]
    have hS5 := hS4.trans (same_new nz0 (.lst []))
    have hk5 := hk4.new (o := .lst []) nz0
    have hF5 := hF.same (same_new nz0 (.lst []))
    have hFk5 : ∀ k, (outsW (Z.take i) k = [] ∧ F k = none) ∨ ∃ a, F k = some (.ref a) ∧ H2 a = none ∧ KsL b (upd H4 z0 (.lst [])) a (outsW (Z.take i) k) := fun k => (hFk k).imp id fun ⟨a, e1, e2, e3⟩ => ⟨a, e1, e2, e3.same (same_new nz0 _)⟩
    generalize upd H4 z0 (.lst []) = H5 at hc2 hS5 hk5 hF5 hFk5
    obtain ⟨xs, y1, y2⟩ := id hc2
    have yl := paired_len y2
    have hol : (outsW (Z.take i) z.1).length ≤ 900 := by
      unfold outsW
      rw [List.length_map]
      refine Nat.le_trans (List.length_filter_le _ _) ?_
      rw [List.length_take]
      omega
    refine ⟨_, rfl, (by show 1 ≤ sizeLine; decide), fun q2 nq2 => ⟨c, q2, _, _, rfl, rfl, same_new nq2 _ _ _ y1, upd_same, ?_, fun l2 nl2 => ?_⟩⟩
    · exact Nat.le_of_lt (sml1000 (by show xs.length + 1 ≤ _; omega))
    have hSq := (same_new nq2 (.lst [vb])).trans (same_new nl2 (.lst (xs ++ [vb])))
    have hl2 : KsL b (upd (upd H5 q2 (.lst [vb])) l2 (.lst (xs ++ [vb]))) l2 (outsW (Z.take i) z.1 ++ [z.2.1]) := ⟨_, upd_same, paired_app (paired_mono (fun q y hq => hq.same hSq) y2) ((h3.same hS5).same hSq)⟩
    have nl2H2 : H2 l2 = none := by
      have e1 : H5 l2 = none := (same_new nq2 (.lst [vb])).free nl2
      refine hS3.free (hk5.free e1 ?_)
      obtain ⟨o1, g1, _⟩ := hF5.obj
      exact (ne_of_none g1 e1).symm
    have hS6 := hS5.trans hSq
    have hk6 := hk5.trans (Same.kept hSq)
    have hF6 := hF5.same hSq
    have hFk6 : ∀ k, (outsW (Z.take i) k = [] ∧ F k = none) ∨ ∃ a, F k = some (.ref a) ∧ H2 a = none ∧ KsL b (upd (upd H5 q2 (.lst [vb])) l2 (.lst (xs ++ [vb]))) a (outsW (Z.take i) k) := fun k => (hFk5 k).imp id fun ⟨a, e1, e2, e3⟩ => ⟨a, e1, e2, e3.same hSq⟩
    generalize upd (upd H5 q2 (.lst [vb])) l2 (.lst (xs ++ [vb])) = H6 at hS6 hk6 hF6 hl2 hFk6
    obtain ⟨o6, p1, p2, p3, p4⟩ := hF6.put (h2.same hS6) (sml1000 (by omega)) (.ref l2)
    obtain ⟨of, q1, q2', q3⟩ := hF6.obj
    refine ⟨_, rfl, _, rfl, af, _, rfl, p1, _, _, _, rfl, same_upd hS6 nafH, ?_, _, p4, fun j => ?_⟩
    · intro c o e n
      rw [upd_ne n]
      exact hk6 c o e n
    · rw [outsW_snoc hz]
      by_cases cj : z.1 = j
      · subst cj
        rw [if_pos rfl]
        exact .inr ⟨l2, if_pos rfl, nl2H2, hl2.over q1 q2' q3⟩
      · rw [if_neg cj, List.append_nil]
        rcases hFk6 j with ⟨e1, e2⟩ | ⟨a, e1, e2, e3⟩
        · exact .inl ⟨e1, (if_neg fun e => cj e.symm).trans e2⟩
        · exact .inr ⟨a, (if_neg fun e => cj e.symm).trans e1, e2, e3.over q1 q2' q3⟩
  rintro σ H4 ⟨v5, v6, v7, rfl, hS4, hk4, hAf⟩
  rw [List.length_map, zl, List.take_length] at hAf
  have notup3 : ∀ xs, H3 af ≠ some (.tup xs) := fun xs z => no1 xs (Option.some.inj (hobj3.symm.trans z))
  have hrw4 := hrw3.kept hk4 afrw.symm notup3
  have hmd4 := hmd3.kept hk4 afmd.symm
  have hS34 : Same H2 H4 := fun c o e => hk4 c o (hS3 _ _ e) (ne_of_none e naf)
  have md4t : ∀ xs, H4 md ≠ some (.tup xs) := fun xs z => by
    obtain ⟨o1, e1, e2, _⟩ := hmd4.obj
    exact e2 xs (Option.some.inj (e1.symm.trans z))
  have rw4t : ∀ xs, H4 rw ≠ some (.tup xs) := fun xs z => by
    obtain ⟨ys, e1, _⟩ := hrw4
    rw [e1] at z
    cases z
  obtain ⟨Fa, hFa, hFk⟩ := hAf
  have fromH2 : ∀ c, H2 c = none → c ≠ md ∧ c ≠ rw := fun c hc => by
    constructor
    · obtain ⟨o1, e1, _⟩ := hmd2.obj
      exact (ne_of_none e1 hc).symm
    · obtain ⟨ys, e1, _⟩ := hrw2
      exact (ne_of_none e1 hc).symm
  let Pv : Nat → L2.St → Hp → Prop := fun m σ H' => ∃ (v5 v6 v7 : Option V) (D R : List (List Nat)) (F : List Nat → Option V), σ = [some (.ref l), some v, some (.ref md), some (.ref rw), some (.ref af), v5, v6, v7] ∧ Same H H' ∧ Kept2 md rw H4 H' ∧ DkAt b H' md D.length F ∧ (∀ j, F j = if j ∈ D then some (.bl true) else none) ∧ KsL b H' rw R ∧ WI Z k D R none ∧ R.length ≤ D.length ∧ 2 * (Z.length + 1 - D.length) + R.length = m
  refine ⟨Pv, ⟨_, v5, v6, v7, [k], [k], _, rfl, hS4, fun c o e _ _ => e, hmd4, fun j => ?_, hrw4, ⟨by simp, by simp, fun u h => h, fun u h => by rw [List.mem_singleton.mp h]; exact .refl k, fun u h h2 => absurd h h2⟩, Nat.le_refl _, rfl⟩, ?_⟩
  · by_cases c : j = k
    · rw [if_pos c, if_pos (by rw [c]; simp)]
    · rw [if_neg c, if_neg (by simpa using c)]
  rintro m σ H5 ⟨v5, v6, v7, D, R, F, rfl, hS5, hk5, hmd5, hF5, hrw5, hI, hRD, hμ⟩
  have hfew := hI.few
  refine ⟨_, rfl, Nat.zero_le _, fun p0 np0 => ⟨_, _, (hrw5.same (same_new np0 _)).dp, dp_iz (L := []) upd_same, shaped_ks _ _, shaped_iz _, _, rfl, ?_⟩⟩
  rw [eqv_ksnil]
  have hS6 := hS5.trans (same_new np0 (.lst []))
  have hk6 : Kept2 md rw H4 (upd H5 p0 (.lst [])) := hk5.trans (Same.kept2 (same_new np0 (.lst [])))
  have hmd6 := hmd5.same (same_new np0 (.lst []))
  have hrw6 := hrw5.same (same_new np0 (.lst []))
  generalize upd H5 p0 (.lst []) = H6 at hS6 hk6 hmd6 hrw6
  rcases List.eq_nil_or_concat R with rfl | ⟨rest, here, rfl⟩
  · refine iteNot' rfl ⟨_, rfl, q md F H6 hS6 nmd ?_ fun j => ?_⟩
    · cases b with
      | true => obtain ⟨kvs, g1, g2, g3⟩ := hmd6; exact ⟨kvs, g1, by omega, g3⟩
      | false => obtain ⟨kvs, g1, g2, g3⟩ := hmd6; exact ⟨kvs, g1, by omega, g3⟩
    · rw [hF5, ← hI.fin]
      by_cases c : j ∈ D
      · rw [if_pos c]; exact ⟨fun _ => c, fun _ => rfl⟩
      · rw [if_neg c]; exact ⟨fun z => (nomatch z), fun z => absurd z c⟩
  rw [List.concat_eq_append] at *
  refine iteNot (by simp) ?_
  have hin : here ∈ D := hI.sub here (by simp)
  refine ⟨fun σ' H' => ∃ m', m' < m ∧ Pv m' σ' H', fun σ' H' h => h, ?_⟩
  obtain ⟨ws, hv0, g1, g2, g3, g4⟩ := hrw6.pop
  have haf6 := hFa.kept2 hk6 afmd afrw
  refine ⟨_, rfl, af, rfl, haf6.is, _, rfl, .inl ⟨rfl, _, SqL.of g1⟩, rw, _, _, rfl, rfl, g1, g2, ?_⟩
  have g3' : KeyAt b (upd H6 rw (.lst ws.dropLast)) hv0 here := g3.over g1 (fun xs z => by cases z)
  have hS7 : Same H (upd H6 rw (.lst ws.dropLast)) := same_upd hS6 nrwH
  have hk7 : Kept2 md rw H4 (upd H6 rw (.lst ws.dropLast)) := hk6.trans kept2_r
  have hmd7 : DkAt b (upd H6 rw (.lst ws.dropLast)) md D.length F := hmd6.kept (a := rw) (fun c o e n => by rw [upd_ne n]; exact e) nmdrw
  generalize upd H6 rw (.lst ws.dropLast) = H7 at hS7 hk7 hmd7 g4 g3'
  have haf7 := hFa.kept2 hk7 afmd afrw
  refine ⟨Nat.zero_le _, fun z0 nz0 => ⟨Fa here, (haf7.same (same_new nz0 _)).get (g3'.same (same_new nz0 _)), ?_⟩⟩
  have z0n : z0 ≠ md ∧ z0 ≠ rw := by
    constructor
    · obtain ⟨o1, e1, _⟩ := hmd7.obj
      exact (ne_of_none e1 nz0).symm
    · obtain ⟨ys, e1, _⟩ := g4
      exact (ne_of_none e1 nz0).symm
  obtain ⟨c, ec, hc1, hc3, hc2⟩ : ∃ c, (Fa here).getD (.ref z0) = .ref c ∧ c ≠ md ∧ c ≠ rw ∧ KsL b (upd H7 z0 (.lst [])) c (outsW Z here) := by
    rcases hFk here with ⟨e1, e2⟩ | ⟨c, e1, e2, e3⟩
    · rw [e1, e2]
      exact ⟨z0, rfl, z0n.1, z0n.2, [], upd_same, .nil⟩
    · rw [e1]
      obtain ⟨n1, n2⟩ := fromH2 c e2
      exact ⟨c, rfl, n1, n2, (e3.kept2 hk7 n1 n2 md4t rw4t).same (same_new nz0 _)⟩
  rw [ec]
  have hS8 := hS7.trans (same_new nz0 (.lst []))
  have hk8 : Kept2 md rw H4 (upd H7 z0 (.lst [])) := hk7.trans (Same.kept2 (same_new nz0 (.lst [])))
  have hmd8 := hmd7.same (same_new nz0 (.lst []))
  have hrw8 := g4.same (same_new nz0 (.lst []))
  generalize upd H7 z0 (.lst []) = H8 at hc2 hS8 hk8 hmd8 hrw8
  obtain ⟨xs, y1, y2⟩ := id hc2
  have yl := paired_len y2
  have md8t : ∀ xs, H8 md ≠ some (.tup xs) := fun xs z => by
    obtain ⟨o1, e1, e2, _⟩ := hmd8.obj
    exact e2 xs (Option.some.inj (e1.symm.trans z))
  have rw8t : ∀ xs, H8 rw ≠ some (.tup xs) := fun xs z => by
    obtain ⟨ys, e1, _⟩ := hrw8
    rw [e1] at z
    cases z
  rw [List.length_append] at hμ hRD
  have hμ' : 2 * (Z.length + 1 - D.length) + (rest.length + 1) = m := hμ
  have hRD' : rest.length + 1 ≤ D.length := hRD
  refine ⟨c, rfl, ⟨_, SqL.of y1⟩, for_list (K := K) (a := c) (xs := xs) (fun i σ H' => ∃ (v5 v6 v7 : Option V) (D R : List (List Nat)) (F : List Nat → Option V), σ = [some (.ref l), some v, some (.ref md), some (.ref rw), some (.ref af), v5, v6, v7] ∧ Same H H' ∧ Kept2 md rw H8 H' ∧ DkAt b H' md D.length F ∧ (∀ j, F j = if j ∈ D then some (.bl true) else none) ∧ KsL b H' rw R ∧ WI Z k D R (some here) ∧ here ∈ D ∧ (∀ u ∈ (outsW Z here).take i, u ∈ D) ∧ R.length ≤ D.length ∧ 2 * (Z.length + 1 - D.length) + R.length < m) ⟨_, _, _, D, rest, F, rfl, hS8, fun c o e _ _ => e, hmd8, hF5, hrw8, hI.pop, hin, fun u hu => by simp at hu, by omega, by omega⟩ (fun i σ H' _ ⟨_, _, _, _, _, _, _, _, hk', _⟩ => SqL.of (hk' _ _ y1 hc1 hc3)) ?_ ?_⟩
  · rintro i x σ H9 hx ⟨v5, v6, v7, D, R, F, rfl, hS9, hk9, hmd9, hF9, hrw9, hI9, hin9, hout, hRD9, hμ9⟩
    obtain ⟨kx, hkx, hxk⟩ := paired_get y2 hx
    have hx9 := hxk.kept2 hk9 md8t rw8t
    have hmem := List.mem_of_getElem? hkx
    have hfew9 := hI9.few
    refine ⟨_, rfl, _, rfl, md, F kx, rfl, hmd9.get hx9, _, rfl, ?_⟩
    have take9 : ∀ D' : List (List Nat), (∀ u ∈ (outsW Z here).take i, u ∈ D') → kx ∈ D' → ∀ u ∈ (outsW Z here).take (i + 1), u ∈ D' := fun D' h1 h2 u hu => by
      rw [List.take_succ, hkx, Option.toList_some, List.mem_append] at hu
      rcases hu with hu | hu
      · exact h1 u hu
      · rw [List.mem_singleton.mp hu]; exact h2
    rw [hF9]
    by_cases cx : kx ∈ D
    · rw [if_pos cx]
      exact iteF ⟨_, _, _, D, R, F, rfl, hS9, hk9, hmd9, hF9, hrw9, hI9, hin9, take9 D hout cx, hRD9, hμ9⟩
    · rw [if_neg cx]
      refine iteT ?_
      obtain ⟨o9, p1, p2, p3, p4⟩ := hmd9.put hx9 (sml1000 (by omega)) (.bl true)
      obtain ⟨of, q1, q2, q3⟩ := hmd9.obj
      refine ⟨_, rfl, _, rfl, md, _, rfl, p1, ?_⟩
      have hS10 : Same H (upd H9 md o9) := same_upd hS9 nmd
      have hk10 : Kept2 md rw H8 (upd H9 md o9) := hk9.trans kept2_l
      have hrw10 : KsL b (upd H9 md o9) rw R := hrw9.over q1 q2 q3
      have hx10 : KeyAt b (upd H9 md o9) x kx := hx9.over q1 q2
      generalize upd H9 md o9 = H10 at hS10 hk10 hrw10 hx10 p4
      obtain ⟨ys, r1, r2, r3⟩ := hrw10.add hx10
      refine ⟨_, rfl, .inl ⟨rfl, _, SqL.of r1⟩, _, rfl, rw, ys, _, rfl, rfl, r1, sml1000 (by omega), ?_⟩
      have hI10 := hI9.add hin9 hmem cx
      have hfew10 := hI10.few
      rw [List.length_append] at hfew10
      have hfew10' : D.length + 1 ≤ Z.length + 1 := hfew10
      refine ⟨_, _, _, D ++ [kx], R ++ [kx], fun j => if j = kx then some (.bl true) else F j, rfl, same_upd hS10 nrwH, hk10.trans kept2_r, ?_, fun j => ?_, r3, hI10, List.mem_append_left _ hin9, take9 _ (fun u hu => List.mem_append_left _ (hout u hu)) (by simp), ?_, ?_⟩
      · rw [List.length_append]
        exact p4.kept (a := rw) (fun c o e n => by rw [upd_ne n]; exact e) nmdrw
      · show (if j = kx then some (V.bl true) else F j) = _
        rw [hF9]
        by_cases cj : j = kx
        · rw [if_pos cj, if_pos (by rw [cj]; simp)]
        · rw [if_neg cj]
          by_cases cd : j ∈ D
          · rw [if_pos cd, if_pos (List.mem_append_left _ cd)]
          · rw [if_neg cd, if_neg fun z => (List.mem_append.mp z).elim cd fun z => cj (List.mem_singleton.mp z)]
      · rw [List.length_append, List.length_append]
        show R.length + 1 ≤ D.length + 1
        omega
      · rw [List.length_append, List.length_append]
        show 2 * (Z.length + 1 - (D.length + 1)) + (R.length + 1) < m
        omega
  · rintro σ H9 ⟨v5, v6, v7, D, R, F, rfl, hS9, hk9, hmd9, hF9, hrw9, hI9, hin9, hout, hRD9, hμ9⟩
    rw [yl, List.take_length] at hout
    exact ⟨_, hμ9, v5, v6, v7, D, R, F, rfl, hS9, hk8.trans hk9, hmd9, hF9, hrw9, hI9.close hout, hRD9, rfl⟩
end
end My
set_option maxHeartbeats 4000000
namespace My
open PySem L2 PyProof.Rows
theorem distinct_of {α : Type} [DecidableEq α] : ∀ xs : List α, ∃ ys : List α, ys.Nodup ∧ ∀ x, x ∈ ys ↔ x ∈ xs
  | [] => ⟨[], List.nodup_nil, fun _ => Iff.rfl⟩
  | a :: r => by
    obtain ⟨ys, hn, hm⟩ := distinct_of r
    by_cases c : a ∈ r
    · refine ⟨ys, hn, fun x => ?_⟩
      rw [hm, List.mem_cons]
      exact ⟨.inr, fun h => h.elim (fun z => z ▸ c) id⟩
    · refine ⟨a :: ys, List.nodup_cons.mpr ⟨fun z => c ((hm a).mp z), hn⟩, fun x => ?_⟩
      rw [List.mem_cons, List.mem_cons, hm]
section
variable {P : Program} {w : World} {K : PySem.W.Frag}
/-- sorted(set(xs)), xs whole numbers below M -/
theorem srt_set {H : Hp} {D : Addr} {R : List Nat} {M : Nat} (hD : H D = some (.lst (iv R))) (hl : R.length ≤ 1000) (hM : M ≤ 60) (hb : ∀ x ∈ R, x < M) {Q : VK}
    (q : ∀ p T H', H p = none → Same H H' → T.Pairwise (· < ·) → (∀ x, x ∈ T ↔ x ∈ R) → H' p = some (.lst (iv T)) → Q (.ref p) H') : rSetIn K w [.ref D] H (fun v H1 => rSortIn w [v] H1 Q) := by
  have e : iv R = (R.map fun n : Nat => (n : Int)).map V.int := iv_iz R
  refine ⟨D, R.map fun n : Nat => (n : Int), rfl, SqL.of (by rw [hD, e]), by rw [List.length_map]; exact hl, fun p n hn hnl np => ?_⟩
  have hS := same_new np (InO w p (inI (R.map fun n : Nat => (n : Int))) n)
  have hbound : n < 64 := by
    obtain ⟨E, e1, e2⟩ := distinct_of R
    have h3 := hn (E.map fun m : Nat => (m : Int)) (List.Pairwise.map _ (fun a b hab z => hab (by omega)) e1) fun z => by
      rw [List.mem_map, List.mem_map]
      exact ⟨fun ⟨m, h1, h2⟩ => ⟨m, (e2 m).mp h1, h2⟩, fun ⟨m, h1, h2⟩ => ⟨m, (e2 m).mpr h1, h2⟩⟩
    rw [List.length_map] at h3
    have := few e1 fun x hx => hb x ((e2 x).mp hx)
    omega
  refine ⟨p, _, n, rfl, upd_same, hbound, fun T p2 hT hmem hTl np2 => ?_⟩
  have hmem' : ∀ k : Int, k ∈ T ↔ k ∈ R.map fun n : Nat => (n : Int) := fun k => by
    rw [hmem]
    unfold inI
    rw [decide_eq_true_iff]
  obtain ⟨T', rfl⟩ : ∃ T' : List Nat, T = T'.map fun n : Nat => (n : Int) := ⟨T.map Int.toNat, by
    rw [List.map_map]
    refine (List.map_id' T).symm.trans (List.map_congr_left fun k hk => ?_)
    obtain ⟨y, _, rfl⟩ := List.mem_map.mp ((hmem' k).mp hk)
    rfl⟩
  refine q p2 T' _ (hS.free np2) (hS.trans (same_new np2 _)) ?_ (fun x => ?_) ?_
  · rw [List.pairwise_map] at hT
    exact hT.imp fun h => by omega
  · have := hmem' (x : Int)
    rw [List.mem_map, List.mem_map] at this
    constructor
    · intro h
      obtain ⟨y, h1, h2⟩ := this.mp ⟨x, h, rfl⟩
      rw [← Int.ofNat.inj h2]
      exact h1
    · intro h
      obtain ⟨y, h1, h2⟩ := this.mpr ⟨x, h, rfl⟩
      rw [← Int.ofNat.inj h2]
      exact h1
  · rw [upd_same, iv_iz]
theorem keys_true {H : Hp} : ∀ {xs : List V} {ks : List (List Nat)}, Paired (KeyAt true H) xs ks → ∃ R : List Nat, xs = iv R ∧ ks = R.map fun p => [p]
  | _, _, .nil => ⟨[], rfl, rfl⟩
  | _, _, .cons h r => by
    obtain ⟨R, rfl, rfl⟩ := keys_true r
    obtain ⟨p, rfl, rfl⟩ := h
    exact ⟨p :: R, rfl, rfl⟩
theorem true_keys {H : Hp} : ∀ R : List Nat, Paired (KeyAt true H) (iv R) (R.map fun p => [p])
  | [] => .nil
  | p :: r => .cons ⟨p, rfl, rfl⟩ (true_keys r)
theorem keys_false {H : Hp} : ∀ {xs : List V} {ks : List (List Nat)}, Paired (KeyAt false H) xs ks → ∃ L : List AK, xs = L.map (fun p => V.ref p.1) ∧ L.map (·.2) = ks.map (fun k => k.map fun n : Nat => (n : Int)) ∧ ∀ p ∈ L, ∃ k ∈ ks, p.2 = (k.map fun n : Nat => (n : Int)) ∧ H p.1 = some (.tup (iv k))
  | _, _, .nil => ⟨[], rfl, rfl, fun p hp => by cases hp⟩
  | _, _, .cons (b := k) h r => by
    obtain ⟨L, rfl, h2, h3⟩ := keys_false r
    obtain ⟨a, rfl, ha⟩ := h
    refine ⟨(a, k.map fun n : Nat => (n : Int)) :: L, rfl, by rw [List.map_cons, List.map_cons, h2], fun p hp => ?_⟩
    rcases List.mem_cons.mp hp with rfl | hp
    · exact ⟨k, List.mem_cons_self, rfl, ha⟩
    · obtain ⟨k', g1, g2⟩ := h3 p hp
      exact ⟨k', List.mem_cons_of_mem _ g1, g2⟩
theorem nat_back (k : List Nat) : (k.map fun n : Nat => (n : Int)).map Int.toNat = k := by
  rw [List.map_map]
  exact (List.map_congr_left fun x _ => rfl).trans (List.map_id' k)
/-- sorted(set(xs)), xs windows -/
theorem spots_key {H : Hp} {D : Addr} {b : Bool} {ks B : List (List Nat)} {d : Nat} (hD : KsL b H D ks) (hl : ks.length ≤ 1000) (h1 : b = true → ∀ k ∈ ks, ∀ x ∈ k, x < 60) (h2 : b = false → 1 ≤ d ∧ (∀ k ∈ ks, k.length = d ∧ ∀ x ∈ k, x < 60) ∧ (∀ k ∈ ks, k ∈ B) ∧ B.length < 63) {Q : VK}
    (q : ∀ p Sp H', H p = none → Same H H' → KsL b H' p Sp → Sp.Nodup → (∀ k, k ∈ Sp ↔ k ∈ ks) → Q (.ref p) H') : rSetIn K w [.ref D] H (fun v H1 => rSortIn w [v] H1 Q ∨ rSortedT K P w [v] H1 Q) ∨ rSetTf K P w [.ref D] H (fun v H1 => rSortIn w [v] H1 Q ∨ rSortedT K P w [v] H1 Q) := by
  cases b with
  | true =>
    obtain ⟨xs, g1, g2⟩ := hD
    obtain ⟨R, rfl, rfl⟩ := keys_true g2
    refine .inl ?_
    obtain ⟨l, ys, k1, k2, k3, k4⟩ := srt_set (K := K) (w := w) (R := R) g1 (by rw [List.length_map] at hl; exact hl) (Nat.le_refl 60) (fun x hx => h1 rfl [x] (List.mem_map.mpr ⟨x, hx, rfl⟩) x (by simp)) (Q := Q) fun p T H' np hS hT hm hp => by
      refine q p (T.map fun p => [p]) H' np hS ⟨_, hp, true_keys T⟩ ?_ fun k => ?_
      · refine List.pairwise_map.mpr (hT.imp fun {a b} h e => ?_)
        have := (List.cons.inj e).1
        omega
      · rw [List.mem_map, List.mem_map]
        exact ⟨fun ⟨a, h1, h2⟩ => ⟨a, (hm a).mp h1, h2⟩, fun ⟨a, h1, h2⟩ => ⟨a, (hm a).mpr h1, h2⟩⟩
    exact ⟨l, ys, k1, k2, k3, fun p n c1 c2 c3 => .inl (k4 p n c1 c2 c3)⟩
  | false =>
    obtain ⟨xs, g1, g2⟩ := hD
    obtain ⟨hd, hb, hB, hBl⟩ := h2 rfl
    obtain ⟨L, rfl, l2, l3⟩ := keys_false g2
    have tup : ∀ H', Same H H' → ∀ p ∈ L, SqT K H' p.1 (p.2.map V.int) := fun H' hS p hp => by
      obtain ⟨k, _, e1, e2⟩ := l3 p hp
      rw [e1]
      exact SqT.of (by rw [hS _ _ e2, iv_iz])
    refine .inr ⟨D, L, rfl, SqL.of g1, tup _ (fun _ _ e => e), fun M hn hM => ?_, fun sa L1 nsa hsub hsup => ?_⟩
    · have := len_sub (B := B.map fun k => k.map fun n : Nat => (n : Int)) hn fun x hx => by
        obtain ⟨p, hp, rfl⟩ := List.mem_map.mp hx
        obtain ⟨k, e0, e1, _⟩ := l3 p (hM p hp)
        rw [e1]
        exact List.mem_map.mpr ⟨k, hB k e0, rfl⟩
      rw [List.length_map, List.length_map] at this
      omega
    · have hS3 := same_new nsa (SetTO P w sa L1)
      refine .inr ⟨sa, L1, d, 64, rfl, upd_same, fun p hp => tup _ hS3 p (hsub p hp), hd, fun p hp => ?_, fun L' lp hperm hnd hlt hpw nlp => ?_⟩
      · obtain ⟨k, e0, e1, _⟩ := l3 p (hsub p hp)
        obtain ⟨b1, b2⟩ := hb k e0
        rw [e1]
        refine ⟨by rw [List.length_map]; exact b1, fun z hz => ?_⟩
        obtain ⟨x, hx, rfl⟩ := List.mem_map.mp hz
        have := b2 x hx
        omega
      · have inL : ∀ p ∈ L', p ∈ L := fun p hp => hsub p (hperm.mem_iff.mp hp)
        have hS4 : Same H (upd (upd H sa (SetTO P w sa L1)) lp (.lst (L'.map fun q => V.ref q.1))) := hS3.trans (same_new nlp _)
        refine q lp (L'.map fun p => p.2.map Int.toNat) _ (hS3.free nlp) hS4 ⟨_, upd_same, ?_⟩ ?_ fun k => ?_
        · generalize upd (upd H sa (SetTO P w sa L1)) lp (.lst (L'.map fun q => V.ref q.1)) = H4 at hS4
          clear hnd hlt hpw nlp hperm
          induction L' with
          | nil => exact .nil
          | cons p r ih =>
            refine .cons ?_ (ih fun p hp => inL p (List.mem_cons_of_mem _ hp))
            obtain ⟨k, _, e1, e2⟩ := l3 p (inL p List.mem_cons_self)
            refine ⟨p.1, rfl, ?_⟩
            show H4 p.1 = some (.tup (iv (p.2.map Int.toNat)))
            rw [e1, nat_back]
            exact hS4 _ _ e2
        · have e : (L'.map fun p => p.2.map Int.toNat) = (L'.map (·.2)).map fun l => l.map Int.toNat := by rw [List.map_map]; rfl
          rw [e]
          refine List.pairwise_map.mpr (List.Pairwise.imp_of_mem (fun {a c} ha hc hac z => hac ?_) hnd)
          obtain ⟨p, hp, rfl⟩ := List.mem_map.mp ha
          obtain ⟨p', hp', rfl⟩ := List.mem_map.mp hc
          obtain ⟨k, _, e1, _⟩ := l3 p (inL p hp)
          obtain ⟨k', _, e1', _⟩ := l3 p' (inL p' hp')
          rw [e1, e1', nat_back, nat_back] at z
          rw [e1, e1', z]
        · rw [List.mem_map]
          constructor
          · rintro ⟨p, hp, rfl⟩
            obtain ⟨k, e0, e1, _⟩ := l3 p (inL p hp)
            rw [e1, nat_back]
            exact e0
          · intro hk
            have hm : (k.map fun n : Nat => (n : Int)) ∈ L.map (·.2) := by
              rw [l2]
              exact List.mem_map.mpr ⟨k, hk, rfl⟩
            obtain ⟨p, hp, ep⟩ := List.mem_map.mp hm
            have := hsup p hp
            obtain ⟨p', hp', ep'⟩ := List.mem_map.mp this
            refine ⟨p', hperm.mem_iff.mpr hp', ?_⟩
            rw [ep', ep, nat_back]
/-! ### dict(xs), the keys windows -/
theorem valV_fold {κ : Type} [DecidableEq κ] {k : κ} : ∀ (es : List (κ × V)) (acc : List (κ × V)), ((∀ e ∈ es, e.1 ≠ k) ∧ valV (es.foldl (fun acc e => putK acc e.1 e.2) acc) k = valV acc k) ∨ ∃ e ∈ es, e.1 = k ∧ valV (es.foldl (fun acc e => putK acc e.1 e.2) acc) k = some e.2
  | [], acc => .inl ⟨fun e he => (nomatch he), rfl⟩
  | e :: r, acc => by
    rw [List.foldl_cons]
    rcases valV_fold r (putK acc e.1 e.2) with ⟨h1, h2⟩ | ⟨e', h1, h2, h3⟩
    · by_cases c : e.1 = k
      · refine .inr ⟨e, List.mem_cons_self, c, ?_⟩
        rw [h2, valV_put, if_pos c.symm]
      · refine .inl ⟨fun e' he => ?_, ?_⟩
        · rcases List.mem_cons.mp he with rfl | he
          · exact c
          · exact h1 e' he
        · rw [h2, valV_put, if_neg fun z => c z.symm]
    · exact .inr ⟨e', List.mem_cons_of_mem _ h1, h2, h3⟩
theorem foldT (es : List Ent) : ∀ acc, mergeT acc es = (es.map fun e => (e.1, e.2.2)).foldl (fun acc e => putK acc e.1 e.2) acc := by
  induction es with
  | nil => exact fun acc => rfl
  | cons e r ih => exact fun acc => ih _
theorem foldl_put_len {κ : Type} [DecidableEq κ] : ∀ (es : List (κ × V)) (acc : List (κ × V)), (es.foldl (fun acc e => putK acc e.1 e.2) acc).length ≤ acc.length + es.length
  | [], _ => Nat.le_refl _
  | e :: r, acc => by
    have h1 := foldl_put_len r (putK acc e.1 e.2)
    have h2 := length_putK acc e.1 e.2
    rw [List.foldl_cons, List.length_cons]
    omega
/-- a key and a value in a tuple -/
def PrAt (b : Bool) (H : Hp) (p : Addr) (e : List Nat × V) : Prop := ∃ v, H p = some (.tup [v, e.2]) ∧ KeyAt b H v e.1
def PrL (b : Bool) (H : Hp) (l : Addr) (es : List (List Nat × V)) : Prop := ∃ as : List Addr, H l = some (.lst (as.map V.ref)) ∧ Paired (PrAt b H) as es
theorem PrAt.same {b : Bool} {H H' : Hp} {p : Addr} {e : List Nat × V} (h : PrAt b H p e) (s : Same H H') : PrAt b H' p e := by
  obtain ⟨v, h1, h2⟩ := h
  exact ⟨v, s _ _ h1, h2.same s⟩
theorem PrL.same {b : Bool} {H H' : Hp} {l : Addr} {es : List (List Nat × V)} (h : PrL b H l es) (s : Same H H') : PrL b H' l es := by
  obtain ⟨as, h1, h2⟩ := h
  exact ⟨as, s _ _ h1, paired_mono (fun p z h => h.same s) h2⟩
theorem PrL.add {b : Bool} {H : Hp} {l p : Addr} {es : List (List Nat × V)} {e : List Nat × V} (h : PrL b H l es) (hp : PrAt b H p e) : ∃ xs, H l = some (.lst xs) ∧ xs.length = es.length ∧ PrL b (upd H l (.lst (xs ++ [.ref p]))) l (es ++ [e]) := by
  obtain ⟨as, h1, h2⟩ := h
  have no : ∀ xs, HO.lst (as.map V.ref) ≠ .tup xs := fun xs z => by cases z
  have over : ∀ (q : Addr) (y : List Nat × V), PrAt b H q y → PrAt b (upd H l (.lst (as.map V.ref ++ [.ref p]))) q y := fun q y ⟨v, g1, g2⟩ => ⟨v, by rw [upd_ne (ne_of g1 h1 (fun z => no _ z.symm))]; exact g1, g2.over h1 no⟩
  exact ⟨as.map V.ref, h1, by rw [List.length_map]; exact paired_len h2, as ++ [p], by rw [upd_same, List.map_append]; rfl, paired_app (paired_mono over h2) (over _ _ hp)⟩
theorem kv_true {H : Hp} : ∀ {as : List Addr} {es : List (List Nat × V)}, Paired (PrAt true H) as es → ∃ kvs : List (Key × V), Paired (fun p kv => SqT K H p [kV kv.1, kv.2]) as kvs ∧ kvs.length = es.length ∧ (∀ kv ∈ kvs, ∃ p : Nat, kv.1 = .inl (p : Int) ∧ ([p], kv.2) ∈ es) ∧ ∀ e ∈ es, ∃ p : Nat, e.1 = [p] ∧ ((.inl (p : Int) : Key), e.2) ∈ kvs
  | _, _, .nil => ⟨[], .nil, rfl, (fun kv h => nomatch h), fun e h => nomatch h⟩
  | _, _, .cons (b := e) h r => by
    obtain ⟨kvs, h1, h2, h3, h4⟩ := kv_true r
    obtain ⟨v, g1, p, g2, rfl⟩ := h
    refine ⟨(.inl (p : Int), e.2) :: kvs, .cons (SqT.of g1) h1, by rw [List.length_cons, List.length_cons, h2], fun kv hk => ?_, fun e' he => ?_⟩
    · rcases List.mem_cons.mp hk with rfl | hk
      · exact ⟨p, rfl, by rw [← g2]; exact List.mem_cons_self⟩
      · obtain ⟨p', k1, k2⟩ := h3 kv hk
        exact ⟨p', k1, List.mem_cons_of_mem _ k2⟩
    · rcases List.mem_cons.mp he with rfl | he
      · exact ⟨p, g2, List.mem_cons_self⟩
      · obtain ⟨p', k1, k2⟩ := h4 e' he
        exact ⟨p', k1, List.mem_cons_of_mem _ k2⟩
theorem kv_false {H : Hp} : ∀ {as : List Addr} {es : List (List Nat × V)}, Paired (PrAt false H) as es → ∃ kvs : List Ent, Paired (EntAt H) as kvs ∧ kvs.length = es.length ∧ kvs.map (fun e => (e.1, e.2.2)) = es.map fun e => (wkk e.1, e.2)
  | _, _, .nil => ⟨[], .nil, rfl, rfl⟩
  | _, _, .cons (b := e) h r => by
    obtain ⟨kvs, h1, h2, h3⟩ := kv_false r
    obtain ⟨v, g1, a, rfl, ha⟩ := h
    exact ⟨(wkk e.1, a, e.2) :: kvs, .cons ⟨g1, by rw [ha, wkk_tup]⟩ h1, by rw [List.length_cons, List.length_cons, h2], by rw [List.map_cons, List.map_cons, h3]⟩
theorem dict_key {H : Hp} {D : Addr} {b : Bool} {es : List (List Nat × V)} (hD : PrL b H D es) {Q : VK}
    (q : ∀ p o F, H p = none → DkAt b (upd H p o) p es.length F → (∀ k, (∀ e ∈ es, e.1 ≠ k) → F k = none) → (∀ k, (∃ e ∈ es, e.1 = k) → ∃ e ∈ es, e.1 = k ∧ F k = some e.2) → Q (.ref p) (upd H p o)) :
    rDictP K [.ref D] H Q ∨ rDictT K [.ref D] H Q := by
  obtain ⟨as, h1, h2⟩ := hD
  cases b with
  | true =>
    obtain ⟨kvs, g1, g2, g3, g4⟩ := kv_true (K := K) h2
    refine .inl ⟨D, as, kvs, rfl, SqL.of h1, g1, fun p np => ?_⟩
    refine q p _ (fun k => match k with | [x] => valV (mergeK [] kvs) (.inl (x : Int)) | _ => none) np ⟨_, upd_same, ?_, fun x => rfl⟩ (fun k hk => ?_) fun k hk => ?_
    · have := foldl_put_len kvs ([] : List (Key × V))
      rw [List.length_nil] at this
      rw [← g2]
      exact Nat.le_trans this (by omega)
    · match k, hk with
      | [], _ => rfl
      | [x], hk =>
        rcases valV_fold (k := (.inl (x : Int) : Key)) kvs [] with ⟨_, c2⟩ | ⟨e, c1, c2, c3⟩
        · exact c2
        · obtain ⟨p', k1, k2⟩ := g3 e c1
          rw [c2] at k1
          have : x = p' := Int.ofNat.inj (Sum.inl.inj k1)
          subst this
          exact absurd rfl (hk _ k2)
      | _ :: _ :: _, _ => rfl
    · obtain ⟨e, he, rfl⟩ := hk
      obtain ⟨p', k1, k2⟩ := g4 e he
      rw [k1]
      rcases valV_fold (k := (.inl (p' : Int) : Key)) kvs [] with ⟨c1, _⟩ | ⟨e', c1, c2, c3⟩
      · exact absurd rfl (c1 _ k2)
      · obtain ⟨p2, k3, k4⟩ := g3 e' c1
        rw [c2] at k3
        have : p' = p2 := Int.ofNat.inj (Sum.inl.inj k3)
        subst this
        exact ⟨_, k4, rfl, c3⟩
  | false =>
    obtain ⟨kvs, g1, g2, g3⟩ := kv_false h2
    refine .inr ⟨D, as, kvs, rfl, SqL.of h1, g1, fun p np => ?_⟩
    have em : mergeT [] kvs = (es.map fun e => (wkk e.1, e.2)).foldl (fun acc e => putK acc e.1 e.2) [] := by rw [foldT, g3]
    refine q p _ (fun k => valV (mergeT [] kvs) (wkk k)) np ⟨_, upd_same, ?_, fun x => rfl⟩ (fun k hk => ?_) fun k hk => ?_
    · have := foldl_put_len (es.map fun e => (wkk e.1, e.2)) ([] : List (List Key × V))
      rw [List.length_nil, List.length_map] at this
      rw [em]
      omega
    · show valV (mergeT [] kvs) (wkk k) = none
      rw [em]
      rcases valV_fold (k := wkk k) (es.map fun e => (wkk e.1, e.2)) [] with ⟨_, c2⟩ | ⟨e, c1, c2, c3⟩
      · exact c2
      · obtain ⟨e', he, rfl⟩ := List.mem_map.mp c1
        exact absurd (wkk_inj c2) (hk _ he)
    · obtain ⟨e, he, rfl⟩ := hk
      show ∃ e' ∈ es, e'.1 = e.1 ∧ valV (mergeT [] kvs) (wkk e.1) = some e'.2
      rw [em]
      rcases valV_fold (k := wkk e.1) (es.map fun e => (wkk e.1, e.2)) [] with ⟨c1, _⟩ | ⟨e', c1, c2, c3⟩
      · exact absurd rfl (c1 _ (List.mem_map.mpr ⟨e, he, rfl⟩))
      · obtain ⟨e2, he2, rfl⟩ := List.mem_map.mp c1
        exact ⟨e2, he2, wkk_inj c2, c3⟩
end
end My
set_option maxHeartbeats 4000000
namespace My
open PySem L2 PyProof.Rows
/-- the ties of the close lot of a window -/
def LotP (ts : List (Nat × Nat)) (W p : List Nat) (x : Nat) : Prop := ∃ a b, (a, b, x) ∈ winZ ts W ∧ WRch (winZ ts W) p a ∧ WRch (winZ ts W) b p
theorem winZ_key {N : Nat} {ts : List (Nat × Nat)} {W : List Nat} (ho : OkWeb N ts) (hW : Chain ts W) (hN : N ≤ 60) (hm : ts.length ≤ 60) {z : Wst} (h : z ∈ winZ ts W) :
    (∀ x ∈ z.1, x < 60) ∧ (W.length = 1 ∨ (z.1.length = W.length - 1 ∧ z.1 ∈ walksW ts (W.length - 2))) ∧ z.2.2 < ts.length := by
  obtain ⟨p, q, x⟩ := z
  by_cases c : W.length = 1
  · obtain ⟨h1, h2, rfl, rfl⟩ := (winZ_one c).mp h
    refine ⟨fun y hy => ?_, .inl c, h1⟩
    rw [List.mem_singleton.mp hy]
    have := (ho.ok _ (List.mem_of_getElem? (tie_get h1))).1
    omega
  · have h0 := hW.n0
    obtain ⟨h1, h2, h3, rfl⟩ := (winZ_more (by omega)).mp h
    have hp0 : 0 < p.length := by omega
    obtain ⟨c1, c2, _⟩ := (chain_snoc hp0).mp h1
    refine ⟨fun y hy => ?_, .inr ⟨?_, walksW_mem.mpr ⟨c1, ?_⟩⟩, c2⟩
    · have := c1.num y hy
      omega
    · show p.length = _
      omega
    · show p.length = _
      omega
theorem winZ_len {ts : List (Nat × Nat)} {W : List Nat} (h0 : 0 < W.length) {M : Nat} (hm : ts.length ≤ M) (hbd : ∀ k, k < W.length → (walksW ts k).length ≤ M) : (winZ ts W).length ≤ M := by
  unfold winZ
  split
  · rw [List.length_map]
    refine Nat.le_trans (List.length_filter_le _ _) ?_
    rw [List.length_range]
    exact hm
  · rw [List.length_map]
    exact Nat.le_trans (List.length_filter_le _ _) (hbd _ (by omega))
section
variable {P : Program} {w : World} {K : PySem.W.Frag} {mg : Str → Option Value} {base : Heap} {C : Addr}
def sp_law_lots (_ : PySem.W.Frag) (_ : Addr) : Sp := fun vs H Q _ => ∃ t s N ts W, vs = [.ref t, .ref s] ∧ TiesAt H t ts ∧ H s = some (.lst (iv W)) ∧ OkWeb N ts ∧ Chain ts W ∧ N ≤ 60 ∧ W.length ≤ 100 ∧ ts.length ≤ 60 ∧ (∀ k, k < W.length → (walksW ts k).length ≤ 900) ∧ (1 < W.length → (walksW ts (W.length - 2)).length < 63) ∧
  ∀ p LL Sp H', H p = none → Same H H' → LolAt H' p LL → (∀ k, k ∈ Sp ↔ ∃ q x, (k, q, x) ∈ winZ ts W) → Paired (fun (L : List Nat) (k : List Nat) => L.Pairwise (· < ·) ∧ ∀ x, x ∈ L ↔ LotP ts W k x) LL Sp → LL.length ≤ 900 → Q (.ref p) H'
theorem ok_law_lots (D : Def K mg "_law_lots" s_law_lots ["_law_ties_here", "_law_walk_here"]) (B : Bs mg) (Glb : Glo mg) (WK : WebK K mg C)
    (h_law_steps : Good P w K mg base "_law_steps" s_law_steps ["_law_ties_here", "_law_walk_here"] 2 (sp_law_steps K C))
    (h_law_come_to : Good P w K mg base "_law_come_to" s_law_come_to ["_law_steps_here", "_law_near"] 1 (sp_law_come_to K C)) :
    Good P w K mg base "_law_lots" s_law_lots ["_law_ties_here", "_law_walk_here"] 3 (sp_law_lots K C) := by
  refine D.good fun f fd F => ?_
  obtain ⟨f_law_steps, d_law_steps, O_law_steps, m_law_steps, k_law_steps, b_law_steps, F_law_steps⟩ := h_law_steps
  obtain ⟨f_law_come_to, d_law_come_to, O_law_come_to, m_law_come_to, k_law_come_to, b_law_come_to, F_law_come_to⟩ := h_law_come_to
  refine F.ok sc_law_lots (fun vs H Q E h => ?_) (fun cdv A outer s H vs Q E hr h => ?_)
  · obtain ⟨t, s, N, ts, W, rfl, hT, hs, ho, hW, hN, hWl, hm, hbd, hwin, q⟩ := h
    first | rfl | (rcases h with ⟨_, _, rfl, _⟩ | ⟨_, rfl, _⟩ <;> rfl)
  obtain ⟨t, s, N, ts, W, rfl, hT, hs, ho, hW, hN, hWl, hm, hbd, hwin, q⟩ := h
  refine ⟨_, (pss_cons (ps_set (i := 2) sc_law_lots.nd rfl (by first | exact Or.inl rfl | exact Or.inr rfl) (pe_call O_law_steps hr rfl m_law_steps k_law_steps b_law_steps .nil pass0 (pa_cons (pv 0) (pa_cons (pv 1) pa_nil))))
  (pss_cons (ps_set (i := 3) sc_law_lots.nd rfl (by first | exact Or.inl rfl | exact Or.inr rfl) (pe_callB (cr_either (cr_sortIn rfl) (cr_sortedT rfl)) (by rfl) B.sorted (by decide +kernel) (pa_cons (pe_callTy (cr_either (cr_setIn rfl) (cr_setTf rfl hr.units)) (by rfl) B.set (by decide +kernel) (pa_cons (pe_lc (own := [("_law_step", 11)]) (g := gName 11) (by rfl) sc_law_lots.nd (pi_list (pv 2)) (blkOk_by (own := [("_law_step", 11)]) (N := ["_law_ties_here", "_law_walk_here", "_law_steps_here", "_law_spots", "_law_reaches", "_law_lots_here", "_law_spot", "_law_lot", "_law_near", "_law_far", "_law_tie", "_law_step"]) (sc := defScope s_law_lots) (by decide +kernel)) (fun _ _ _ _ _ => (pg_name (i := 11) sc_law_lots.nd rfl (by first | exact Or.inl rfl | exact Or.inr rfl))) (fun _ _ _ _ _ => pts_nil) (fun _ _ _ _ _ => (pe_ix (ix_tupK (K := K) rfl) (pv 11) pe_int (by exact fun _ _ => rfl)))) pa_nil)) pa_nil)))
  (pss_cons (ps_set (i := 4) sc_law_lots.nd rfl (by first | exact Or.inl rfl | exact Or.inr rfl) (pe_callTy (cr_either (cr_dictP rfl) (cr_dictT rfl hr.units)) (by rfl) B.dict (by decide +kernel) (pa_cons (pe_lc (own := [("_law_spot", 6)]) (g := gName 6) (by rfl) sc_law_lots.nd (pi_list (pv 3)) (blkOk_by (own := [("_law_spot", 6)]) (N := ["_law_ties_here", "_law_walk_here", "_law_steps_here", "_law_spots", "_law_reaches", "_law_lots_here", "_law_spot", "_law_lot", "_law_near", "_law_far", "_law_tie", "_law_step"]) (sc := defScope s_law_lots) (by decide +kernel)) (fun _ _ _ _ _ => (pg_name (i := 6) sc_law_lots.nd rfl (by first | exact Or.inl rfl | exact Or.inr rfl))) (fun _ _ _ _ _ => pts_nil) (fun _ _ _ _ _ => (pe_tup (pa_cons (pv 6) (pa_cons (pe_call O_law_come_to (hr.mono (by decide)) rfl m_law_come_to k_law_come_to b_law_come_to .nil pass0 (pa_cons (pv 2) (pa_cons (pv 6) pa_nil))) pa_nil))))) pa_nil)))
  (pss_cons (ps_set (i := 5) sc_law_lots.nd rfl (by first | exact Or.inl rfl | exact Or.inr rfl) (pe_lst pa_nil))
  (pss_cons (ps_for PassesOwn.never rfl (pi_list (pv 3)) (pg_name (i := 6) sc_law_lots.nd rfl (by first | exact Or.inl rfl | exact Or.inr rfl))
    (pss_cons (ps_set (i := 7) sc_law_lots.nd rfl (by first | exact Or.inl rfl | exact Or.inr rfl) (pe_lst pa_nil))
  (pss_cons (ps_for PassesOwn.never rfl (pi_list (pv 2)) (pg_tup rfl (pgs_cons (pg_name (i := 8) sc_law_lots.nd rfl (by first | exact Or.inl rfl | exact Or.inr rfl)) (pgs_cons (pg_name (i := 9) sc_law_lots.nd rfl (by first | exact Or.inl rfl | exact Or.inr rfl)) (pgs_cons (pg_name (i := 10) sc_law_lots.nd rfl (by first | exact Or.inl rfl | exact Or.inr rfl)) pgs_nil))))
    (pss_one (ps_if (PW.pt (pw_and (pt_cmp (pc_din (hu_of hr) (pv 8) (pe_dget (hu_of hr) (pv 4) (pv 6) (fun _ _ => rfl)))) (pw_and1 (pt_cmp (pc_din (hu_of hr) (pv 6) (pe_dget2 (hu_of hr) (pv 4) (pv 9) (pe_either pe_dnewK pe_dnewT) ⟨rfl, rfl, rfl, rfl⟩))))))
    (pss_one (ps_expr (pe_bm PySem.F.plainAttrs_list PySem.F.slot_list_append PySem.F.type_list_append mt_append (pv 7) (pa_cons (pv 10) pa_nil)))) pss_nil)))
  (pss_one (ps_expr (pe_bm PySem.F.plainAttrs_list PySem.F.slot_list_append PySem.F.type_list_append mt_append (pv 5) (pa_cons (pe_callB (cr_sortIn rfl) (by rfl) B.sorted (by decide +kernel) (pa_cons (pe_callTy (cr_setIn rfl) (by rfl) B.set (by decide +kernel) (pa_cons (pv 7) pa_nil)) pa_nil)) pa_nil)))))))
  (pss_one (ps_ret (pv 5)))))))), ?_⟩
  have h0 := hW.n0
  have hZl := winZ_len (M := 900) h0 (by omega) hbd
  have hZk : ∀ z ∈ winZ ts W, _ := fun z hz => winZ_key ho hW hN hm hz
  refine ⟨_, rfl, _, rfl, t, s, ts, W, rfl, hT, hs, hW, hWl, by omega, hbd, fun st H1 hS1 nst hst => ?_⟩
  obtain ⟨b, hb⟩ : ∃ b, b = decide (W.length = 1) := ⟨_, rfl⟩
  rw [← hb] at hst
  generalize hZ : winZ ts W = Z at hst hZl hZk
  obtain ⟨zas, z1, z2⟩ := id hst
  have zl := paired_len z2
  refine ⟨_, rfl, st, rfl, ⟨_, SqL.of z1⟩, fun D nD => ?_⟩
  refine lc_list (K := K) (a := st) (xs := zas.map V.ref) (fun i H' => Same H1 H' ∧ KsL b H' D ((Z.take i).map fun z => z.1)) ⟨same_new nD _, [], upd_same, .nil⟩ (fun i H' _ ⟨hS', _⟩ => SqL.of (hS' _ _ z1)) ?_ ?_
  · rintro i x H2 hx ⟨hS2, hD2⟩
    obtain ⟨py, z, rfl, _, hz, va, vb, h1, h2, h3⟩ := paired_at z2 hx
    obtain ⟨xs, y1, y2, y3⟩ := hD2.add (h2.same hS2)
    refine ⟨rfl, _, rfl, _, _, _, va, rfl, rfl, SqT.of (hS2 _ _ h1), rfl, xs, y1, ?_, same_upd hS2 nD, ?_⟩
    · rw [y2, List.length_map, List.length_take]; exact sml1000 (by omega)
    · rw [List.take_succ, hz, List.map_append]
      exact y3
  rintro H2 ⟨hS2, hD2⟩
  rw [List.length_map, zl, List.take_length] at hD2
  refine spots_key (K := K) (P := P) (w := w) hD2 (d := W.length - 1) (B := walksW ts (W.length - 2)) (by rw [List.length_map]; omega) (fun _ k hk x hx => ?_) (fun e => ?_) fun lp Sp H3 nlp hS3 hlp hnd hSp => ?_
  · obtain ⟨z, hz, rfl⟩ := List.mem_map.mp hk
    exact (hZk z hz).1 x hx
  · rw [e] at hb
    have c1 : ¬ W.length = 1 := of_decide_eq_false hb.symm
    refine ⟨by omega, fun k hk => ?_, fun k hk => ?_, hwin (by omega)⟩
    · obtain ⟨z, hz, rfl⟩ := List.mem_map.mp hk
      exact ⟨((hZk z hz).2.1.resolve_left c1).1, (hZk z hz).1⟩
    · obtain ⟨z, hz, rfl⟩ := List.mem_map.mp hk
      exact ((hZk z hz).2.1.resolve_left c1).2
  have hS13 := hS2.trans hS3
  have hst3 := hst.same hS13
  obtain ⟨lxs, l1, l2⟩ := id hlp
  have ll := paired_len l2
  refine ⟨_, rfl, lp, rfl, ⟨_, SqL.of l1⟩, fun R nR => ?_⟩
  refine lc_list (K := K) (a := lp) (xs := lxs) (fun i H' => Same H3 H' ∧ ∃ es : List (List Nat × V), es.map Prod.fst = Sp.take i ∧ PrL b H' R es ∧ ∀ e ∈ es, ∃ f F, e.2 = .ref f ∧ DkAt b H' f 2000 F ∧ ∀ j, (F j).isSome = true ↔ WRch Z e.1 j) ⟨same_new nR _, [], rfl, ⟨[], upd_same, .nil⟩, fun e he => nomatch he⟩ (fun i H' _ ⟨hS', _⟩ => SqL.of (hS' _ _ l1)) ?_ ?_
  · rintro i x H4 hx ⟨hS4, es, he1, hR4, he2⟩
    obtain ⟨kx, hkx, hxk⟩ := paired_get l2 hx
    have hxk4 := hxk.same hS4
    refine ⟨rfl, _, rfl, _, rfl, _, rfl, b, st, x, Z, kx, rfl, hst3.same hS4, hxk4, hZl, fun f F H5 hS5 nf hf hF => ⟨(by show 2 ≤ sizeLine; decide), fun tp ntp => ?_⟩⟩
    have hS6 := hS5.trans (same_new ntp (.tup [x, .ref f]))
    obtain ⟨xs, y1, y2, y3⟩ := (hR4.same hS6).add (p := tp) (e := (kx, .ref f)) ⟨x, upd_same, hxk4.same hS6⟩
    have hel : es.length = min i Sp.length := by
      have := congrArg List.length he1
      rw [List.length_map, List.length_take] at this
      exact this
    have nRH : H3 R = none := nR
    have keepD : ∀ (g : Addr) (G : List Nat → Option V), DkAt b (upd H5 tp (.tup [x, .ref f])) g 2000 G → DkAt b (upd (upd H5 tp (.tup [x, .ref f])) R (.lst (xs ++ [.ref tp]))) g 2000 G := fun g G h => h.kept (a := R) (fun c o e n => by rw [upd_ne n]; exact e) fun z => by
      obtain ⟨o, e1, _, e2⟩ := h.obj
      rw [z, y1] at e1
      exact e2 _ (Option.some.inj e1).symm
    refine ⟨xs, y1, ?_, same_upd (hS4.trans hS6) nR, es ++ [(kx, .ref f)], ?_, y3, fun e he => ?_⟩
    · have hSpl : Sp.length ≤ 900 := by
        have := len_sub (B := Z.map fun z => z.1) hnd fun k hk => (hSp k).mp hk
        rw [List.length_map] at this
        omega
      rw [y2, hel]
      exact sml1000 (by omega)
    · rw [List.map_append, he1, List.take_succ, hkx]
      rfl
    · rcases List.mem_append.mp he with he | he
      · obtain ⟨g, G, g1, g2, g3⟩ := he2 e he
        exact ⟨g, G, g1, keepD g G (g2.same hS6), g3⟩
      · rw [List.mem_singleton.mp he]
        exact ⟨f, F, rfl, keepD f F (hf.same (same_new ntp _)), hF⟩
  rintro H4 ⟨hS4, es, he1, hR4, he2⟩
  rw [ll, List.take_length] at he1
  have hSpl : Sp.length ≤ 900 := by
    have := len_sub (B := Z.map fun z => z.1) hnd fun k hk => (hSp k).mp hk
    rw [List.length_map] at this
    omega
  refine dict_key (K := K) hR4 fun rd o G nrd hG hnone hsome => ?_
  have hS5 := same_new nrd o
  have hS05 := (hS1.trans hS13).trans (hS4.trans hS5)
  have hst5 := hst3.same (hS4.trans hS5)
  have hlp5 := hlp.same (hS4.trans hS5)
  have he25 : ∀ e ∈ es, ∃ f F, e.2 = .ref f ∧ DkAt b (upd H4 rd o) f 2000 F ∧ ∀ j, (F j).isSome = true ↔ WRch Z e.1 j := fun e he => by
    obtain ⟨f, F, g1, g2, g3⟩ := he2 e he
    exact ⟨f, F, g1, g2.same hS5, g3⟩
  generalize upd H4 rd o = H5 at hG hS5 hS05 hst5 hlp5 he25
  -- what is told of a window
  have told : ∀ k, k ∈ Sp → ∃ f F, G k = some (.ref f) ∧ DkAt b H5 f 2000 F ∧ ∀ j, (F j).isSome = true ↔ WRch Z k j := fun k hk => by
    rw [← he1] at hk
    obtain ⟨e0, h1, rfl⟩ := List.mem_map.mp hk
    obtain ⟨e, h2, h3, h4⟩ := hsome e0.1 ⟨e0, h1, rfl⟩
    obtain ⟨f, F, g1, g2, g3⟩ := he25 e h2
    exact ⟨f, F, by rw [h4, g1], g2, fun j => by rw [g3, h3]⟩
  have untold : ∀ k, k ∉ Sp → G k = none := fun k hk => hnone k fun e he z => hk (by rw [← he1]; exact List.mem_map.mpr ⟨e, he, z⟩)
  have hSp' : ∀ k, k ∈ Sp ↔ ∃ q x, (k, q, x) ∈ Z := fun k => by
    rw [hSp, List.mem_map]
    exact ⟨fun ⟨z, h, e⟩ => ⟨z.2.1, z.2.2, by rw [← e]; exact h⟩, fun ⟨q, x, h⟩ => ⟨_, h, rfl⟩⟩
  refine ⟨Nat.zero_le _, fun La nLa => ?_⟩
  have nLaH : H La = none := hS05.free nLa
  have hS6 := same_new nLa (.lst [])
  have hLa6 : LolAt (upd H5 La (.lst [])) La [] := ⟨[], upd_same, .nil⟩
  have hst6 := hst5.same hS6
  have hlp6 := hlp5.same hS6
  generalize hH6 : upd H5 La (.lst []) = H6 at hLa6 hS6 hst6 hlp6
  obtain ⟨lys, m1, m2⟩ := id hlp5
  have ml := paired_len m2
  obtain ⟨was, w1, w2⟩ := id hst5
  have wl := paired_len w2
  refine ⟨_, rfl, lp, rfl, ⟨_, SqL.of (hS6 _ _ m1)⟩, for_list (K := K) (a := lp) (xs := lys) (fun i σ H' => ∃ v6 v7 v8 v9 v10 : Option V, σ = [some (.ref t), some (.ref s), some (.ref st), some (.ref lp), some (.ref rd), some (.ref La), v6, v7, v8, v9, v10, none] ∧ Same H5 H' ∧ ∃ LL : List (List Nat), LolAt H' La LL ∧ LL.length = i ∧ Paired (fun (L : List Nat) (k : List Nat) => L.Pairwise (· < ·) ∧ ∀ x, x ∈ L ↔ ∃ a c, (a, c, x) ∈ Z ∧ WRch Z k a ∧ WRch Z c k) LL (Sp.take i)) ⟨none, none, none, none, none, rfl, hS6, [], hLa6, rfl, .nil⟩ (fun i σ H' _ ⟨_, _, _, _, _, _, hS', _⟩ => SqL.of (hS' _ _ m1)) ?_ ?_⟩
  · rintro i x σ H7 hx ⟨v6, v7, v8, v9, v10, rfl, hS7, LL, hLL, hLLi, hP⟩
    obtain ⟨kx, hkx, hxk⟩ := paired_get m2 hx
    have hil : i < Sp.length := (List.getElem?_eq_some_iff.mp hkx).1
    have hkS : kx ∈ Sp := List.mem_of_getElem? hkx
    refine ⟨Nat.zero_le _, fun lt nlt => ?_⟩
    have hS8 := same_new nlt (.lst [])
    have hlt8 : upd H7 lt (.lst []) lt = some (.lst (iv [])) := upd_same
    generalize upd H7 lt (.lst []) = H8 at hS8 hlt8
    refine ⟨_, rfl, st, rfl, ⟨_, SqL.of (hS8 _ _ (hS7 _ _ w1))⟩, for_list (K := K) (a := st) (xs := was.map V.ref) (fun j σ H' => ∃ v8 v9 v10 : Option V, σ = [some (.ref t), some (.ref s), some (.ref st), some (.ref lp), some (.ref rd), some (.ref La), some x, some (.ref lt), v8, v9, v10, none] ∧ Same H7 H' ∧ ∃ L : List Nat, H' lt = some (.lst (iv L)) ∧ L.length ≤ j ∧ ∀ y, y ∈ L ↔ ∃ z ∈ Z.take j, z.2.2 = y ∧ WRch Z kx z.1 ∧ WRch Z z.2.1 kx) ⟨v8, v9, v10, rfl, hS8, [], hlt8, Nat.le_refl _, fun y => by simp⟩ (fun i σ H' _ ⟨_, _, _, _, hS', _⟩ => SqL.of (hS' _ _ (hS7 _ _ w1))) ?_ ?_⟩
    · rintro j y σ H9 hy ⟨v8, v9, v10, rfl, hS79, L, hL, hLj, hLm⟩
      have hS9 := hS7.trans hS79
      obtain ⟨pz, z, rfl, hjz, hz, va, vb, h1, h2, h3⟩ := paired_at w2 hy
      have hjl := (List.getElem?_eq_some_iff.mp hz).1
      have hzm := List.mem_of_getElem? hz
      refine ⟨pz, _, rfl, SqT.of (hS9 _ _ h1), rfl, _, _, rfl, _, _, rfl, _, _, rfl, rfl, ?_⟩
      obtain ⟨fk, Fk, k1, k2, k3⟩ := told kx hkS
      have hG9 := hG.same hS9
      have hx9 := hxk.same hS9
      have ha9 := h2.same hS9
      have hb9 := h3.same hS9
      have next : ∀ (L' : List Nat), (∀ y, y ∈ L' ↔ y ∈ L ∨ (y = z.2.2 ∧ WRch Z kx z.1 ∧ WRch Z z.2.1 kx)) → ∀ y, y ∈ L' ↔ ∃ z ∈ Z.take (j + 1), z.2.2 = y ∧ WRch Z kx z.1 ∧ WRch Z z.2.1 kx := fun L' h y => by
        rw [h, hLm, List.take_succ, hz, Option.toList_some]
        constructor
        · rintro (⟨z', a1, a2⟩ | ⟨rfl, a2⟩)
          · exact ⟨z', List.mem_append_left _ a1, a2⟩
          · exact ⟨z, by simp, rfl, a2⟩
        · rintro ⟨z', a1, a2, a3⟩
          rcases List.mem_append.mp a1 with a1 | a1
          · exact .inl ⟨z', a1, a2, a3⟩
          · rw [List.mem_singleton.mp a1] at a2 a3
            exact .inr ⟨a2.symm, a3⟩
      have gk : DGet H9 rd x (some (.ref fk)) := by
        rw [← k1]
        exact hG9.get hx9
      refine ⟨_, rfl, _, rfl, _, rfl, rd, _, rfl, gk, fk, Fk z.1, rfl, (k2.same hS9).get ha9, _, rfl, ?_⟩
      have stop : ∀ (H' : Hp) (v9 v10 : Option V), Same H7 H' → H' lt = some (.lst (iv L)) → ¬ (WRch Z kx z.1 ∧ WRch Z z.2.1 kx) → ∃ (w8 w9 w10 : Option V), [some (V.ref t), some (.ref s), some (.ref st), some (.ref lp), some (.ref rd), some (.ref La), some x, some (.ref lt), some va, v9, v10, none] = [some (V.ref t), some (.ref s), some (.ref st), some (.ref lp), some (.ref rd), some (.ref La), some x, some (.ref lt), w8, w9, w10, none] ∧ Same H7 H' ∧ ∃ L : List Nat, H' lt = some (.lst (iv L)) ∧ L.length ≤ j + 1 ∧ ∀ y, y ∈ L ↔ ∃ z ∈ Z.take (j + 1), z.2.2 = y ∧ WRch Z kx z.1 ∧ WRch Z z.2.1 kx := fun H' v9 v10 a1 a3 a4 =>
        ⟨_, _, _, rfl, a1, L, a3, by omega, next L fun y => ⟨.inl, fun h => h.resolve_right fun h => a4 h.2⟩⟩
      cases c1 : (Fk z.1).isSome with
      | false =>
        refine iteF ?_
        exact stop H9 _ _ hS79 hL fun h => by
          have := (k3 z.1).mpr h.1
          rw [c1] at this
          cases this
      | true =>
        refine iteT ?_
        have r1 := (k3 z.1).mp c1
        refine ⟨_, rfl, _, rfl, rd, rfl, hG9.is, _, rfl, ?_⟩
        refine dnew_key b fun ed oe ned no1 no2 hed => ?_
        have hS10 := hS9.trans (same_new ned oe)
        have hS710 := hS79.trans (same_new ned oe)
        have hL10 := same_new ned oe _ _ hL
        generalize upd H9 ed oe = H10 at hed hS10 hS710 hL10
        refine ⟨G z.2.1, (hG.same hS10).get (h3.same hS10), ?_⟩
        obtain ⟨c, Fc, n, e1, e2, e3⟩ : ∃ c Fc n, (G z.2.1).getD (.ref ed) = .ref c ∧ DkAt b H10 c n Fc ∧ ((Fc kx).isSome = true ↔ WRch Z z.2.1 kx) := by
          by_cases cz : z.2.1 ∈ Sp
          · obtain ⟨fz, Fz, g1, g2, g3⟩ := told z.2.1 cz
            exact ⟨fz, Fz, 2000, by rw [g1]; rfl, g2.same hS10, g3 kx⟩
          · refine ⟨ed, fun _ => none, 0, by rw [untold _ cz]; rfl, hed, (fun h => nomatch h), fun h => ?_⟩
            exfalso
            have key : ∀ k, WRch Z z.2.1 k → k = z.2.1 := fun k h => by
              induction h with
              | refl => rfl
              | step _ h2 ih =>
                rw [ih] at h2
                exact absurd ((hSp' _).mpr ⟨_, _, h2⟩) cz
            exact cz (key kx h ▸ hkS)
        refine ⟨c, Fc kx, e1, e2.get (hxk.same hS10), _, rfl, ?_⟩
        cases c2 : (Fc kx).isSome with
        | false =>
          refine iteF ?_
          exact stop H10 _ _ hS710 hL10 fun h => by
            have := e3.mpr h.2
            rw [c2] at this
            cases this
        | true =>
          refine iteT ?_
          have r2 := e3.mp c2
          refine ⟨_, rfl, .inl ⟨rfl, _, SqL.of hL10⟩, _, rfl, lt, _, _, rfl, rfl, hL10, by rw [iv_length]; exact sml1000 (by omega), ?_⟩
          refine ⟨_, _, _, rfl, same_upd hS710 nlt, L ++ [z.2.2], by rw [upd_same, iv_app], by rw [List.length_append]; show L.length + 1 ≤ _; omega, next _ fun y => ?_⟩
          rw [List.mem_append, List.mem_singleton]
          exact or_congr Iff.rfl ⟨fun h => ⟨h, r1, r2⟩, fun h => h.1⟩
    · rintro σ H9 ⟨v8, v9, v10, rfl, hS79, L, hL, hLj, hLm⟩
      have hS9 := hS7.trans hS79
      rw [List.length_map, wl, List.take_length] at hLm
      rw [List.length_map, wl] at hLj
      have hLb : ∀ y ∈ L, y < ts.length := fun y hy => by
        obtain ⟨z, hz, rfl, _⟩ := (hLm y).mp hy
        exact (hZk z hz).2.2
      have hLL9 := hLL.same hS79
      obtain ⟨las, y1, y2⟩ := id hLL9
      refine ⟨_, rfl, .inl ⟨rfl, _, SqL.of y1⟩, _, rfl, ?_⟩
      dsimp only [tNil]
      refine srt_set (K := K) (w := w) hL (by omega) hm hLb fun p T H10 np hS10 hT hTm hTp => ?_
      have hpLa : p ≠ La := (ne_of_none y1 np).symm
      obtain ⟨xs, x1, x2, x3⟩ := (hLL9.same hS10).add hTp hpLa
      refine ⟨La, xs, _, rfl, rfl, x1, sml1000 (by omega), ?_⟩
      refine ⟨_, _, _, _, _, rfl, same_upd (hS9.trans hS10) nLa, LL ++ [T], x3, by rw [List.length_append, hLLi]; rfl, ?_⟩
      rw [List.take_succ, hkx]
      refine paired_app hP ⟨hT, fun y => ?_⟩
      rw [hTm, hLm]
      constructor
      · rintro ⟨z, a1, rfl, a2, a3⟩
        exact ⟨_, _, a1, a2, a3⟩
      · rintro ⟨a, c, a1, a2, a3⟩
        exact ⟨_, a1, rfl, a2, a3⟩
  · rintro σ H7 ⟨v6, v7, v8, v9, v10, rfl, hS7, LL, hLL, hLLi, hP⟩
    rw [ml, List.take_length] at hP
    rw [ml] at hLLi
    refine ⟨_, rfl, q La LL Sp H7 nLaH (hS05.trans hS7) hLL ?_ ?_ (by omega)⟩
    · rw [hZ]
      exact hSp'
    · unfold LotP
      rw [hZ]
      exact hP
end
end My
set_option maxHeartbeats 4000000
namespace My
open PySem L2 PyProof.Rows
/-- a walk over a list that stays: what is done with each item, by what holds behind it -/
theorem it_list {K : PySem.W.Frag} {a : Addr} {xs : List V} {H0 : Hp} {Qd : Hp → Prop} {Step : V → Hp → (Hp → Prop) → Prop} (Pv : Nat → Hp → Prop) (h0 : Pv 0 H0) (hl : ∀ i H, i ≤ xs.length → Pv i H → SqL K H a xs)
    (hs : ∀ i x H, xs[i]? = some x → Pv i H → Step x H (Pv (i + 1))) (hd : ∀ H, Pv xs.length H → Qd H) :
    ∃ W : Nat → Nat → Hp → Prop, (∃ m, W 0 m H0) ∧ ∀ i m H, W i m H → ((Itl K a).stop i H ∧ Qd H) ∨ ((Itl K a).go i H ∧ ∃ Nx : Hp → Prop, (∀ H', Nx H' → ∃ m', m' < m ∧ W (i + 1) m' H') ∧ ∀ x H', (Itl K a).yld i H x H' → Step x H' Nx) := by
  refine ⟨fun i m H => i ≤ xs.length ∧ m = xs.length - i ∧ Pv i H, ⟨xs.length, Nat.zero_le _, rfl, h0⟩, fun i m H ⟨hi, em, p⟩ => ?_⟩
  have hq := hl i H hi p
  rcases Nat.lt_or_ge i xs.length with lt | ge
  · refine .inr ⟨⟨xs, xs[i], hq, List.getElem?_eq_getElem lt⟩, Pv (i + 1), fun H' p' => ⟨xs.length - (i + 1), by omega, lt, rfl, p'⟩, fun x H' ⟨e, y⟩ => ?_⟩
    subst e
    exact hs i x _ (y xs hq) p
  · have e : i = xs.length := Nat.le_antisymm hi ge
    subst e
    exact .inl ⟨⟨xs, hq, Nat.le_refl _⟩, hd H p⟩
/-- unlike numbers below n: how many, and whether all -/
theorem count_there {R : List Nat} {n k : Nat} (h : ∀ x ∈ R, x < n) (hk : ∀ D : List Int, D.Nodup → (∀ z, z ∈ D ↔ z ∈ R.map fun m : Nat => (m : Int)) → D.length = k) : k < n ↔ ∃ x, x < n ∧ x ∉ R := by
  obtain ⟨E, hn, hm⟩ := distinct_of R
  have e1 : E.length = k := by
    have := hk (E.map fun m : Nat => (m : Int)) (List.Pairwise.map _ (fun a b hab z => hab (by omega)) hn) fun z => by
      rw [List.mem_map, List.mem_map]
      exact ⟨fun ⟨m, h1, h2⟩ => ⟨m, (hm m).mp h1, h2⟩, fun ⟨m, h1, h2⟩ => ⟨m, (hm m).mpr h1, h2⟩⟩
    rw [List.length_map] at this
    exact this
  constructor
  · intro lt
    refine Classical.byContradiction fun no => ?_
    have h3 := len_sub (A := List.range n) (B := E) List.nodup_range fun x hx => (hm x).mpr (Classical.byContradiction fun z => no ⟨x, List.mem_range.mp hx, z⟩)
    rw [List.length_range] at h3
    omega
  · rintro ⟨x, hx, hno⟩
    have h3 := few (List.nodup_cons.mpr ⟨fun z => hno ((hm x).mp z), hn⟩) (N := n) fun y hy => by
      rcases List.mem_cons.mp hy with z | z
      · rw [z]; exact hx
      · exact h y ((hm y).mp z)
    rw [List.length_cons] at h3
    omega
/-- each tie is of some lot of the product -/
def AllIn (ts : List (Nat × Nat)) (W : List Nat) (N : Nat) : Prop := ∀ x, x < ts.length → ∃ e ∈ lotsW N ts W, ∃ y ∈ e.2, y.2.2 = x
theorem lotsT_tie {N : Nat} {ts : List (Nat × Nat)} {W : List Nat} {x : Nat} : (∃ e ∈ lotsT N ts W, x ∈ e.2) ↔ ∃ e ∈ lotsW N ts W, ∃ y ∈ e.2, y.2.2 = x := by
  constructor
  · rintro ⟨e, he, h⟩
    obtain ⟨f, hf, rfl⟩ := List.mem_map.mp he
    exact ⟨f, hf, (tiesL_mem fun y hy => prodZ_tie (lotsW_in hf y hy)).mp h⟩
  · rintro ⟨f, hf, h⟩
    exact ⟨_, List.mem_map.mpr ⟨f, hf, rfl⟩, (tiesL_mem fun y hy => prodZ_tie (lotsW_in hf y hy)).mpr h⟩
theorem lotsT_count {N : Nat} {ts : List (Nat × Nat)} {W : List Nat} (h0 : 0 < W.length) : (lotsT N ts W).length ≤ N + W.length := by
  unfold lotsT lotsW lotHeads
  rw [List.length_map, List.length_map]
  refine Nat.le_trans (List.length_filter_le _ _) (Nat.le_trans (nodup_len headsL_rising fun x hx => (headsL_mem.mp hx).1) ?_)
  rw [prodS_len]
  omega
section
variable {P : Program} {w : World} {K : PySem.W.Frag} {mg : Str → Option Value} {base : Heap} {C : Addr}
def spis_sure_in_lots (_ : PySem.W.Frag) (C : Addr) : Sp := fun vs H Q _ => ∃ a N ts s W, vs = [.ref a, .ref s] ∧ WebAt C a N ts H ∧ OkWeb N ts ∧ closedB N ts = true ∧ SeqAt H s W ∧ Chain ts W ∧ N + W.length ≤ 61 ∧ W.length * ts.length ≤ 80 ∧ ts.length ≤ 60 ∧ (N + W.length) * ts.length ≤ 1000 ∧ ∀ b H', (b = true ↔ ¬ AllIn ts W N) → Same H H' → Q (.bl b) H'
theorem okis_sure_in_lots (D : Def K mg "is_sure_in_lots" sis_sure_in_lots ["web", "walk"]) (B : Bs mg) (Glb : Glo mg) (WK : WebK K mg C)
    (hparts_without : Good P w K mg base "parts_without" sparts_without ["web", "walk"] 13 (spparts_without K C))
    (hWeb_many : GoodP P w K mg base C "many" "Web.many" sWeb_many ["self"] 1 (spWeb_many K C)) :
    Good P w K mg base "is_sure_in_lots" sis_sure_in_lots ["web", "walk"] 14 (spis_sure_in_lots K C) := by
  refine D.good fun f fd F => ?_
  obtain ⟨fparts_without, dparts_without, Oparts_without, mparts_without, kparts_without, bparts_without, Fparts_without⟩ := hparts_without
  obtain ⟨qWeb_many, fWeb_many, dWeb_many, OWeb_many, pWeb_many, bWeb_many⟩ := hWeb_many
  refine F.ok scis_sure_in_lots (fun vs H Q E h => ?_) (fun cdv A outer s H vs Q E hr h => ?_)
  · obtain ⟨a, N, ts, s, W, rfl, hw, ho, hcl, hs, hW, hNW, hZ, hm, hbig, q⟩ := h
    first | rfl | (rcases h with ⟨_, _, rfl, _⟩ | ⟨_, rfl, _⟩ <;> rfl)
  obtain ⟨a, N, ts, s, W, rfl, hw, ho, hcl, hs, hW, hNW, hZ, hm, hbig, q⟩ := h
  refine ⟨_, (pss_cons (ps_setLc2 (i := 2) (own := [("_", 3), ("ties", 4), ("tie", 5)]) (vs1 := [5]) (g := gTup K 2 (gCons (gName 3) (gCons (gName 4) gNil))) (g1 := gName 5) (by rfl) scis_sure_in_lots.nd rfl rfl (sw_true rfl rfl rfl (by decide +kernel)) (pi_list (pe_call Oparts_without hr rfl mparts_without kparts_without bparts_without .nil pass0 (pa_cons (pv 0) (pa_cons (pv 1) pa_nil)))) (blkOk_by (own := [("_", 3), ("ties", 4), ("tie", 5)]) (N := ["web", "walk", "in_parts", "_", "ties", "tie"]) (sc := defScope sis_sure_in_lots) (by decide +kernel)) (by decide) (fun _ _ _ _ _ => (pg_tup rfl (pgs_cons (pg_name (i := 3) scis_sure_in_lots.nd rfl (by first | exact Or.inl rfl | exact Or.inr rfl)) (pgs_cons (pg_name (i := 4) scis_sure_in_lots.nd rfl (by first | exact Or.inl rfl | exact Or.inr rfl)) pgs_nil)))) (fun _ _ _ _ _ => pts_nil) (fun _ _ _ _ _ => (pi_listK (K := K) rfl (pv 4))) (fun _ _ _ _ _ => (pg_name (i := 5) scis_sure_in_lots.nd rfl (by first | exact Or.inl rfl | exact Or.inr rfl))) (fun _ _ _ _ _ => pts_nil) (fun _ _ _ _ _ => (pv 5)))
  (pss_one (ps_ret (pe_cmpR op_lt (pe_callB cr_lenIn (by rfl) B.len (by decide +kernel) (pa_cons (pe_callTy (cr_setIn rfl) (by rfl) B.set (by decide +kernel) (pa_cons (pv 2) pa_nil)) pa_nil)) (pe_prop (pv 0) WK.cl pWeb_many OWeb_many (hr.mono (by decide)) bWeb_many .nil pass0 (by rfl)) (nomark _))))), ?_⟩
  refine ⟨_, rfl, _, rfl, a, N, ts, s, W, rfl, hw, ho, hcl, hs, hW, hNW, hZ, hm, fun H1 p us np hS1 hp hP => ?_⟩
  have hlen := paired_len hP
  refine ⟨p, rfl, ⟨_, SqL.of hp⟩, fun D nD => ?_⟩
  refine it_list (K := K) (a := p) (xs := us.map V.ref) (fun i H' => Same H1 H' ∧ H' D = some (.lst (iv (((lotsT N ts W).take i).flatMap fun e => e.2)))) ⟨same_new nD _, upd_same⟩ (fun i H' _ ⟨hS', _⟩ => SqL.of (hS' _ _ hp)) ?_ ?_
  · rintro i x H2 hx ⟨hS2, hD2⟩
    obtain ⟨pe, e, rfl, _, he, l, t, g1, g2, g3⟩ := paired_at hP hx
    have hem := List.mem_of_getElem? he
    have hel := lotsT_le hem
    have hfl : (((lotsT N ts W).take i).flatMap fun e => e.2).length ≤ i * ts.length := by
      have key : ∀ L : List (List Nat × List Nat), (∀ e ∈ L, e ∈ lotsT N ts W) → (L.flatMap fun e => e.2).length ≤ L.length * ts.length := by
        intro L
        induction L with
        | nil => exact fun _ => Nat.zero_le _
        | cons e r ih =>
          intro h
          have h1 := lotsT_le (h e List.mem_cons_self)
          have h2 := ih fun f hf => h f (List.mem_cons_of_mem _ hf)
          rw [List.flatMap_cons, List.length_append, List.length_cons, Nat.add_mul, Nat.one_mul]
          omega
      refine Nat.le_trans (key _ fun f hf => List.mem_of_mem_take hf) (Nat.mul_le_mul_right _ ?_)
      rw [List.length_take]
      exact Nat.min_le_left _ _
    have hil : i < N + W.length := Nat.lt_of_lt_of_le (List.getElem?_eq_some_iff.mp he).1 (lotsT_count hW.n0)
    have hbig2 : i * ts.length + ts.length ≤ 1000 := by
      have := Nat.mul_le_mul_right ts.length hil
      rw [Nat.succ_mul] at this
      omega
    refine ⟨pe, _, rfl, SqT.of (hS2 _ _ g1), rfl, _, _, rfl, _, _, rfl, rfl, rfl, ?_⟩
    refine ⟨_, rfl, t, rfl, ⟨_, SqL.of (hS2 _ _ g3)⟩, ?_⟩
    refine it_list (K := K) (a := t) (xs := iv e.2) (fun j H' => Same H1 H' ∧ H' D = some (.lst (iv ((((lotsT N ts W).take i).flatMap fun e => e.2) ++ e.2.take j)))) ⟨hS2, by rw [List.take_zero, List.append_nil]; exact hD2⟩ (fun j H' _ ⟨hS', _⟩ => SqL.of (hS' _ _ g3)) ?_ ?_
    · rintro j x H3 hx ⟨hS3, hD3⟩
      unfold iv at hx
      rw [List.getElem?_map] at hx
      cases ej : e.2[j]? with
      | none => rw [ej] at hx; cases hx
      | some y =>
        rw [ej] at hx
        cases (Option.some.inj hx)
        have hjl := (List.getElem?_eq_some_iff.mp ej).1
        refine ⟨rfl, _, rfl, _, hD3, ?_, same_upd hS3 nD, ?_⟩
        · rw [iv_length, List.length_append, List.length_take]
          exact sml1000 (by omega)
        · rw [upd_same, List.take_succ, ej, ← List.append_assoc]
          show _ = some (HO.lst (iv (_ ++ [y])))
          rw [iv_app]
    · rintro H3 ⟨hS3, hD3⟩
      refine ⟨hS3, ?_⟩
      rw [hD3, iv_length, List.take_length, List.take_succ, he, List.flatMap_append]
      show _ = some (HO.lst (iv (_ ++ (e.2 ++ []))))
      rw [List.append_nil]
  rintro H2 ⟨hS2, hD2⟩
  rw [List.length_map, hlen, List.take_length] at hD2
  have hfl : ((lotsT N ts W).flatMap fun e => e.2).length ≤ 1000 := by
    have key : ∀ L : List (List Nat × List Nat), (∀ e ∈ L, e ∈ lotsT N ts W) → (L.flatMap fun e => e.2).length ≤ L.length * ts.length := by
      intro L
      induction L with
      | nil => exact fun _ => Nat.zero_le _
      | cons e r ih =>
        intro h
        have h1 := lotsT_le (h e List.mem_cons_self)
        have h2 := ih fun f hf => h f (List.mem_cons_of_mem _ hf)
        rw [List.flatMap_cons, List.length_append, List.length_cons, Nat.add_mul, Nat.one_mul]
        omega
    exact Nat.le_trans (key _ fun f hf => hf) (Nat.le_trans (Nat.mul_le_mul_right _ (lotsT_count hW.n0)) hbig)
  have hin : ∀ x ∈ (lotsT N ts W).flatMap fun e => e.2, x < ts.length := fun x hx => by
    obtain ⟨e, he, h⟩ := List.mem_flatMap.mp hx
    obtain ⟨f, hf, rfl⟩ := List.mem_map.mp he
    exact List.mem_range.mp (List.mem_filter.mp h).1
  refine ⟨_, rfl, D, ((lotsT N ts W).flatMap fun e => e.2).map fun n : Nat => (n : Int), rfl, SqL.of (by rw [hD2, iv_iz]), by rw [List.length_map]; exact hfl, fun sp n hn hnl nsp => ?_⟩
  rw [List.length_map] at hnl
  have hS3 := hS2.trans (same_new nsp (InO w sp (inI (((lotsT N ts W).flatMap fun e => e.2).map fun n : Nat => (n : Int))) n))
  have hw3 := hw.same (hS1.trans hS3)
  obtain ⟨dx, tl, fl, ol, k1, _⟩ := id hw3
  refine ⟨sp, _, n, rfl, upd_same, by omega, ?_⟩
  refine ⟨_, rfl, a, dx, _, rfl, k1, a, N, ts, rfl, hw3, _, _, rfl, rfl, ?_⟩
  refine q _ _ ?_ (hS1.trans hS3)
  rw [decide_eq_true_iff, Int.ofNat_lt, count_there hin hn]
  unfold AllIn
  constructor
  · rintro ⟨x, hx, hno⟩ all
    obtain ⟨e, he, h⟩ := lotsT_tie.mpr (all x hx)
    exact hno (List.mem_flatMap.mpr ⟨e, he, h⟩)
  · intro h
    refine Classical.byContradiction fun no => h fun x hx => ?_
    have : x ∈ (lotsT N ts W).flatMap fun e => e.2 := Classical.byContradiction fun z => no ⟨x, hx, z⟩
    exact lotsT_tie.mp (List.mem_flatMap.mp this)
end
end My
set_option maxHeartbeats 4000000
namespace My
open PySem L2 PyProof.Rows
section
variable {N : Nat} {ts : List (Nat × Nat)} {W : List Nat} {LL Sp : List (List Nat)}
abbrev ToldL (ts : List (Nat × Nat)) (W : List Nat) (LL Sp : List (List Nat)) : Prop := Paired (fun (L : List Nat) (k : List Nat) => L.Pairwise (· < ·) ∧ ∀ x, x ∈ L ↔ LotP ts W k x) LL Sp
theorem paired_back {α β : Type} {F : α → β → Prop} : ∀ {l1 : List α} {l2 : List β}, Paired F l1 l2 → ∀ b ∈ l2, ∃ a ∈ l1, F a b
  | _, _, .nil, b, h => nomatch h
  | _, _, .cons h r, b, hb => by
    rcases List.mem_cons.mp hb with rfl | hb
    · exact ⟨_, List.mem_cons_self, h⟩
    · obtain ⟨a, h1, h2⟩ := paired_back r b hb
      exact ⟨a, List.mem_cons_of_mem _ h1, h2⟩
theorem paired_forth {α β : Type} {F : α → β → Prop} : ∀ {l1 : List α} {l2 : List β}, Paired F l1 l2 → ∀ a ∈ l1, ∃ b ∈ l2, F a b
  | _, _, .nil, b, h => nomatch h
  | _, _, .cons h r, b, hb => by
    rcases List.mem_cons.mp hb with rfl | hb
    · exact ⟨_, List.mem_cons_self, h⟩
    · obtain ⟨a, h1, h2⟩ := paired_forth r b hb
      exact ⟨a, List.mem_cons_of_mem _ h1, h2⟩
theorem lotP_held {p : List Nat} {x : Nat} : LotP ts W p x ↔ ∃ a b, (a, b, x) ∈ winZ ts W ∧ WCm ts W p a ∧ WCm ts W b p := by
  unfold LotP
  constructor
  · rintro ⟨a, b, h1, h2, h3⟩
    exact ⟨a, b, h1, wrch_wcm.mp h2, wrch_wcm.mp h3⟩
  · rintro ⟨a, b, h1, h2, h3⟩
    exact ⟨a, b, h1, wrch_wcm.mpr h2, wrch_wcm.mpr h3⟩
theorem winZ_tie (hW : 0 < W.length) {a b : List Nat} {x : Nat} (h : (a, b, x) ∈ winZ ts W) : x < ts.length := by
  by_cases c : W.length = 1
  · exact ((winZ_one c).mp h).1
  · have := ((winZ_more (by omega)).mp h).1
    exact this.num x (by simp)
theorem told_full (ho : OkWeb N ts) (hW : Chain ts W) (hm : 0 < ts.length) (hSp : ∀ k, k ∈ Sp ↔ ∃ q x, (k, q, x) ∈ winZ ts W) (h : ToldL ts W LL Sp) : List.range ts.length ∈ LL ↔ NotSure ts W N := by
  have hne : List.range ts.length ≠ [] := fun z => by
    have := congrArg List.length z
    rw [List.length_range] at this
    exact absurd this (Nat.ne_of_gt hm)
  rw [notSure_held, ← heldW_iff ho hW hne]
  constructor
  · intro hin
    obtain ⟨k, hk, _, h2⟩ := paired_forth h _ hin
    exact ⟨k, (hSp k).mp hk, fun x hx => lotP_held.mp ((h2 x).mp hx)⟩
  · rintro ⟨p, hp, all⟩
    obtain ⟨L, hL, h1, h2⟩ := paired_back h p ((hSp p).mpr hp)
    have e : L = List.range ts.length := rising_same h1 List.pairwise_lt_range fun x => by
      rw [h2]
      constructor
      · rintro ⟨a, b, g, _⟩
        exact List.mem_range.mpr (winZ_tie hW.n0 g)
      · intro hx
        exact lotP_held.mpr (all x hx)
    rw [← e]
    exact hL
theorem told_met (ho : OkWeb N ts) (hW : Chain ts W) (hSp : ∀ k, k ∈ Sp ↔ ∃ q x, (k, q, x) ∈ winZ ts W) (h : ToldL ts W LL Sp) (x : Nat) : (∃ L ∈ LL, x ∈ L) ↔ ∃ e ∈ lotsW N ts W, ∃ y ∈ e.2, y.2.2 = x := by
  have h1 := lots_held ho hW (S := [x]) (by simp)
  have h2 := heldW_iff ho hW (S := [x]) (by simp)
  have e1 : (∃ e ∈ lotsW N ts W, ∃ y ∈ e.2, y.2.2 = x) ↔ ∃ e ∈ lotsW N ts W, ∀ x' ∈ [x], ∃ y ∈ e.2, y.2.2 = x' := by simp
  rw [e1, h1, ← h2]
  constructor
  · rintro ⟨L, hL, hx⟩
    obtain ⟨k, hk, _, g⟩ := paired_forth h _ hL
    refine ⟨k, (hSp k).mp hk, fun y hy => ?_⟩
    rw [List.mem_singleton.mp hy]
    exact lotP_held.mp ((g x).mp hx)
  · rintro ⟨p, hp, all⟩
    obtain ⟨L, hL, _, g⟩ := paired_back h p ((hSp p).mpr hp)
    exact ⟨L, hL, (g x).mpr (lotP_held.mpr (all x (by simp)))⟩
/-- the ties that are met in some lot -/
def metL (m : Nat) (LL : List (List Nat)) : List Nat := (List.range m).filter fun x => decide (∃ L ∈ LL, x ∈ L)
theorem met_all (ho : OkWeb N ts) (hW : Chain ts W) (hSp : ∀ k, k ∈ Sp ↔ ∃ q x, (k, q, x) ∈ winZ ts W) (h : ToldL ts W LL Sp) : metL ts.length LL = List.range ts.length ↔ AllIn ts W N := by
  unfold metL AllIn
  rw [List.filter_eq_self]
  constructor
  · intro g x hx
    exact (told_met ho hW hSp h x).mp (of_decide_eq_true (g x (List.mem_range.mpr hx)))
  · intro g x hx
    exact decide_eq_true ((told_met ho hW hSp h x).mpr (g x (List.mem_range.mp hx)))
end
end My
set_option maxHeartbeats 4000000
namespace My
open PySem L2 PyProof.Rows
/-- the heap without the pot -/
def Off (a : Addr) (H : Hp) : Hp := fun b => if b = a then none else H b
theorem Off.get {a p : Addr} {H : Hp} {o : HO} (h : H p = some o) (n : p ≠ a) : Off a H p = some o := by
  unfold Off
  rw [if_neg n]
  exact h
theorem Off.same {a : Addr} {H : Hp} : Same (Off a H) H := fun b o e => by
  unfold Off at e
  split at e
  · cases e
  · exact e
theorem Off.kept {a : Addr} {H H' : Hp} (k : Kept a H H') : Same (Off a H) (Off a H') := fun b o e => by
  unfold Off at e
  split at e
  · cases e
  · rename_i n
    exact Off.get (k b o e n) n
theorem any_lol (LL : List (List Nat)) (A : List Nat) : ((LL.map dn).any fun z => PyData.eqv z (dn A)) = decide (A ∈ LL) := by
  rw [Bool.eq_iff_iff, List.any_eq_true, decide_eq_true_iff]
  constructor
  · rintro ⟨d, hd, e⟩
    obtain ⟨L, hL, rfl⟩ := List.mem_map.mp hd
    rw [eqv_dns] at e
    exact of_decide_eq_true e ▸ hL
  · intro h
    exact ⟨dn A, List.mem_map.mpr ⟨A, h, rfl⟩, by rw [eqv_dns]; exact decide_eq_true rfl⟩
section
variable {N : Nat} {ts : List (Nat × Nat)} {W : List Nat}
theorem notSure_all (ho : OkWeb N ts) (hW : Chain ts W) (hm : 0 < ts.length) (h : NotSure ts W N) : AllIn ts W N := fun x hx => by
  obtain ⟨e, he, h2⟩ := (lots_notSure ho hW hm).mpr h
  exact ⟨e, he, h2 x hx⟩
theorem sure_one (ho : OkWeb N ts) (hW : Chain ts W) (hm : 0 < ts.length) (h1 : W.length = 1) : ¬ NotSure ts W N := fun h => by
  obtain ⟨T, h2, h3⟩ := (notSure_lck ho hW hm).mp h
  have h0 : W.getD 0 0 ∈ W := by
    rw [List.getD_eq_getElem?_getD, List.getElem?_eq_getElem (by omega)]
    exact List.getElem_mem _
  obtain ⟨i, hi⟩ := List.getElem?_of_mem (h3 _ (hW.num _ h0))
  refine h2.no i fun k hk => ?_
  rw [show k = 0 by omega]
  exact gt_of hi
theorem chain_init (hW : Chain ts W) (h1 : 1 < W.length) : Chain ts W.dropLast := by
  rcases List.eq_nil_or_concat W with rfl | ⟨v, y, rfl⟩
  · exact absurd hW.n0 (Nat.lt_irrefl 0)
  rw [List.concat_eq_append] at *
  rw [List.length_append] at h1
  have h2 : 0 < v.length := Nat.lt_of_succ_lt_succ h1
  rw [List.dropLast_concat]
  exact ((chain_snoc h2).mp hW).1
theorem chain_tail (hW : Chain ts W) (h1 : 1 < W.length) : Chain ts W.tail := by
  have hg : ∀ i, W.tail[i]? = W[i + 1]? := fun i => by rw [List.getElem?_tail]
  refine ⟨by rw [List.length_tail]; omega, fun x hx => hW.num x (List.mem_of_mem_tail hx), fun i hi => ?_⟩
  rw [List.length_tail] at hi
  obtain ⟨x, y, e, f, h1, h2, r⟩ := hW.on (i + 1) (by omega)
  exact ⟨x, y, e, f, by rw [hg]; exact h1, by rw [hg]; exact h2, r⟩
theorem notSure_init (ho : OkWeb N ts) (hW : Chain ts W) (hm : 0 < ts.length) (h1 : 1 < W.length) (h : NotSure ts W.dropLast N) : NotSure ts W N := by
  obtain ⟨T, h2, h3⟩ := (notSure_lck ho (chain_init hW h1) hm).mp h
  refine (notSure_lck ho hW hm).mpr ⟨T, ⟨h2.c, h2.b, fun s hs => h2.no s fun k hk => ?_⟩, h3⟩
  rw [List.length_dropLast] at hk
  rw [hs k (by omega), List.getD_eq_getElem?_getD, List.getD_eq_getElem?_getD, List.dropLast_eq_take, List.getElem?_take_of_lt hk]
theorem notSure_tail (ho : OkWeb N ts) (hW : Chain ts W) (hm : 0 < ts.length) (h1 : 1 < W.length) (h : NotSure ts W.tail N) : NotSure ts W N := by
  obtain ⟨T, h2, h3⟩ := (notSure_lck ho (chain_tail hW h1) hm).mp h
  refine (notSure_lck ho hW hm).mpr ⟨T, ⟨h2.c, h2.b, fun s hs => h2.no (s + 1) fun k hk => ?_⟩, h3⟩
  rw [List.length_tail] at hk
  rw [Nat.add_assoc, Nat.add_comm 1 k, hs (k + 1) (by omega), List.getD_eq_getElem?_getD, List.getD_eq_getElem?_getD, List.getElem?_tail]
end
section
variable {P : Program} {w : World} {K : PySem.W.Frag} {mg : Str → Option Value} {base : Heap} {C : Addr}
def sp_law_right (_ : PySem.W.Frag) (_ : Addr) : Sp := fun vs H Q _ => ∃ a, vs = [.ref a] ∧ PotAt H a ∧ ∀ H', Q (.bl true) H'
theorem ok_law_right (D : Def K mg "_law_right" s_law_right ["_law_pot_here"]) (B : Bs mg) (Glb : Glo mg) (WK : WebK K mg C)
    (h_law_ties : Good P w K mg base "_law_ties" s_law_ties ["_law_pot_here", "_law_places", "_law_more"] 2 (sp_law_ties K C))
    (h_law_draw : Good P w K mg base "_law_draw" s_law_draw ["_law_pot_here", "_law_sides"] 1 (sp_law_draw K C))
    (h_law_walk : Good P w K mg base "_law_walk" s_law_walk ["_law_pot_here", "_law_ties_here", "_law_many"] 3 (sp_law_walk K C))
    (h_law_lots : Good P w K mg base "_law_lots" s_law_lots ["_law_ties_here", "_law_walk_here"] 3 (sp_law_lots K C))
    (his_sure_plain : Good P w K mg base "is_sure_plain" sis_sure_plain ["web", "walk"] 14 (spis_sure_plain K C))
    (his_sure_in_lots : Good P w K mg base "is_sure_in_lots" sis_sure_in_lots ["web", "walk"] 14 (spis_sure_in_lots K C))
    (hWeb___init__ : GoodI P w K mg base C "__init__" "Web.__init__" sWeb___init__ ["self", "places", "ties"] 5 (spWeb___init__ K C)) :
    Good P w K mg base "_law_right" s_law_right ["_law_pot_here"] 15 (sp_law_right K C) := by
  refine D.good fun f fd F => ?_
  obtain ⟨f_law_ties, d_law_ties, O_law_ties, m_law_ties, k_law_ties, b_law_ties, F_law_ties⟩ := h_law_ties
  obtain ⟨f_law_draw, d_law_draw, O_law_draw, m_law_draw, k_law_draw, b_law_draw, F_law_draw⟩ := h_law_draw
  obtain ⟨f_law_walk, d_law_walk, O_law_walk, m_law_walk, k_law_walk, b_law_walk, F_law_walk⟩ := h_law_walk
  obtain ⟨f_law_lots, d_law_lots, O_law_lots, m_law_lots, k_law_lots, b_law_lots, F_law_lots⟩ := h_law_lots
  obtain ⟨fis_sure_plain, dis_sure_plain, Ois_sure_plain, mis_sure_plain, kis_sure_plain, bis_sure_plain, Fis_sure_plain⟩ := his_sure_plain
  obtain ⟨fis_sure_in_lots, dis_sure_in_lots, Ois_sure_in_lots, mis_sure_in_lots, kis_sure_in_lots, bis_sure_in_lots, Fis_sure_in_lots⟩ := his_sure_in_lots
  obtain ⟨fWeb___init__, dWeb___init__, OWeb___init__, MK, bWeb___init__⟩ := hWeb___init__
  have kb_is_sure_in_lots_walk_web : KBinds K dis_sure_in_lots ["web", "walk"] ["walk", "web"] g21 g21 := fun_kbinds Fis_sure_in_lots g21 g21 rel21 (fun _ _ _ _ _ _ us ws hl => by
    obtain ⟨rfl, a0, a1, rfl⟩ := g21_inv hl
    rfl)
  have kb_is_sure_plain_web_walk : KBinds K dis_sure_plain ["web", "walk"] ["web", "walk"] g12 g12 := fun_kbinds Fis_sure_plain g12 g12 rel12 (fun _ _ _ _ _ _ us ws hl => by
    obtain ⟨rfl, a0, a1, rfl⟩ := g12_inv hl
    rfl)
  refine F.ok sc_law_right (fun vs H Q E h => ?_) (fun cdv A outer s H vs Q E hr h => ?_)
  · obtain ⟨a, rfl, hp, q⟩ := h
    first | rfl | (rcases h with ⟨_, _, rfl, _⟩ | ⟨_, rfl, _⟩ <;> rfl)
  obtain ⟨a, rfl, hp, q⟩ := h
  refine ⟨_, (pss_cons (ps_set (i := 1) sc_law_right.nd rfl (by first | exact Or.inl rfl | exact Or.inr rfl) (pe_op op_add pe_int (pe_call O_law_draw (hr.mono (by decide)) rfl m_law_draw k_law_draw b_law_draw .nil pass0 (pa_cons (pv 0) (pa_cons pe_int pa_nil)))))
  (pss_cons (ps_set (i := 2) sc_law_right.nd rfl (by first | exact Or.inl rfl | exact Or.inr rfl) (pe_call O_law_ties (hr.mono (by decide)) rfl m_law_ties k_law_ties b_law_ties .nil pass0 (pa_cons (pv 0) (pa_cons (pv 1) (pa_cons (pe_call O_law_draw (hr.mono (by decide)) rfl m_law_draw k_law_draw b_law_draw .nil pass0 (pa_cons (pv 0) (pa_cons pe_int pa_nil))) pa_nil)))))
  (pss_cons (ps_par (i := 3) (j := 4) (by rfl) sc_law_right.nd rfl rfl (by decide) rfl rfl (pa_cons (pe_make MK OWeb___init__ (hr.mono (by decide)) rfl WK.mgC bWeb___init__ .nil pass0 (pa_cons (pv 1) (pa_cons (pv 2) pa_nil))) (pa_cons (pe_callTy (call_listRng rfl) (by rfl) B.list (by decide +kernel) (pa_cons (pe_callTy cr_range1 (by rfl) B.range (by decide +kernel) (pa_cons (pe_callB call_len_seq (by rfl) B.len (by decide +kernel) (pa_cons (pv 2) pa_nil)) pa_nil)) pa_nil)) pa_nil)) (by rfl))
  (pss_cons (ps_for PassesOwn.never rfl (pi_range1 (by rfl) B.range (pa_cons pe_int pa_nil)) (pg_name (i := 5) sc_law_right.nd rfl (by first | exact Or.inl rfl | exact Or.inr rfl))
    (pss_cons (ps_set (i := 6) sc_law_right.nd rfl (by first | exact Or.inl rfl | exact Or.inr rfl) (pe_call O_law_walk (hr.mono (by decide)) rfl m_law_walk k_law_walk b_law_walk .nil pass0 (pa_cons (pv 0) (pa_cons (pv 2) (pa_cons (pe_op op_add pe_int (pe_call O_law_draw (hr.mono (by decide)) rfl m_law_draw k_law_draw b_law_draw .nil pass0 (pa_cons (pv 0) (pa_cons pe_int pa_nil)))) pa_nil)))))
  (pss_cons (ps_set (i := 7) sc_law_right.nd rfl (by first | exact Or.inl rfl | exact Or.inr rfl) (pe_call O_law_lots (hr.mono (by decide)) rfl m_law_lots k_law_lots b_law_lots .nil pass0 (pa_cons (pv 2) (pa_cons (pv 6) pa_nil))))
  (pss_cons (ps_set (i := 8) sc_law_right.nd rfl (by first | exact Or.inl rfl | exact Or.inr rfl) (pe_cmpR (op_notInD (u65 hr)) (pv 4) (pv 7) (by rfl)))
  (pss_cons (ps_setLc (i := 9) (own := [("_law_tie", 10)]) (g := gName 10) (by rfl) sc_law_right.nd rfl rfl (sw_true rfl rfl rfl (by decide +kernel)) (pi_list (pv 4)) (blkOk_by (own := [("_law_tie", 10)]) (N := ["_law_pot_here", "_law_places", "_law_ties_here", "_law_web", "_law_all_ties", "_law_turn", "_law_walk_here", "_law_lots_here", "_law_sure", "_law_met", "_law_tie", "_law_lot"]) (sc := defScope s_law_right) (by decide +kernel)) (fun _ _ _ _ _ => (pg_name (i := 10) sc_law_right.nd rfl (by first | exact Or.inl rfl | exact Or.inr rfl))) (fun _ _ _ _ _ => (pts_one (pt_val (pe_callB (cr_anyK (K := K) rfl rfl) (by rfl) B.any (by decide +kernel) (pa_cons (pe_lc (own := [("_law_lot", 11)]) (g := gName 11) (by rfl) sc_law_right.nd (pi_listK (K := K) rfl (pv 7)) (blkOk_by (own := [("_law_lot", 11)]) (N := ["_law_pot_here", "_law_places", "_law_ties_here", "_law_web", "_law_all_ties", "_law_turn", "_law_walk_here", "_law_lots_here", "_law_sure", "_law_met", "_law_tie", "_law_lot"]) (by rfl)) (fun _ _ _ _ _ => (pg_name (i := 11) sc_law_right.nd rfl (by first | exact Or.inl rfl | exact Or.inr rfl))) (fun _ _ _ _ _ => pts_nil) (fun _ _ _ _ _ => (pe_cmpR (op_in_seqK (K := K) rfl) (pv 10) (pv 11) (by rfl)))) pa_nil))))) (fun _ _ _ _ _ => (pv 10)))
  (pss_cons (ps_if (pt_cmpR op_ne (pe_callB call_repr_bl (by rfl) B.repr (by decide +kernel) (pa_cons (pe_call Ois_sure_plain hr rfl mis_sure_plain kis_sure_plain bis_sure_plain .nil pass0 (pa_cons (pv 3) (pa_cons (pv 6) pa_nil))) pa_nil)) (pe_callB call_repr_bl (by rfl) B.repr (by decide +kernel) (pa_cons (pv 8) pa_nil)) (nomark _))
    (pss_one (ps_ret pe_bl)) pss_nil)
  (pss_cons (ps_if (pt_cmpR op_ne (pe_callB call_repr_bl (by rfl) B.repr (by decide +kernel) (pa_cons (pe_callKK Ois_sure_in_lots hr (by rfl) mis_sure_in_lots kis_sure_in_lots kb_is_sure_in_lots_walk_web pass0 (pk_cons (pv 6) (pk_cons (pv 3) pk_nil))) pa_nil)) (pe_callB call_repr_bl (by rfl) B.repr (by decide +kernel) (pa_cons (pe_cmpR (op_neD hr.units) (pv 9) (pv 4) (nomark _)) pa_nil)) (nomark _))
    (pss_one (ps_ret pe_bl)) pss_nil)
  (pss_cons (ps_if (PW.pt (pw_and (pt_cmpR (op_neD hr.units) (pv 9) (pv 4) (nomark _)) (pw_and1 (pt_not (pt_val (pv 8))))))
    (pss_one (ps_ret pe_bl)) pss_nil)
  (pss_cons (ps_if (PW.pt (pw_and (pt_cmpR op_eq (pe_callB call_len_seq (by rfl) B.len (by decide +kernel) (pa_cons (pv 6) pa_nil)) pe_int (nomark _)) (pw_and1 (pt_not (pt_val (pv 8))))))
    (pss_one (ps_ret pe_bl)) pss_nil)
  (pss_cons (ps_if (PW.pt (pw_and (pt_val (pv 8)) (pw_and (pt_cmpR op_gt (pe_callB call_len_seq (by rfl) B.len (by decide +kernel) (pa_cons (pv 6) pa_nil)) pe_int (nomark _)) (pw_and1 (pt_cmpR op_notBl (pe_callKK Ois_sure_plain hr (by rfl) mis_sure_plain kis_sure_plain kb_is_sure_plain_web_walk pass0 (pk_cons (pv 3) (pk_cons (pe_slice sl_list (pv 6) po_none (po_some (pe_un un_neg pe_int))) pk_nil))) pe_bl (nomark _))))))
    (pss_one (ps_ret pe_bl)) pss_nil)
  (pss_one (ps_if (PW.pt (pw_and (pt_val (pv 8)) (pw_and (pt_cmpR op_gt (pe_callB call_len_seq (by rfl) B.len (by decide +kernel) (pa_cons (pv 6) pa_nil)) pe_int (nomark _)) (pw_and1 (pt_cmpR op_notBl (pe_call Ois_sure_plain hr rfl mis_sure_plain kis_sure_plain bis_sure_plain .nil pass0 (pa_cons (pv 3) (pa_cons (pe_callTy call_tuple_of (by rfl) B.tuple (by decide +kernel) (pa_cons (pe_slice sl_list (pv 6) (po_some pe_int) po_none) pa_nil)) pa_nil))) pe_bl (nomark _))))))
    (pss_one (ps_ret pe_bl)) pss_nil))))))))))))
  (pss_one (ps_ret pe_bl)))))), ?_⟩
  refine ⟨_, rfl, a, 3, rfl, hp, by decide, by decide, fun d1 H1 hd1 hk1 hp1 => ⟨_, _, rfl, rfl, ?_⟩⟩
  refine ⟨_, rfl, _, rfl, _, rfl, a, 3, rfl, hp1, by decide, by decide, fun d2 H2 hd2 hk2 hp2 => ⟨a, 1 + d1, d2, rfl, hp2, by omega, by omega, by omega, fun l ts H3 hk3 hp3 nl hla hT3 ho hrg hm => ?_⟩⟩
  have hN3 : 1 + d1 ≤ 3 := by omega
  have hm5 : ts.length ≤ 5 := by omega
  have hmN : ts.length ≤ 1 + d1 + 2 := by omega
  refine ⟨_, rfl, _, rfl, fun x dx nx ndx ndxx => ?_⟩
  have hxa : x ≠ a := hp3.ne nx
  have hda : dx ≠ a := hp3.ne ndx
  have hS4 : Same H3 (upd (upd H3 dx (.own x)) x (.ins C dx [])) := fun b o e => by
    rw [upd_ne (ne_of_none e nx), upd_ne (ne_of_none e ndx)]
    exact e
  refine ⟨x, dx, 1 + d1, l, ts, rfl, ho, (hT3.same hS4).s, upd_same, fun H5 hk5 hw5 => ?_⟩
  have hp4 := hp3.same hS4
  have hS35 : Same H3 H5 := fun b o e => hk5 _ _ (hS4 _ _ e) (ne_of_none e nx)
  have hp5 := hp3.same hS35
  have hSub : Same (Sub (upd (upd H3 dx (.own x)) x (.ins C dx [])) H5 x) (Off a H5) := fun b o e => by
    have h5 := Sub.same _ _ e
    refine Off.get h5 fun z => ?_
    subst z
    obtain ⟨u, v, e4, _⟩ := hp4
    obtain ⟨u5, v5, e5, _⟩ := hp5
    have h6 := hk5 _ _ e4 hxa.symm
    rw [Sub.none e4 hxa.symm h6] at e
    cases e
  have hwS : WebAt C x (1 + d1) ts (Off a H5) := hw5.same hSub
  have hT5 := hT3.same hS35
  have hTO : TiesAt (Off a H5) l ts := by
    obtain ⟨tas', h1, h2⟩ := hT5
    exact ⟨tas', Off.get h1 hla, paired_mono (fun p e hq => Off.get hq fun z => by
      obtain ⟨u5, v5, e5, _⟩ := hp5
      have hq' : H5 p = _ := hq
      rw [z, e5] at hq'
      cases hq') h2⟩
  clear hSub hw5 hk5 hS4 hp4
  obtain ⟨lx, lx1, lx2⟩ := hT5.get
  have hcl := ringed_closed ho.n0 hrg
  have hm0 : 0 < ts.length := List.length_pos_of_mem (hrg 0 ho.n0)
  have hdeg : ∀ p, (frm ts p).length ≤ 3 := fun p => by
    have := ringed_deg ho hrg p
    omega
  have hwl : ∀ k, k ≤ 3 → (walksW ts k).length ≤ 135 := fun k hk => by
    refine Nat.le_trans (walksW_len hdeg k) (Nat.le_trans (Nat.mul_le_mul hm5 (Nat.pow_le_pow_right (by decide) hk)) (by decide))
  have hwl2 : ∀ k, k ≤ 2 → (walksW ts k).length ≤ 45 := fun k hk => by
    refine Nat.le_trans (walksW_len hdeg k) (Nat.le_trans (Nat.mul_le_mul hm5 (Nat.pow_le_pow_right (by decide) hk)) (by decide))
  refine ⟨rfl, _, rfl, l, _, rfl, .inl (SqL.of lx1), _, rfl, fun rg nrg => ⟨rg, ts.length, rfl, by rw [upd_same, lx2], by omega, fun al nal => ⟨_, _, rfl, ?_⟩⟩⟩
  have hS6 := (same_new nrg (.rng 0 (lx.length : Int))).trans (same_new nal (.lst ((List.range ts.length).map fun i : Nat => V.int (i : Int))))
  have hal6 : upd (upd H5 rg (.rng 0 (lx.length : Int))) al (.lst ((List.range ts.length).map fun i : Nat => V.int (i : Int))) al = some (.lst (iv (List.range ts.length))) := upd_same
  have hp6 := hp5.same hS6
  have hala : al ≠ a := by
    obtain ⟨u5, v5, e5, _⟩ := hp5
    exact (ne_of_none (same_new nrg (.rng 0 (lx.length : Int)) _ _ e5) nal).symm
  have hw6 := hwS.same (Off.kept (a := a) (Same.kept hS6))
  have hT6 := hTO.same (Off.kept (a := a) (Same.kept hS6))
  have hal6' := Off.get (a := a) hal6 hala
  generalize upd (upd H5 rg (.rng 0 (lx.length : Int))) al (.lst ((List.range ts.length).map fun i : Nat => V.int (i : Int))) = H6 at hp6 hw6 hT6 hal6'
  clear hal6 hwS hTO hS6 lx1
  refine ⟨_, rfl, by decide, by decide, ?_⟩
  refine for_range (lo := 0) (n := 2) (fun i σ H' => ∃ (v1 v5 v6 v7 v8 v9 : Option V), σ = [some (.ref a), v1, some (.ref l), some (.ref x), some (.ref al), v5, v6, v7, v8, v9, none, none] ∧ PotAt H' a ∧ WebAt C x (1 + d1) ts (Off a H') ∧ TiesAt (Off a H') l ts ∧ Off a H' al = some (.lst (iv (List.range ts.length)))) ⟨_, none, none, none, none, none, rfl, hp6, hw6, hT6, hal6'⟩ ?_ ?_
  · clear hp6 hw6 hT6 hal6'
    rintro i σ H7 hi ⟨v1, v5, v6, v7, v8, v9, rfl, hp7, hw7, hT7, hal7⟩
    refine ⟨_, rfl, _, rfl, _, rfl, a, 4, rfl, hp7, by decide, by decide, fun d3 H8 hd3 hk8 hp8 => ⟨_, _, rfl, rfl, a, l, 1 + d1, ts, 1 + d3, rfl, hp8, hla, (hT7.same (Off.kept hk8)).same Off.same, ho, hrg, by omega, by omega, fun f W H9 hW hWl hk9 hp9 nf hfa hf9 => ?_⟩⟩
    have hw9 := (hw7.same (Off.kept hk8)).same (Off.kept hk9)
    have hT9 := (hT7.same (Off.kept hk8)).same (Off.kept hk9)
    have hal9 := (Off.kept hk9) _ _ ((Off.kept hk8) _ _ hal7)
    clear hw7 hT7 hal7 hk8 hk9 hp8 hp7
    have fin : ∀ H' (v1 v5 v6 v7 v8 v9 : Option V), Same H9 H' → ∃ (u1 u5 u6 u7 u8 u9 : Option V), [some (.ref a), v1, some (.ref l), some (.ref x), some (.ref al), v5, v6, v7, v8, v9, none, none] = [some (.ref a), u1, some (.ref l), some (.ref x), some (.ref al), u5, u6, u7, u8, u9, none, none] ∧ PotAt H' a ∧ WebAt C x (1 + d1) ts (Off a H') ∧ TiesAt (Off a H') l ts ∧ Off a H' al = some (.lst (iv (List.range ts.length))) := fun H' v1 v5 v6 v7 v8 v9 hS => ⟨_, _, _, _, _, _, rfl, hp9.same hS, hw9.same (Off.kept (Same.kept hS)), hT9.same (Off.kept (Same.kept hS)), (Off.kept (Same.kept hS)) _ _ hal9⟩
    have hwb9 := hw9.same Off.same
    have hTb9 := hT9.same Off.same
    have halb9 := Off.same _ _ hal9
    have hWm : W.length * ts.length ≤ 20 := Nat.le_trans (Nat.mul_le_mul (show W.length ≤ 4 by omega) hm5) (by decide)
    refine ⟨_, rfl, _, rfl, l, f, 1 + d1, ts, W, rfl, hTb9, hf9, ho, hW, by omega, by omega, by omega, fun k hk => Nat.le_trans (hwl k (by omega)) (by decide), fun _ => Nat.lt_of_le_of_lt (hwl2 _ (by omega)) (by decide), fun pl LL Sp H10 npl hS10 hLL hSp hTold hLLl => ?_⟩
    have hfull := told_full ho hW hm0 hSp hTold
    have hmet := met_all ho hW hSp hTold
    obtain ⟨sure, hsure⟩ : ∃ sure, sure = !decide (List.range ts.length ∈ LL) := ⟨_, rfl⟩
    have hsb : sure = true ↔ ¬ NotSure ts W (1 + d1) := by
      rw [hsure, Bool.not_eq_true', decide_eq_false_iff_not, hfull]
    refine ⟨_, rfl, _, rfl, _, _, dp_dn (hS10 _ _ halb9), dp_lol hLL, shaped_dn _, shaped_lol _, ?_⟩
    rw [any_lol, ← hsure]
    obtain ⟨las, l1, l2⟩ := id hLL
    have ll := paired_len l2
    have hal12 := hS10 _ _ halb9
    refine ⟨_, rfl, al, rfl, ⟨_, SqL.of hal12⟩, fun D nD => ?_⟩
    refine lc_list (K := K) (a := al) (xs := iv (List.range ts.length)) (fun i H' => Same H10 H' ∧ H' D = some (.lst (iv (metL i LL)))) ⟨same_new nD _, upd_same⟩ (fun i H' _ ⟨hS', _⟩ => SqL.of (hS' _ _ hal12)) ?_ ?_
    · rintro j y Ha hy ⟨hSa, hDa⟩
      have hjl : j < ts.length := by
        have := (List.getElem?_eq_some_iff.mp hy).1
        rw [iv_length, List.length_range] at this
        exact this
      have ey : y = .int (j : Int) := by
        unfold iv at hy
        rw [List.getElem?_map, List.getElem?_range hjl] at hy
        exact (Option.some.inj hy).symm
      subst ey
      refine ⟨rfl, _, rfl, pl, rfl, ⟨_, SqL.of (hSa _ _ l1)⟩, fun D2 nD2 => ?_⟩
      refine lc_list (K := K) (a := pl) (xs := las.map V.ref) (fun i H' => Same Ha H' ∧ H' D2 = some (.lst (((LL.take i).map fun L => decide (j ∈ L)).map V.bl))) ⟨same_new nD2 _, upd_same⟩ (fun i H' _ ⟨hS', _⟩ => SqL.of (hS' _ _ (hSa _ _ l1))) ?_ ?_
      · rintro i2 y Hb hy2 ⟨hSb, hDb⟩
        obtain ⟨pL, L, rfl, _, hL, hpL⟩ := paired_at l2 hy2
        refine ⟨rfl, _, rfl, _, rfl, pL, _, rfl, .inl (SqL.of (hSb _ _ (hSa _ _ hpL))), rfl, flat_iv _, _, hDb, ?_, same_upd hSb nD2, ?_⟩
        · rw [List.length_map, List.length_map, List.length_take]
          exact sml1000 (by omega)
        · rw [upd_same, List.take_succ, hL, List.map_append, List.map_append]
          show some (HO.lst (_ ++ [V.bl (inV (.int (j : Int)) (iv L))])) = _
          rw [inV_iv]
          rfl
      rintro Hb ⟨hSb, hDb⟩
      rw [List.length_map, ll, List.take_length] at hDb
      refine ⟨D2, _, rfl, SqL.of hDb, _, rfl, ?_⟩
      have hS1 := hSa.trans hSb
      have em : metL (j + 1) LL = metL j LL ++ (if (∃ L ∈ LL, j ∈ L) then [j] else []) := by
        unfold metL
        rw [List.range_succ, List.filter_append]
        congr 1
        by_cases c : ∃ L ∈ LL, j ∈ L
        · rw [if_pos c, List.filter_cons, if_pos (decide_eq_true c)]; rfl
        · rw [if_neg c, List.filter_cons, if_neg (by simpa using c)]; rfl
      have ea : ((LL.map fun L => decide (j ∈ L)).any id) = decide (∃ L ∈ LL, j ∈ L) := by
        rw [Bool.eq_iff_iff, List.any_eq_true, decide_eq_true_iff]
        constructor
        · rintro ⟨b, hb, e⟩
          obtain ⟨L, hL, rfl⟩ := List.mem_map.mp hb
          exact ⟨L, hL, of_decide_eq_true e⟩
        · rintro ⟨L, hL, h⟩
          exact ⟨_, List.mem_map.mpr ⟨L, hL, rfl⟩, decide_eq_true h⟩
      rw [ea]
      have hml : (metL j LL).length ≤ 5 := by
        unfold metL
        refine Nat.le_trans (List.length_filter_le _ _) ?_
        rw [List.length_range]
        omega
      by_cases c : ∃ L ∈ LL, j ∈ L
      · refine iteYes c ⟨_, rfl, _, hSb _ _ hDa, by rw [iv_length]; exact sml1000 (by omega), same_upd hS1 nD, ?_⟩
        rw [upd_same, em, if_pos c, iv_app]
      · refine iteNo c ⟨hS1, ?_⟩
        rw [em, if_neg c, List.append_nil]
        exact hSb _ _ hDa
    rintro H13 ⟨hS13, hD13⟩
    rw [iv_length, List.length_range] at hD13
    have hS14 := hS10.trans hS13
    have hbig : (1 + d1 + W.length) * ts.length ≤ 1000 := Nat.le_trans (Nat.mul_le_mul (show 1 + d1 + W.length ≤ 7 by omega) hm5) (by decide)
    have hfil := hS14 _ _ hf9
    refine ⟨_, rfl, _, rfl, x, 1 + d1, ts, f, W, rfl, hwb9.same hS14, ho, hcl, .inl hfil, hW, by omega, by omega, by omega, fun b1 H15 hb1 hS15 => ?_⟩
    have eb1 : b1 = sure := by rw [Bool.eq_iff_iff, hb1, hsb]
    subst eb1
    refine ⟨_, rfl, _, rfl, _, rfl, rfl, _, rfl, iteNot' rfl ?_⟩
    have hS16 := hS14.trans hS15
    have hD16 := hS15 _ _ hD13
    refine ⟨_, rfl, _, rfl, x, 1 + d1, ts, f, W, rfl, hwb9.same hS16, ho, hcl, .inl (hS16 _ _ hf9), hW, by omega, by omega, by omega, hbig, fun b2 H17 hb2 hS17 => ?_⟩
    have hS18 := hS16.trans hS17
    have hD18 := hS17 _ _ hD16
    refine ⟨_, rfl, _, rfl, _, rfl, _, _, dp_dn hD18, dp_dn (hS18 _ _ halb9), shaped_dn _, shaped_dn _, _, rfl, ?_⟩
    have em : (!PyData.eqv (dn (metL ts.length LL)) (dn (List.range ts.length))) = b2 := by
      rw [eqv_dns, Bool.eq_iff_iff, hb2, Bool.not_eq_true', decide_eq_false_iff_not, hmet]
    rw [em]
    refine ⟨rfl, _, rfl, iteNot' rfl ?_⟩
    -- sure in lots: sure
    refine ⟨_, rfl, _, rfl, _, _, dp_dn hD18, dp_dn (hS18 _ _ halb9), shaped_dn _, shaped_dn _, _, rfl, ?_⟩
    rw [em]
    have step3 : b2 = true → b1 = true := fun h => hb1.mpr fun z => hb2.mp h (notSure_all ho hW hm0 z)
    have step4 : W.length = 1 → b1 = true := fun h => hb1.mpr (sure_one ho hW hm0 h)
    have hl18 := hS18 _ _ hf9
    have hw18 := hwb9.same hS18
    cases b2
    case' true => refine iteT ⟨_, rfl, _, rfl, iteNb (step3 rfl) ?_⟩
    case' false => refine iteF (iteF ?_)
    all_goals
      refine ⟨_, rfl, f, _, rfl, .inl (SqL.of hl18), rfl, _, rfl, ?_⟩
      by_cases c1 : W.length = 1
      case' pos => refine iteYes (by rw [iv_length, c1]; rfl) ⟨_, rfl, _, rfl, iteNb (step4 c1) ?_⟩
      case' neg => refine iteNo (fun z => c1 (by have := int_eq.mp z; rw [iv_length] at this; omega)) (iteF ?_)
      all_goals
        cases b1 with
        | false => exact ⟨_, rfl, _, rfl, iteF (iteF ⟨_, rfl, _, rfl, iteF (iteF (fin _ _ _ _ _ _ _ hS18))⟩)⟩
        | true =>
          have hs0 : ¬ NotSure ts W (1 + d1) := hb1.mp rfl
          refine ⟨_, rfl, _, rfl, iteT ⟨_, rfl, f, _, rfl, .inl (SqL.of hl18), _, _, rfl, rfl, _, rfl, ?_⟩⟩
          by_cases c2 : 1 < W.length
          · refine iteYes (by rw [iv_length]; omega) ?_
            refine ⟨_, rfl, _, rfl, _, rfl, _, rfl, f, _, rfl, SqL.of hl18, fun q1 nq1 => ?_⟩
            have ed : cutV (iv W) none (some (-1)) = iv W.dropLast := by
              rw [cutV_most (by rw [iv_length]; exact hW.n0), iv_length, ← iv_take, List.dropLast_eq_take]
            rw [ed]
            have hld : W.dropLast.length = W.length - 1 := List.length_dropLast ..
            have hlt : W.tail.length = W.length - 1 := List.length_tail ..
            have hm3 : (W.length - 1) * ts.length ≤ 80 := Nat.le_trans (Nat.mul_le_mul_right _ (Nat.sub_le _ _)) (by omega)
            refine ⟨x, 1 + d1, ts, q1, W.dropLast, rfl, hw18.same (same_new nq1 _), ho, hcl, .inl upd_same, chain_init hW c2, by omega, by rw [hld]; exact hm3, by omega, fun b3 H19 hb3 hS19 => ⟨b3, true, rfl, rfl, _, rfl, ?_⟩⟩
            have e3 : b3 = true := hb3.mpr fun z => hs0 (notSure_init ho hW hm0 c2 z)
            subst e3
            refine iteF ?_
            have hS20 := hS18.trans ((same_new nq1 (.lst (iv W.dropLast))).trans hS19)
            have hl20 := hS20 _ _ hf9
            have hw20 := hwb9.same hS20
            refine ⟨_, rfl, _, rfl, iteT ⟨_, rfl, f, _, rfl, .inl (SqL.of hl20), _, _, rfl, rfl, _, rfl, iteYes (by rw [iv_length]; omega) ?_⟩⟩
            refine ⟨_, rfl, _, rfl, _, rfl, f, _, rfl, SqL.of hl20, fun q2 nq2 => ⟨q2, _, rfl, .inl ⟨SqL.of upd_same, fun q3 nq3 => ?_⟩⟩⟩
            have et : cutV (iv W) (some 1) none = iv W.tail := by
              have := cutV_from (xs := iv W) (k := 1)
              rw [show (((1 : Nat) : Int)) = 1 from rfl] at this
              rw [this, ← iv_drop, List.drop_one]
            rw [et] at nq3 ⊢
            have hS21 := (same_new nq2 (.lst (iv W.tail))).trans (same_new nq3 (.tup (iv W.tail)))
            refine ⟨x, 1 + d1, ts, q3, W.tail, rfl, hw20.same hS21, ho, hcl, .inr upd_same, chain_tail hW c2, by omega, by rw [hlt]; exact hm3, by omega, fun b4 H22 hb4 hS22 => ⟨b4, true, rfl, rfl, _, rfl, ?_⟩⟩
            have e4 : b4 = true := hb4.mpr fun z => hs0 (notSure_tail ho hW hm0 c2 z)
            subst e4
            refine iteF ?_
            exact fin _ _ _ _ _ _ _ (hS20.trans (hS21.trans hS22))
          · refine iteNo (by rw [iv_length]; omega) (iteF ?_)
            refine ⟨_, rfl, _, rfl, iteT ⟨_, rfl, f, _, rfl, .inl (SqL.of hl18), _, _, rfl, rfl, _, rfl, iteNo (by rw [iv_length]; omega) (iteF ?_)⟩⟩
            exact fin _ _ _ _ _ _ _ hS18
  · rintro σ H7 ⟨v1, v5, v6, v7, v8, v9, rfl, _⟩
    exact q H7
def splaw (K : PySem.W.Frag) (_ : Addr) : Sp := fun vs H Q _ => ∃ a, ∃ ns : List Int, vs = [.ref a] ∧ SqL K H a (ns.map V.int) ∧ ns.length ≤ 63 ∧ ∀ H', Q (.bl true) H'
theorem oklaw (D : Def K mg "law" slaw ["_law_script"]) (B : Bs mg) (Glb : Glo mg) (WK : WebK K mg C)
    (h_law_right : Good P w K mg base "_law_right" s_law_right ["_law_pot_here"] 15 (sp_law_right K C))
    (h_law_pot : Good P w K mg base "_law_pot" s_law_pot ["_law_script", "_law_k"] 1 (sp_law_pot K C)) :
    Good P w K mg base "law" slaw ["_law_script"] 16 (splaw K C) := by
  refine D.good fun f fd F => ?_
  obtain ⟨f_law_right, d_law_right, O_law_right, m_law_right, k_law_right, b_law_right, F_law_right⟩ := h_law_right
  obtain ⟨f_law_pot, d_law_pot, O_law_pot, m_law_pot, k_law_pot, b_law_pot, F_law_pot⟩ := h_law_pot
  refine F.ok sclaw (fun vs H Q E h => ?_) (fun cdv A outer s H vs Q E hr h => ?_)
  · obtain ⟨sa, ns, rfl, hs, h63, q⟩ := h
    first | rfl | (rcases h with ⟨_, _, rfl, _⟩ | ⟨_, rfl, _⟩ <;> rfl)
  obtain ⟨sa, ns, rfl, hs, h63, q⟩ := h
  refine ⟨_, (pss_one (ps_ret (pe_call O_law_right hr rfl m_law_right k_law_right b_law_right .nil pass0 (pa_cons (pe_call O_law_pot (hr.mono (by decide)) rfl m_law_pot k_law_pot b_law_pot .nil pass0 (pa_cons (pv 0) (pa_cons pe_int pa_nil))) pa_nil)))), ?_⟩
  exact ⟨_, rfl, sa, ns, rfl, hs, fun a H1 hp1 hS1 na => ⟨a, rfl, hp1, q⟩⟩
end
end My
namespace My
open PySem L2 PyProof.Rows
/-! ### the end -/
theorem kit_no {K : PySem.W.Frag} {C : Addr} (h1 : PySem.W.isClsIn K C = true) (h2 : PySem.W.typeIn K (.ref C) = some (.type "type")) (h3 : PySem.W.subIn K (.type "dict") (.ref C) = some false) : PySem.W.kitOne K (.type "dict") (.ref C) = some false := by
  unfold PySem.W.kitOne
  rw [if_neg (by simp)]
  show (if ((PySem.W.clsIn K C).isSome && PySem.W.typeIn K (.ref C) == some (.type "type")) = true then PySem.W.subIn K (.type "dict") (.ref C) else none) = some false
  have h1' : (PySem.W.clsIn K C).isSome = true := h1
  rw [h1', h2, if_pos (by simp)]
  exact h3
theorem fd_is {K : PySem.W.Frag} {x : Str} {st : Stmt} {f : Addr} {fd fe : FuncData} {oc : Value} {od : Option Addr} {sl : Array (Option Value)} (F : Fun K x x st f fd) (l : K.lookup f = some ⟨oc, od, .func fe, sl⟩) : fd = fe := by
  obtain ⟨oc2, od2, kV, doc, pm, an, cdv, ct, osl, e, lk, c⟩ := F.ex
  rw [lk] at l
  have := Option.some.inj l
  injection this with _ _ h3 _
  injection h3
set_option maxHeartbeats 4000000 in
theorem all_mk {l : PySem.W.OpenLaw} {w : World} {K : PySem.W.Frag} {h : Heap} {mg : Str → Option Value} {fa C : Addr} (X : K.In h) (G : h.Ns mainGlobals mg) (hfa : mg "law" = some (.ref fa))
    {fM0 : Addr} {odM0 anM0 : Option Addr} {slM0 : Array (Option Value)} {ocM0 kVM0 dcM0 pmM0 cdM0 ctM0 : Value} {fM1 : Addr} {odM1 anM1 : Option Addr} {slM1 : Array (Option Value)} {ocM1 kVM1 dcM1 pmM1 cdM1 ctM1 : Value} {pM1 : Addr} {rsM1 : List Value} {fM2 : Addr} {odM2 anM2 : Option Addr} {slM2 : Array (Option Value)} {ocM2 kVM2 dcM2 pmM2 cdM2 ctM2 : Value} {pM2 : Addr} {rsM2 : List Value} {fM3 : Addr} {odM3 anM3 : Option Addr} {slM3 : Array (Option Value)} {ocM3 kVM3 dcM3 pmM3 cdM3 ctM3 : Value} {fM4 : Addr} {odM4 anM4 : Option Addr} {slM4 : Array (Option Value)} {ocM4 kVM4 dcM4 pmM4 cdM4 ctM4 : Value} {f0 : Addr} {od0 an0 : Option Addr} {sl0 : Array (Option Value)} {oc0 kV0 dc0 pm0 cd0 ct0 : Value} {f1 : Addr} {od1 an1 : Option Addr} {sl1 : Array (Option Value)} {oc1 kV1 dc1 pm1 cd1 ct1 : Value} {f2 : Addr} {od2 an2 : Option Addr} {sl2 : Array (Option Value)} {oc2 kV2 dc2 pm2 cd2 ct2 : Value} {f3 : Addr} {od3 an3 : Option Addr} {sl3 : Array (Option Value)} {oc3 kV3 dc3 pm3 cd3 ct3 : Value} {f4 : Addr} {od4 an4 : Option Addr} {sl4 : Array (Option Value)} {oc4 kV4 dc4 pm4 cd4 ct4 : Value} {f5 : Addr} {od5 an5 : Option Addr} {sl5 : Array (Option Value)} {oc5 kV5 dc5 pm5 cd5 ct5 : Value} {f6 : Addr} {od6 an6 : Option Addr} {sl6 : Array (Option Value)} {oc6 kV6 dc6 pm6 cd6 ct6 : Value} {f7 : Addr} {od7 an7 : Option Addr} {sl7 : Array (Option Value)} {oc7 kV7 dc7 pm7 cd7 ct7 : Value} {f8 : Addr} {od8 an8 : Option Addr} {sl8 : Array (Option Value)} {oc8 kV8 dc8 pm8 cd8 ct8 : Value} {f9 : Addr} {od9 an9 : Option Addr} {sl9 : Array (Option Value)} {oc9 kV9 dc9 pm9 cd9 ct9 : Value} {f10 : Addr} {od10 an10 : Option Addr} {sl10 : Array (Option Value)} {oc10 kV10 dc10 pm10 cd10 ct10 : Value} {f11 : Addr} {od11 an11 : Option Addr} {sl11 : Array (Option Value)} {oc11 kV11 dc11 pm11 cd11 ct11 : Value} {f12 : Addr} {od12 an12 : Option Addr} {sl12 : Array (Option Value)} {oc12 kV12 dc12 pm12 cd12 ct12 : Value} {f13 : Addr} {od13 an13 : Option Addr} {sl13 : Array (Option Value)} {oc13 kV13 dc13 pm13 cd13 ct13 : Value} {f14 : Addr} {od14 an14 : Option Addr} {sl14 : Array (Option Value)} {oc14 kV14 dc14 pm14 cd14 ct14 : Value} {f15 : Addr} {od15 an15 : Option Addr} {sl15 : Array (Option Value)} {oc15 kV15 dc15 pm15 cd15 ct15 : Value} {f16 : Addr} {od16 an16 : Option Addr} {sl16 : Array (Option Value)} {oc16 kV16 dc16 pm16 cd16 ct16 : Value} {f17 : Addr} {od17 an17 : Option Addr} {sl17 : Array (Option Value)} {oc17 kV17 dc17 pm17 cd17 ct17 : Value} {f18 : Addr} {od18 an18 : Option Addr} {sl18 : Array (Option Value)} {oc18 kV18 dc18 pm18 cd18 ct18 : Value} {f19 : Addr} {od19 an19 : Option Addr} {sl19 : Array (Option Value)} {oc19 kV19 dc19 pm19 cd19 ct19 : Value} {f20 : Addr} {od20 an20 : Option Addr} {sl20 : Array (Option Value)} {oc20 kV20 dc20 pm20 cd20 ct20 : Value} {f21 : Addr} {od21 an21 : Option Addr} {sl21 : Array (Option Value)} {oc21 kV21 dc21 pm21 cd21 ct21 : Value} {f22 : Addr} {od22 an22 : Option Addr} {sl22 : Array (Option Value)} {oc22 kV22 dc22 pm22 cd22 ct22 : Value} {f23 : Addr} {od23 an23 : Option Addr} {sl23 : Array (Option Value)} {oc23 kV23 dc23 pm23 cd23 ct23 : Value} {f24 : Addr} {od24 an24 : Option Addr} {sl24 : Array (Option Value)} {oc24 kV24 dc24 pm24 cd24 ct24 : Value} {f25 : Addr} {od25 an25 : Option Addr} {sl25 : Array (Option Value)} {oc25 kV25 dc25 pm25 cd25 ct25 : Value} {f26 : Addr} {od26 an26 : Option Addr} {sl26 : Array (Option Value)} {oc26 kV26 dc26 pm26 cd26 ct26 : Value} {f27 : Addr} {od27 an27 : Option Addr} {sl27 : Array (Option Value)} {oc27 kV27 dc27 pm27 cd27 ct27 : Value} {f28 : Addr} {od28 an28 : Option Addr} {sl28 : Array (Option Value)} {oc28 kV28 dc28 pm28 cd28 ct28 : Value} {f29 : Addr} {od29 an29 : Option Addr} {sl29 : Array (Option Value)} {oc29 kV29 dc29 pm29 cd29 ct29 : Value} {f30 : Addr} {od30 an30 : Option Addr} {sl30 : Array (Option Value)} {oc30 kV30 dc30 pm30 cd30 ct30 : Value} {f31 : Addr} {od31 an31 : Option Addr} {sl31 : Array (Option Value)} {oc31 kV31 dc31 pm31 cd31 ct31 : Value} {f32 : Addr} {od32 an32 : Option Addr} {sl32 : Array (Option Value)} {oc32 kV32 dc32 pm32 cd32 ct32 : Value} {f33 : Addr} {od33 an33 : Option Addr} {sl33 : Array (Option Value)} {oc33 kV33 dc33 pm33 cd33 ct33 : Value} {f34 : Addr} {od34 an34 : Option Addr} {sl34 : Array (Option Value)} {oc34 kV34 dc34 pm34 cd34 ct34 : Value} {f35 : Addr} {od35 an35 : Option Addr} {sl35 : Array (Option Value)} {oc35 kV35 dc35 pm35 cd35 ct35 : Value} {f36 : Addr} {od36 an36 : Option Addr} {sl36 : Array (Option Value)} {oc36 kV36 dc36 pm36 cd36 ct36 : Value} {f37 : Addr} {od37 an37 : Option Addr} {sl37 : Array (Option Value)} {oc37 kV37 dc37 pm37 cd37 ct37 : Value} {f38 : Addr} {od38 an38 : Option Addr} {sl38 : Array (Option Value)} {oc38 kV38 dc38 pm38 cd38 ct38 : Value} {f39 : Addr} {od39 an39 : Option Addr} {sl39 : Array (Option Value)} {oc39 kV39 dc39 pm39 cd39 ct39 : Value} {f40 : Addr} {od40 an40 : Option Addr} {sl40 : Array (Option Value)} {oc40 kV40 dc40 pm40 cd40 ct40 : Value} {t0 : Tok} {t1 : Tok} {t2 : Tok}
    (aC : PySem.W.nsIn K mainGlobals "Web" = some (some (.ref C)))
    (aM0 : PySem.W.findIn K (.ref C) "__init__" = some (some (.ref fM0))) (iM0 : PySem.W.isFn K (.ref fM0) = true) (lM0 : K.lookup fM0 = some ⟨ocM0, odM0, .func (PySem.W.fnOf "__init__" "Web.__init__" (defArgs sWeb___init__) (defBody sWeb___init__) (defScope sWeb___init__) .none kVM0 dcM0 pmM0 anM0 cdM0 ctM0), slM0⟩) (cM0 : PySem.W.codeIn K cdM0 "Web.__init__" = true) (kM0 : PySem.W.keepIn K (.ref fM0) = true)
    (aM1 : PySem.W.findIn K (.ref C) "places" = some (some (.ref pM1))) (gM1 : PySem.W.specialIn K (.ref pM1) "__get__" = some (some (.builtin "property.__get__"))) (tM1 : PySem.W.takesIn K (.ref pM1) = some true) (rM1 : PySem.W.recIn K pM1 "property" = some (.ref fM1 :: rsM1)) (lM1 : K.lookup fM1 = some ⟨ocM1, odM1, .func (PySem.W.fnOf "places" "Web.places" (defArgs sWeb_places) (defBody sWeb_places) (defScope sWeb_places) .none kVM1 dcM1 pmM1 anM1 cdM1 ctM1), slM1⟩) (cM1 : PySem.W.codeIn K cdM1 "Web.places" = true) (kM1 : PySem.W.keepIn K (.ref fM1) = true)
    (aM2 : PySem.W.findIn K (.ref C) "many" = some (some (.ref pM2))) (gM2 : PySem.W.specialIn K (.ref pM2) "__get__" = some (some (.builtin "property.__get__"))) (tM2 : PySem.W.takesIn K (.ref pM2) = some true) (rM2 : PySem.W.recIn K pM2 "property" = some (.ref fM2 :: rsM2)) (lM2 : K.lookup fM2 = some ⟨ocM2, odM2, .func (PySem.W.fnOf "many" "Web.many" (defArgs sWeb_many) (defBody sWeb_many) (defScope sWeb_many) .none kVM2 dcM2 pmM2 anM2 cdM2 ctM2), slM2⟩) (cM2 : PySem.W.codeIn K cdM2 "Web.many" = true) (kM2 : PySem.W.keepIn K (.ref fM2) = true)
    (aM3 : PySem.W.findIn K (.ref C) "ties" = some (some (.ref fM3))) (iM3 : PySem.W.isFn K (.ref fM3) = true) (lM3 : K.lookup fM3 = some ⟨ocM3, odM3, .func (PySem.W.fnOf "ties" "Web.ties" (defArgs sWeb_ties) (defBody sWeb_ties) (defScope sWeb_ties) .none kVM3 dcM3 pmM3 anM3 cdM3 ctM3), slM3⟩) (cM3 : PySem.W.codeIn K cdM3 "Web.ties" = true) (kM3 : PySem.W.keepIn K (.ref fM3) = true)
    (aM4 : PySem.W.findIn K (.ref C) "ties_from" = some (some (.ref fM4))) (iM4 : PySem.W.isFn K (.ref fM4) = true) (lM4 : K.lookup fM4 = some ⟨ocM4, odM4, .func (PySem.W.fnOf "ties_from" "Web.ties_from" (defArgs sWeb_ties_from) (defBody sWeb_ties_from) (defScope sWeb_ties_from) .none kVM4 dcM4 pmM4 anM4 cdM4 ctM4), slM4⟩) (cM4 : PySem.W.codeIn K cdM4 "Web.ties_from" = true) (kM4 : PySem.W.keepIn K (.ref fM4) = true)
    (a0 : PySem.W.nsIn K mainGlobals "is_integer" = some (some (.ref f0))) (l0 : K.lookup f0 = some ⟨oc0, od0, .func (PySem.W.fnOf "is_integer" "is_integer" (defArgs sis_integer) (defBody sis_integer) (defScope sis_integer) .none kV0 dc0 pm0 an0 cd0 ct0), sl0⟩) (c0 : PySem.W.codeIn K cd0 "is_integer" = true) (k0 : PySem.W.keepIn K (.ref f0) = true)
    (a1 : PySem.W.nsIn K mainGlobals "is_count" = some (some (.ref f1))) (l1 : K.lookup f1 = some ⟨oc1, od1, .func (PySem.W.fnOf "is_count" "is_count" (defArgs sis_count) (defBody sis_count) (defScope sis_count) .none kV1 dc1 pm1 an1 cd1 ct1), sl1⟩) (c1 : PySem.W.codeIn K cd1 "is_count" = true) (k1 : PySem.W.keepIn K (.ref f1) = true)
    (a2 : PySem.W.nsIn K mainGlobals "is_between" = some (some (.ref f2))) (l2 : K.lookup f2 = some ⟨oc2, od2, .func (PySem.W.fnOf "is_between" "is_between" (defArgs sis_between) (defBody sis_between) (defScope sis_between) .none kV2 dc2 pm2 an2 cd2 ct2), sl2⟩) (c2 : PySem.W.codeIn K cd2 "is_between" = true) (k2 : PySem.W.keepIn K (.ref f2) = true)
    (a3 : PySem.W.nsIn K mainGlobals "is_below" = some (some (.ref f3))) (l3 : K.lookup f3 = some ⟨oc3, od3, .func (PySem.W.fnOf "is_below" "is_below" (defArgs sis_below) (defBody sis_below) (defScope sis_below) .none kV3 dc3 pm3 an3 cd3 ct3), sl3⟩) (c3 : PySem.W.codeIn K cd3 "is_below" = true) (k3 : PySem.W.keepIn K (.ref f3) = true)
    (a4 : PySem.W.nsIn K mainGlobals "is_listed" = some (some (.ref f4))) (l4 : K.lookup f4 = some ⟨oc4, od4, .func (PySem.W.fnOf "is_listed" "is_listed" (defArgs sis_listed) (defBody sis_listed) (defScope sis_listed) .none kV4 dc4 pm4 an4 cd4 ct4), sl4⟩) (c4 : PySem.W.codeIn K cd4 "is_listed" = true) (k4 : PySem.W.keepIn K (.ref f4) = true)
    (a5 : PySem.W.nsIn K mainGlobals "parts_in_turn" = some (some (.ref f5))) (l5 : K.lookup f5 = some ⟨oc5, od5, .func (PySem.W.fnOf "parts_in_turn" "parts_in_turn" (defArgs sparts_in_turn) (defBody sparts_in_turn) (defScope sparts_in_turn) .none kV5 dc5 pm5 an5 cd5 ct5), sl5⟩) (c5 : PySem.W.codeIn K cd5 "parts_in_turn" = true) (k5 : PySem.W.keepIn K (.ref f5) = true)
    (a6 : PySem.W.nsIn K mainGlobals "_left_from" = some (some (.ref f6))) (l6 : K.lookup f6 = some ⟨oc6, od6, .func (PySem.W.fnOf "_left_from" "_left_from" (defArgs s_left_from) (defBody s_left_from) (defScope s_left_from) .none kV6 dc6 pm6 an6 cd6 ct6), sl6⟩) (c6 : PySem.W.codeIn K cd6 "_left_from" = true) (k6 : PySem.W.keepIn K (.ref f6) = true)
    (a7 : PySem.W.nsIn K mainGlobals "longest_borders" = some (some (.ref f7))) (l7 : K.lookup f7 = some ⟨oc7, od7, .func (PySem.W.fnOf "longest_borders" "longest_borders" (defArgs slongest_borders) (defBody slongest_borders) (defScope slongest_borders) .none kV7 dc7 pm7 an7 cd7 ct7), sl7⟩) (c7 : PySem.W.codeIn K cd7 "longest_borders" = true) (k7 : PySem.W.keepIn K (.ref f7) = true)
    (a8 : PySem.W.nsIn K mainGlobals "are_ties" = some (some (.ref f8))) (l8 : K.lookup f8 = some ⟨oc8, od8, .func (PySem.W.fnOf "are_ties" "are_ties" (defArgs sare_ties) (defBody sare_ties) (defScope sare_ties) .none kV8 dc8 pm8 an8 cd8 ct8), sl8⟩) (c8 : PySem.W.codeIn K cd8 "are_ties" = true) (k8 : PySem.W.keepIn K (.ref f8) = true)
    (a9 : PySem.W.nsIn K mainGlobals "need_web" = some (some (.ref f9))) (l9 : K.lookup f9 = some ⟨oc9, od9, .func (PySem.W.fnOf "need_web" "need_web" (defArgs sneed_web) (defBody sneed_web) (defScope sneed_web) .none kV9 dc9 pm9 an9 cd9 ct9), sl9⟩) (c9 : PySem.W.codeIn K cd9 "need_web" = true) (k9 : PySem.W.keepIn K (.ref f9) = true)
    (a10 : PySem.W.nsIn K mainGlobals "need_place" = some (some (.ref f10))) (l10 : K.lookup f10 = some ⟨oc10, od10, .func (PySem.W.fnOf "need_place" "need_place" (defArgs sneed_place) (defBody sneed_place) (defScope sneed_place) .none kV10 dc10 pm10 an10 cd10 ct10), sl10⟩) (c10 : PySem.W.codeIn K cd10 "need_place" = true) (k10 : PySem.W.keepIn K (.ref f10) = true)
    (a11 : PySem.W.nsIn K mainGlobals "are_numbers" = some (some (.ref f11))) (l11 : K.lookup f11 = some ⟨oc11, od11, .func (PySem.W.fnOf "are_numbers" "are_numbers" (defArgs sare_numbers) (defBody sare_numbers) (defScope sare_numbers) .none kV11 dc11 pm11 an11 cd11 ct11), sl11⟩) (c11 : PySem.W.codeIn K cd11 "are_numbers" = true) (k11 : PySem.W.keepIn K (.ref f11) = true)
    (a12 : PySem.W.nsIn K mainGlobals "_go_on" = some (some (.ref f12))) (l12 : K.lookup f12 = some ⟨oc12, od12, .func (PySem.W.fnOf "_go_on" "_go_on" (defArgs s_go_on) (defBody s_go_on) (defScope s_go_on) .none kV12 dc12 pm12 an12 cd12 ct12), sl12⟩) (c12 : PySem.W.codeIn K cd12 "_go_on" = true) (k12 : PySem.W.keepIn K (.ref f12) = true)
    (a13 : PySem.W.nsIn K mainGlobals "is_walk" = some (some (.ref f13))) (l13 : K.lookup f13 = some ⟨oc13, od13, .func (PySem.W.fnOf "is_walk" "is_walk" (defArgs sis_walk) (defBody sis_walk) (defScope sis_walk) .none kV13 dc13 pm13 an13 cd13 ct13), sl13⟩) (c13 : PySem.W.codeIn K cd13 "is_walk" = true) (k13 : PySem.W.keepIn K (.ref f13) = true)
    (a14 : PySem.W.nsIn K mainGlobals "need_walk" = some (some (.ref f14))) (l14 : K.lookup f14 = some ⟨oc14, od14, .func (PySem.W.fnOf "need_walk" "need_walk" (defArgs sneed_walk) (defBody sneed_walk) (defScope sneed_walk) .none kV14 dc14 pm14 an14 cd14 ct14), sl14⟩) (c14 : PySem.W.codeIn K cd14 "need_walk" = true) (k14 : PySem.W.keepIn K (.ref f14) = true)
    (a15 : PySem.W.nsIn K mainGlobals "web_steps" = some (some (.ref f15))) (l15 : K.lookup f15 = some ⟨oc15, od15, .func (PySem.W.fnOf "web_steps" "web_steps" (defArgs sweb_steps) (defBody sweb_steps) (defScope sweb_steps) .none kV15 dc15 pm15 an15 cd15 ct15), sl15⟩) (c15 : PySem.W.codeIn K cd15 "web_steps" = true) (k15 : PySem.W.keepIn K (.ref f15) = true)
    (a16 : PySem.W.nsIn K mainGlobals "parts_of" = some (some (.ref f16))) (l16 : K.lookup f16 = some ⟨oc16, od16, .func (PySem.W.fnOf "parts_of" "parts_of" (defArgs sparts_of) (defBody sparts_of) (defScope sparts_of) .none kV16 dc16 pm16 an16 cd16 ct16), sl16⟩) (c16 : PySem.W.codeIn K cd16 "parts_of" = true) (k16 : PySem.W.keepIn K (.ref f16) = true)
    (a17 : PySem.W.nsIn K mainGlobals "is_close" = some (some (.ref f17))) (l17 : K.lookup f17 = some ⟨oc17, od17, .func (PySem.W.fnOf "is_close" "is_close" (defArgs sis_close) (defBody sis_close) (defScope sis_close) .none kV17 dc17 pm17 an17 cd17 ct17), sl17⟩) (c17 : PySem.W.codeIn K cd17 "is_close" = true) (k17 : PySem.W.keepIn K (.ref f17) = true)
    (a18 : PySem.W.nsIn K mainGlobals "need_close" = some (some (.ref f18))) (l18 : K.lookup f18 = some ⟨oc18, od18, .func (PySem.W.fnOf "need_close" "need_close" (defArgs sneed_close) (defBody sneed_close) (defScope sneed_close) .none kV18 dc18 pm18 an18 cd18 ct18), sl18⟩) (c18 : PySem.W.codeIn K cd18 "need_close" = true) (k18 : PySem.W.keepIn K (.ref f18) = true)
    (a19 : PySem.W.nsIn K mainGlobals "need_walk_of_close" = some (some (.ref f19))) (l19 : K.lookup f19 = some ⟨oc19, od19, .func (PySem.W.fnOf "need_walk_of_close" "need_walk_of_close" (defArgs sneed_walk_of_close) (defBody sneed_walk_of_close) (defScope sneed_walk_of_close) .none kV19 dc19 pm19 an19 cd19 ct19), sl19⟩) (c19 : PySem.W.codeIn K cd19 "need_walk_of_close" = true) (k19 : PySem.W.keepIn K (.ref f19) = true)
    (a20 : PySem.W.nsIn K mainGlobals "falls" = some (some (.ref f20))) (l20 : K.lookup f20 = some ⟨oc20, od20, .func (PySem.W.fnOf "falls" "falls" (defArgs sfalls) (defBody sfalls) (defScope sfalls) .none kV20 dc20 pm20 an20 cd20 ct20), sl20⟩) (c20 : PySem.W.codeIn K cd20 "falls" = true) (k20 : PySem.W.keepIn K (.ref f20) = true)
    (a21 : PySem.W.nsIn K mainGlobals "table" = some (some (.ref f21))) (l21 : K.lookup f21 = some ⟨oc21, od21, .func (PySem.W.fnOf "table" "table" (defArgs stable) (defBody stable) (defScope stable) .none kV21 dc21 pm21 an21 cd21 ct21), sl21⟩) (c21 : PySem.W.codeIn K cd21 "table" = true) (k21 : PySem.W.keepIn K (.ref f21) = true)
    (a22 : PySem.W.nsIn K mainGlobals "_standings" = some (some (.ref f22))) (l22 : K.lookup f22 = some ⟨oc22, od22, .func (PySem.W.fnOf "_standings" "_standings" (defArgs s_standings) (defBody s_standings) (defScope s_standings) .none kV22 dc22 pm22 an22 cd22 ct22), sl22⟩) (c22 : PySem.W.codeIn K cd22 "_standings" = true) (k22 : PySem.W.keepIn K (.ref f22) = true)
    (a23 : PySem.W.nsIn K mainGlobals "_steps" = some (some (.ref f23))) (l23 : K.lookup f23 = some ⟨oc23, od23, .func (PySem.W.fnOf "_steps" "_steps" (defArgs s_steps) (defBody s_steps) (defScope s_steps) .none kV23 dc23 pm23 an23 cd23 ct23), sl23⟩) (c23 : PySem.W.codeIn K cd23 "_steps" = true) (k23 : PySem.W.keepIn K (.ref f23) = true)
    (a24 : PySem.W.nsIn K mainGlobals "product" = some (some (.ref f24))) (l24 : K.lookup f24 = some ⟨oc24, od24, .func (PySem.W.fnOf "product" "product" (defArgs sproduct) (defBody sproduct) (defScope sproduct) .none kV24 dc24 pm24 an24 cd24 ct24), sl24⟩) (c24 : PySem.W.codeIn K cd24 "product" = true) (k24 : PySem.W.keepIn K (.ref f24) = true)
    (a25 : PySem.W.nsIn K mainGlobals "_parts_with_steps" = some (some (.ref f25))) (l25 : K.lookup f25 = some ⟨oc25, od25, .func (PySem.W.fnOf "_parts_with_steps" "_parts_with_steps" (defArgs s_parts_with_steps) (defBody s_parts_with_steps) (defScope s_parts_with_steps) .none kV25 dc25 pm25 an25 cd25 ct25), sl25⟩) (c25 : PySem.W.codeIn K cd25 "_parts_with_steps" = true) (k25 : PySem.W.keepIn K (.ref f25) = true)
    (a26 : PySem.W.nsIn K mainGlobals "_ties_of" = some (some (.ref f26))) (l26 : K.lookup f26 = some ⟨oc26, od26, .func (PySem.W.fnOf "_ties_of" "_ties_of" (defArgs s_ties_of) (defBody s_ties_of) (defScope s_ties_of) .none kV26 dc26 pm26 an26 cd26 ct26), sl26⟩) (c26 : PySem.W.codeIn K cd26 "_ties_of" = true) (k26 : PySem.W.keepIn K (.ref f26) = true)
    (a27 : PySem.W.nsIn K mainGlobals "parts_without" = some (some (.ref f27))) (l27 : K.lookup f27 = some ⟨oc27, od27, .func (PySem.W.fnOf "parts_without" "parts_without" (defArgs sparts_without) (defBody sparts_without) (defScope sparts_without) .none kV27 dc27 pm27 an27 cd27 ct27), sl27⟩) (c27 : PySem.W.codeIn K cd27 "parts_without" = true) (k27 : PySem.W.keepIn K (.ref f27) = true)
    (a28 : PySem.W.nsIn K mainGlobals "is_sure_plain" = some (some (.ref f28))) (l28 : K.lookup f28 = some ⟨oc28, od28, .func (PySem.W.fnOf "is_sure_plain" "is_sure_plain" (defArgs sis_sure_plain) (defBody sis_sure_plain) (defScope sis_sure_plain) .none kV28 dc28 pm28 an28 cd28 ct28), sl28⟩) (c28 : PySem.W.codeIn K cd28 "is_sure_plain" = true) (k28 : PySem.W.keepIn K (.ref f28) = true)
    (a29 : PySem.W.nsIn K mainGlobals "is_sure_in_lots" = some (some (.ref f29))) (l29 : K.lookup f29 = some ⟨oc29, od29, .func (PySem.W.fnOf "is_sure_in_lots" "is_sure_in_lots" (defArgs sis_sure_in_lots) (defBody sis_sure_in_lots) (defScope sis_sure_in_lots) .none kV29 dc29 pm29 an29 cd29 ct29), sl29⟩) (c29 : PySem.W.codeIn K cd29 "is_sure_in_lots" = true) (k29 : PySem.W.keepIn K (.ref f29) = true)
    (a30 : PySem.W.nsIn K mainGlobals "_law_pot" = some (some (.ref f30))) (l30 : K.lookup f30 = some ⟨oc30, od30, .func (PySem.W.fnOf "_law_pot" "_law_pot" (defArgs s_law_pot) (defBody s_law_pot) (defScope s_law_pot) .none kV30 dc30 pm30 an30 cd30 ct30), sl30⟩) (c30 : PySem.W.codeIn K cd30 "_law_pot" = true) (k30 : PySem.W.keepIn K (.ref f30) = true)
    (a31 : PySem.W.nsIn K mainGlobals "_law_draw" = some (some (.ref f31))) (l31 : K.lookup f31 = some ⟨oc31, od31, .func (PySem.W.fnOf "_law_draw" "_law_draw" (defArgs s_law_draw) (defBody s_law_draw) (defScope s_law_draw) .none kV31 dc31 pm31 an31 cd31 ct31), sl31⟩) (c31 : PySem.W.codeIn K cd31 "_law_draw" = true) (k31 : PySem.W.keepIn K (.ref f31) = true)
    (a32 : PySem.W.nsIn K mainGlobals "_law_pick" = some (some (.ref f32))) (l32 : K.lookup f32 = some ⟨oc32, od32, .func (PySem.W.fnOf "_law_pick" "_law_pick" (defArgs s_law_pick) (defBody s_law_pick) (defScope s_law_pick) .none kV32 dc32 pm32 an32 cd32 ct32), sl32⟩) (c32 : PySem.W.codeIn K cd32 "_law_pick" = true) (k32 : PySem.W.keepIn K (.ref f32) = true)
    (a33 : PySem.W.nsIn K mainGlobals "_law_ties" = some (some (.ref f33))) (l33 : K.lookup f33 = some ⟨oc33, od33, .func (PySem.W.fnOf "_law_ties" "_law_ties" (defArgs s_law_ties) (defBody s_law_ties) (defScope s_law_ties) .none kV33 dc33 pm33 an33 cd33 ct33), sl33⟩) (c33 : PySem.W.codeIn K cd33 "_law_ties" = true) (k33 : PySem.W.keepIn K (.ref f33) = true)
    (a34 : PySem.W.nsIn K mainGlobals "_law_walk" = some (some (.ref f34))) (l34 : K.lookup f34 = some ⟨oc34, od34, .func (PySem.W.fnOf "_law_walk" "_law_walk" (defArgs s_law_walk) (defBody s_law_walk) (defScope s_law_walk) .none kV34 dc34 pm34 an34 cd34 ct34), sl34⟩) (c34 : PySem.W.codeIn K cd34 "_law_walk" = true) (k34 : PySem.W.keepIn K (.ref f34) = true)
    (a35 : PySem.W.nsIn K mainGlobals "_law_walks" = some (some (.ref f35))) (l35 : K.lookup f35 = some ⟨oc35, od35, .func (PySem.W.fnOf "_law_walks" "_law_walks" (defArgs s_law_walks) (defBody s_law_walks) (defScope s_law_walks) .none kV35 dc35 pm35 an35 cd35 ct35), sl35⟩) (c35 : PySem.W.codeIn K cd35 "_law_walks" = true) (k35 : PySem.W.keepIn K (.ref f35) = true)
    (a36 : PySem.W.nsIn K mainGlobals "_law_steps" = some (some (.ref f36))) (l36 : K.lookup f36 = some ⟨oc36, od36, .func (PySem.W.fnOf "_law_steps" "_law_steps" (defArgs s_law_steps) (defBody s_law_steps) (defScope s_law_steps) .none kV36 dc36 pm36 an36 cd36 ct36), sl36⟩) (c36 : PySem.W.codeIn K cd36 "_law_steps" = true) (k36 : PySem.W.keepIn K (.ref f36) = true)
    (a37 : PySem.W.nsIn K mainGlobals "_law_come_to" = some (some (.ref f37))) (l37 : K.lookup f37 = some ⟨oc37, od37, .func (PySem.W.fnOf "_law_come_to" "_law_come_to" (defArgs s_law_come_to) (defBody s_law_come_to) (defScope s_law_come_to) .none kV37 dc37 pm37 an37 cd37 ct37), sl37⟩) (c37 : PySem.W.codeIn K cd37 "_law_come_to" = true) (k37 : PySem.W.keepIn K (.ref f37) = true)
    (a38 : PySem.W.nsIn K mainGlobals "_law_lots" = some (some (.ref f38))) (l38 : K.lookup f38 = some ⟨oc38, od38, .func (PySem.W.fnOf "_law_lots" "_law_lots" (defArgs s_law_lots) (defBody s_law_lots) (defScope s_law_lots) .none kV38 dc38 pm38 an38 cd38 ct38), sl38⟩) (c38 : PySem.W.codeIn K cd38 "_law_lots" = true) (k38 : PySem.W.keepIn K (.ref f38) = true)
    (a39 : PySem.W.nsIn K mainGlobals "_law_right" = some (some (.ref f39))) (l39 : K.lookup f39 = some ⟨oc39, od39, .func (PySem.W.fnOf "_law_right" "_law_right" (defArgs s_law_right) (defBody s_law_right) (defScope s_law_right) .none kV39 dc39 pm39 an39 cd39 ct39), sl39⟩) (c39 : PySem.W.codeIn K cd39 "_law_right" = true) (k39 : PySem.W.keepIn K (.ref f39) = true)
    (a40 : PySem.W.nsIn K mainGlobals "law" = some (some (.ref f40))) (l40 : K.lookup f40 = some ⟨oc40, od40, .func (PySem.W.fnOf "law" "law" (defArgs slaw) (defBody slaw) (defScope slaw) .none kV40 dc40 pm40 an40 cd40 ct40), sl40⟩) (c40 : PySem.W.codeIn K cd40 "law" = true) (k40 : PySem.W.keepIn K (.ref f40) = true)
    (pg : PySem.W.plainGet K C Str.empty = true) (hd : PySem.W.hasDictIn K C = true) (po : PySem.W.plainOver K C = true) (sa : PySem.W.findIn K (.ref C) "__setattr__" = some (some (.builtin "object.__setattr__"))) (mk : PySem.W.makesIn K C = true) (kc : PySem.W.keepIn K (.ref C) = true)
    (n0 : PySem.W.findIn K (.ref C) "_places" = some none)
    (n1 : PySem.W.findIn K (.ref C) "_ties" = some none)
    (n2 : PySem.W.findIn K (.ref C) "_ties_from" = some none)
    (n3 : PySem.W.findIn K (.ref C) "_ties_to" = some none)
    (q1 : PySem.W.findIn K (.ref C) "__class__" = some (some (.builtin "object.__class__"))) (q2 : PySem.W.specialIn K (.builtin "object.__class__") "__get__" = some (some (.builtin "getset_descriptor.__get__"))) (q3 : PySem.W.takesIn K (.builtin "object.__class__") = some true) (q4 : PySem.W.mroIn K C (.type "object") = some true)
    (w1 : PySem.W.findIn K (.ref C) "__ne__" = some (some (.builtin "object.__ne__")))
    (z0 : PySem.W.nsIn K mainGlobals "isinstance" = some none)
    (z1 : PySem.W.nsIn K mainGlobals "int" = some none)
    (z2 : PySem.W.nsIn K mainGlobals "bool" = some none)
    (z3 : PySem.W.nsIn K mainGlobals "list" = some none)
    (z4 : PySem.W.nsIn K mainGlobals "tuple" = some none)
    (z5 : PySem.W.nsIn K mainGlobals "len" = some none)
    (z6 : PySem.W.nsIn K mainGlobals "range" = some none)
    (z7 : PySem.W.nsIn K mainGlobals "abs" = some none)
    (z8 : PySem.W.nsIn K mainGlobals "max" = some none)
    (z9 : PySem.W.nsIn K mainGlobals "min" = some none)
    (z10 : PySem.W.nsIn K mainGlobals "divmod" = some none)
    (z11 : PySem.W.nsIn K mainGlobals "enumerate" = some none)
    (z12 : PySem.W.nsIn K mainGlobals "sorted" = some none)
    (z13 : PySem.W.nsIn K mainGlobals "all" = some none)
    (z14 : PySem.W.nsIn K mainGlobals "any" = some none)
    (z15 : PySem.W.nsIn K mainGlobals "repr" = some none)
    (z16 : PySem.W.nsIn K mainGlobals "set" = some none)
    (z17 : PySem.W.nsIn K mainGlobals "dict" = some none)
    (y0 : PySem.W.nsIn K mainGlobals "MOST_PLACES" = some (some (.int 60 t0)))
    (y1 : PySem.W.nsIn K mainGlobals "MOST_TIES" = some (some (.int 80 t1)))
    (y2 : PySem.W.nsIn K mainGlobals "LONGEST_WALK" = some (some (.int 400 t2)))
    : ∃ fd : FuncData, (∀ (s : Shared) (v : Value), BindsTo s fd ⟨[v], []⟩ [("_law_script", v)]) ∧ ∀ base : Heap, K.In base → base.Ns mainGlobals mg → FnOk l.prog w K mg base CX0 16 fa fd ["_law_script"] (splaw K 0) := by
  have e := hfa.symm.trans (PySem.W.mg_of X G a40)
  cases e
  have B : Bs mg := ⟨PySem.W.mg_none_of X G z0, PySem.W.mg_none_of X G z1, PySem.W.mg_none_of X G z2, PySem.W.mg_none_of X G z3, PySem.W.mg_none_of X G z4, PySem.W.mg_none_of X G z5, PySem.W.mg_none_of X G z6, PySem.W.mg_none_of X G z7, PySem.W.mg_none_of X G z8, PySem.W.mg_none_of X G z9, PySem.W.mg_none_of X G z10, PySem.W.mg_none_of X G z11, PySem.W.mg_none_of X G z12, PySem.W.mg_none_of X G z13, PySem.W.mg_none_of X G z14, PySem.W.mg_none_of X G z15, PySem.W.mg_none_of X G z16, PySem.W.mg_none_of X G z17⟩
  have Glb : Glo mg := ⟨⟨t0, PySem.W.mg_of X G y0⟩, ⟨t1, PySem.W.mg_of X G y1⟩, ⟨t2, PySem.W.mg_of X G y2⟩⟩
  have WK : WebK K mg C := ⟨⟨pg, hd, po, sa⟩, n0, n1, n2, n3, PySem.W.mg_of X G aC, q1, q2, q3, q4, (by unfold PySem.W.kitOne; exact if_pos (beq_self_eq_true _)), w1⟩
  have DWeb___init__ : DefI K C "__init__" "Web.__init__" sWeb___init__ ["self", "places", "ties"] := ⟨fM0, _, fun_mk (st := sWeb___init__) lM0 cM0 kM0, ⟨mk, aM0, iM0, kc⟩, (fun_mk (st := sWeb___init__) lM0 cM0 kM0).binds (ps := ["self", "places", "ties"]) fun _ _ _ _ _ _ us hl => match us, hl with | [_, _, _], _ => rfl⟩
  have DWeb_places : DefP K C "places" "Web.places" sWeb_places ["self"] := ⟨pM1, fM1, _, fun_mk (st := sWeb_places) lM1 cM1 kM1, ⟨aM1, gM1, tM1, _, rM1⟩, (fun_mk (st := sWeb_places) lM1 cM1 kM1).binds (ps := ["self"]) fun _ _ _ _ _ _ us hl => match us, hl with | [_], _ => rfl⟩
  have DWeb_many : DefP K C "many" "Web.many" sWeb_many ["self"] := ⟨pM2, fM2, _, fun_mk (st := sWeb_many) lM2 cM2 kM2, ⟨aM2, gM2, tM2, _, rM2⟩, (fun_mk (st := sWeb_many) lM2 cM2 kM2).binds (ps := ["self"]) fun _ _ _ _ _ _ us hl => match us, hl with | [_], _ => rfl⟩
  have DWeb_ties : DefM K C "ties" "Web.ties" sWeb_ties ["self"] := ⟨fM3, _, fun_mk (st := sWeb_ties) lM3 cM3 kM3, ⟨aM3, iM3, kM3⟩, (fun_mk (st := sWeb_ties) lM3 cM3 kM3).binds (ps := ["self"]) fun _ _ _ _ _ _ us hl => match us, hl with | [_], _ => rfl⟩
  have DWeb_ties_from : DefM K C "ties_from" "Web.ties_from" sWeb_ties_from ["self", "place"] := ⟨fM4, _, fun_mk (st := sWeb_ties_from) lM4 cM4 kM4, ⟨aM4, iM4, kM4⟩, (fun_mk (st := sWeb_ties_from) lM4 cM4 kM4).binds (ps := ["self", "place"]) fun _ _ _ _ _ _ us hl => match us, hl with | [_, _], _ => rfl⟩
  have Dis_integer : Def K mg "is_integer" sis_integer ["value"] := def_mk X G a0 l0 c0 k0 fun _ _ _ _ _ _ us hl => match us, hl with | [_], _ => rfl
  have Dis_count : Def K mg "is_count" sis_count ["value"] := def_mk X G a1 l1 c1 k1 fun _ _ _ _ _ _ us hl => match us, hl with | [_], _ => rfl
  have Dis_between : Def K mg "is_between" sis_between ["value", "least", "most"] := def_mk X G a2 l2 c2 k2 fun _ _ _ _ _ _ us hl => match us, hl with | [_, _, _], _ => rfl
  have Dis_below : Def K mg "is_below" sis_below ["value", "limit"] := def_mk X G a3 l3 c3 k3 fun _ _ _ _ _ _ us hl => match us, hl with | [_, _], _ => rfl
  have Dis_listed : Def K mg "is_listed" sis_listed ["value"] := def_mk X G a4 l4 c4 k4 fun _ _ _ _ _ _ us hl => match us, hl with | [_], _ => rfl
  have Dparts_in_turn : Def K mg "parts_in_turn" sparts_in_turn ["points", "steps"] := def_mk X G a5 l5 c5 k5 fun _ _ _ _ _ _ us hl => match us, hl with | [_, _], _ => rfl
  have D_left_from : Def K mg "_left_from" s_left_from ["ends", "point", "seen"] := def_mk X G a6 l6 c6 k6 fun _ _ _ _ _ _ us hl => match us, hl with | [_, _, _], _ => rfl
  have Dlongest_borders : Def K mg "longest_borders" slongest_borders ["word"] := def_mk X G a7 l7 c7 k7 fun _ _ _ _ _ _ us hl => match us, hl with | [_], _ => rfl
  have Dare_ties : Def K mg "are_ties" sare_ties ["places", "value"] := def_mk X G a8 l8 c8 k8 fun _ _ _ _ _ _ us hl => match us, hl with | [_, _], _ => rfl
  have Dneed_web : Def K mg "need_web" sneed_web ["web"] := def_mk X G a9 l9 c9 k9 fun _ _ _ _ _ _ us hl => match us, hl with | [_], _ => rfl
  have Dneed_place : Def K mg "need_place" sneed_place ["web", "place"] := def_mk X G a10 l10 c10 k10 fun _ _ _ _ _ _ us hl => match us, hl with | [_, _], _ => rfl
  have Dare_numbers : Def K mg "are_numbers" sare_numbers ["web", "value"] := def_mk X G a11 l11 c11 k11 fun _ _ _ _ _ _ us hl => match us, hl with | [_, _], _ => rfl
  have D_go_on : Def K mg "_go_on" s_go_on ["web", "value", "longest"] := def_mk X G a12 l12 c12 k12 fun _ _ _ _ _ _ us hl => match us, hl with | [_, _, _], _ => rfl
  have Dis_walk : Def K mg "is_walk" sis_walk ["web", "value"] := def_mk X G a13 l13 c13 k13 fun _ _ _ _ _ _ us hl => match us, hl with | [_, _], _ => rfl
  have Dneed_walk : Def K mg "need_walk" sneed_walk ["web", "walk"] := def_mk X G a14 l14 c14 k14 fun _ _ _ _ _ _ us hl => match us, hl with | [_, _], _ => rfl
  have Dweb_steps : Def K mg "web_steps" sweb_steps ["web"] := def_mk X G a15 l15 c15 k15 fun _ _ _ _ _ _ us hl => match us, hl with | [_], _ => rfl
  have Dparts_of : Def K mg "parts_of" sparts_of ["web"] := def_mk X G a16 l16 c16 k16 fun _ _ _ _ _ _ us hl => match us, hl with | [_], _ => rfl
  have Dis_close : Def K mg "is_close" sis_close ["web"] := def_mk X G a17 l17 c17 k17 fun _ _ _ _ _ _ us hl => match us, hl with | [_], _ => rfl
  have Dneed_close : Def K mg "need_close" sneed_close ["web"] := def_mk X G a18 l18 c18 k18 fun _ _ _ _ _ _ us hl => match us, hl with | [_], _ => rfl
  have Dneed_walk_of_close : Def K mg "need_walk_of_close" sneed_walk_of_close ["web", "walk"] := def_mk X G a19 l19 c19 k19 fun _ _ _ _ _ _ us hl => match us, hl with | [_, _], _ => rfl
  have Dfalls : Def K mg "falls" sfalls ["web", "walk"] := def_mk X G a20 l20 c20 k20 fun _ _ _ _ _ _ us hl => match us, hl with | [_, _], _ => rfl
  have Dtable : Def K mg "table" stable ["web", "walk"] := def_mk X G a21 l21 c21 k21 fun _ _ _ _ _ _ us hl => match us, hl with | [_, _], _ => rfl
  have D_standings : Def K mg "_standings" s_standings ["web", "walk"] := def_mk X G a22 l22 c22 k22 fun _ _ _ _ _ _ us hl => match us, hl with | [_, _], _ => rfl
  have D_steps : Def K mg "_steps" s_steps ["web", "walk", "standings"] := def_mk X G a23 l23 c23 k23 fun _ _ _ _ _ _ us hl => match us, hl with | [_, _, _], _ => rfl
  have Dproduct : Def K mg "product" sproduct ["web", "walk"] := def_mk X G a24 l24 c24 k24 fun _ _ _ _ _ _ us hl => match us, hl with | [_, _], _ => rfl
  have D_parts_with_steps : Def K mg "_parts_with_steps" s_parts_with_steps ["web", "walk"] := def_mk X G a25 l25 c25 k25 fun _ _ _ _ _ _ us hl => match us, hl with | [_, _], _ => rfl
  have D_ties_of : Def K mg "_ties_of" s_ties_of ["steps"] := def_mk X G a26 l26 c26 k26 fun _ _ _ _ _ _ us hl => match us, hl with | [_], _ => rfl
  have Dparts_without : Def K mg "parts_without" sparts_without ["web", "walk"] := def_mk X G a27 l27 c27 k27 fun _ _ _ _ _ _ us hl => match us, hl with | [_, _], _ => rfl
  have Dis_sure_plain : Def K mg "is_sure_plain" sis_sure_plain ["web", "walk"] := def_mk X G a28 l28 c28 k28 fun _ _ _ _ _ _ us hl => match us, hl with | [_, _], _ => rfl
  have Dis_sure_in_lots : Def K mg "is_sure_in_lots" sis_sure_in_lots ["web", "walk"] := def_mk X G a29 l29 c29 k29 fun _ _ _ _ _ _ us hl => match us, hl with | [_, _], _ => rfl
  have D_law_pot : Def K mg "_law_pot" s_law_pot ["_law_script", "_law_k"] := def_mk X G a30 l30 c30 k30 fun _ _ _ _ _ _ us hl => match us, hl with | [_, _], _ => rfl
  have D_law_draw : Def K mg "_law_draw" s_law_draw ["_law_pot_here", "_law_sides"] := def_mk X G a31 l31 c31 k31 fun _ _ _ _ _ _ us hl => match us, hl with | [_, _], _ => rfl
  have D_law_pick : Def K mg "_law_pick" s_law_pick ["_law_pot_here", "_law_some"] := def_mk X G a32 l32 c32 k32 fun _ _ _ _ _ _ us hl => match us, hl with | [_, _], _ => rfl
  have D_law_ties : Def K mg "_law_ties" s_law_ties ["_law_pot_here", "_law_places", "_law_more"] := def_mk X G a33 l33 c33 k33 fun _ _ _ _ _ _ us hl => match us, hl with | [_, _, _], _ => rfl
  have D_law_walk : Def K mg "_law_walk" s_law_walk ["_law_pot_here", "_law_ties_here", "_law_many"] := def_mk X G a34 l34 c34 k34 fun _ _ _ _ _ _ us hl => match us, hl with | [_, _, _], _ => rfl
  have D_law_walks : Def K mg "_law_walks" s_law_walks ["_law_ties_here", "_law_many"] := def_mk X G a35 l35 c35 k35 fun _ _ _ _ _ _ us hl => match us, hl with | [_, _], _ => rfl
  have D_law_steps : Def K mg "_law_steps" s_law_steps ["_law_ties_here", "_law_walk_here"] := def_mk X G a36 l36 c36 k36 fun _ _ _ _ _ _ us hl => match us, hl with | [_, _], _ => rfl
  have D_law_come_to : Def K mg "_law_come_to" s_law_come_to ["_law_steps_here", "_law_near"] := def_mk X G a37 l37 c37 k37 fun _ _ _ _ _ _ us hl => match us, hl with | [_, _], _ => rfl
  have D_law_lots : Def K mg "_law_lots" s_law_lots ["_law_ties_here", "_law_walk_here"] := def_mk X G a38 l38 c38 k38 fun _ _ _ _ _ _ us hl => match us, hl with | [_, _], _ => rfl
  have D_law_right : Def K mg "_law_right" s_law_right ["_law_pot_here"] := def_mk X G a39 l39 c39 k39 fun _ _ _ _ _ _ us hl => match us, hl with | [_], _ => rfl
  have Dlaw : Def K mg "law" slaw ["_law_script"] := def_mk X G a40 l40 c40 k40 fun _ _ _ _ _ _ us hl => match us, hl with | [_], _ => rfl
  refine ⟨PySem.W.fnOf "law" "law" (defArgs slaw) (defBody slaw) (defScope slaw) .none kV40 dc40 pm40 an40 cd40 ct40, fun s v => .of_eq rfl, fun base _ _ => ?_⟩
  have H_law_draw := ok_law_draw (P := l.prog) (w := w) (base := base) D_law_draw B Glb WK
  have H_law_ties := ok_law_ties (P := l.prog) (w := w) (base := base) D_law_ties B Glb WK H_law_draw
  have H_law_pick := ok_law_pick (P := l.prog) (w := w) (base := base) D_law_pick B Glb WK H_law_draw
  have H_law_walk := ok_law_walk (P := l.prog) (w := w) (base := base) D_law_walk B Glb WK H_law_draw H_law_pick
  have H_law_walks := ok_law_walks (P := l.prog) (w := w) (base := base) D_law_walks B Glb WK
  have H_law_steps := ok_law_steps (P := l.prog) (w := w) (base := base) D_law_steps B Glb WK H_law_walks
  have H_law_come_to := ok_law_come_to (P := l.prog) (w := w) (base := base) D_law_come_to B Glb WK
  have H_law_lots := ok_law_lots (P := l.prog) (w := w) (base := base) D_law_lots B Glb WK H_law_steps H_law_come_to
  have H_ties_of := ok_ties_of (P := l.prog) (w := w) (base := base) D_ties_of B Glb WK
  have Hneed_web := okneed_web (P := l.prog) (w := w) (base := base) Dneed_web B Glb WK
  have His_listed := okis_listed (P := l.prog) (w := w) (base := base) Dis_listed B Glb WK
  have His_integer := okis_integer (P := l.prog) (w := w) (base := base) Dis_integer B Glb WK
  have His_between := okis_between (P := l.prog) (w := w) (base := base) Dis_between B Glb WK His_integer
  have His_count := okis_count (P := l.prog) (w := w) (base := base) Dis_count B Glb WK His_integer
  have His_below := okis_below (P := l.prog) (w := w) (base := base) Dis_below B Glb WK His_count
  have HWeb_many := okWeb_many (P := l.prog) (w := w) (base := base) DWeb_many B Glb WK
  have Hare_numbers := okare_numbers (P := l.prog) (w := w) (base := base) Dare_numbers B Glb WK His_listed His_below HWeb_many
  have HWeb_ties := okWeb_ties (P := l.prog) (w := w) (base := base) DWeb_ties B Glb WK
  have H_go_on := ok_go_on (P := l.prog) (w := w) (base := base) D_go_on B Glb WK His_listed His_between Hare_numbers HWeb_ties
  have His_walk := okis_walk (P := l.prog) (w := w) (base := base) Dis_walk B Glb WK Hneed_web H_go_on
  have Hneed_walk := okneed_walk (P := l.prog) (w := w) (base := base) Dneed_walk B Glb WK His_walk
  have H_left_from := ok_left_from (P := l.prog) (w := w) (base := base) D_left_from B Glb WK
  have Hparts_in_turn := okparts_in_turn (P := l.prog) (w := w) (base := base) Dparts_in_turn B Glb WK H_left_from
  have Hweb_steps := okweb_steps (P := l.prog) (w := w) (base := base) Dweb_steps B Glb WK HWeb_ties
  have HWeb_places := okWeb_places (P := l.prog) (w := w) (base := base) DWeb_places B Glb WK
  have Hparts_of := okparts_of (P := l.prog) (w := w) (base := base) Dparts_of B Glb WK Hneed_web Hparts_in_turn Hweb_steps HWeb_places
  have His_close := okis_close (P := l.prog) (w := w) (base := base) Dis_close B Glb WK Hneed_web Hparts_of HWeb_many
  have Hneed_close := okneed_close (P := l.prog) (w := w) (base := base) Dneed_close B Glb WK His_close
  have Hneed_walk_of_close := okneed_walk_of_close (P := l.prog) (w := w) (base := base) Dneed_walk_of_close B Glb WK Hneed_web Hneed_walk Hneed_close
  have H_standings := ok_standings (P := l.prog) (w := w) (base := base) D_standings B Glb WK HWeb_ties HWeb_places
  have Hlongest_borders := oklongest_borders (P := l.prog) (w := w) (base := base) Dlongest_borders B Glb WK
  have Hfalls := okfalls (P := l.prog) (w := w) (base := base) Dfalls B Glb WK Hneed_web Hneed_walk Hlongest_borders
  have Htable := oktable (P := l.prog) (w := w) (base := base) Dtable B Glb WK Hfalls HWeb_many
  have Hneed_place := okneed_place (P := l.prog) (w := w) (base := base) Dneed_place B Glb WK His_below HWeb_places
  have HWeb_ties_from := okWeb_ties_from (P := l.prog) (w := w) (base := base) DWeb_ties_from B Glb WK Hneed_place
  have H_steps := ok_steps (P := l.prog) (w := w) (base := base) D_steps B Glb WK Htable HWeb_ties HWeb_ties_from
  have Hproduct := okproduct (P := l.prog) (w := w) (base := base) Dproduct B Glb WK Hneed_walk_of_close H_standings H_steps
  have H_parts_with_steps := ok_parts_with_steps (P := l.prog) (w := w) (base := base) D_parts_with_steps B Glb WK Hproduct Hparts_in_turn
  have Hparts_without := okparts_without (P := l.prog) (w := w) (base := base) Dparts_without B Glb WK H_ties_of H_parts_with_steps
  have His_sure_plain := okis_sure_plain (P := l.prog) (w := w) (base := base) Dis_sure_plain B Glb WK Hparts_without HWeb_many
  have His_sure_in_lots := okis_sure_in_lots (P := l.prog) (w := w) (base := base) Dis_sure_in_lots B Glb WK Hparts_without HWeb_many
  have Hare_ties := okare_ties (P := l.prog) (w := w) (base := base) Dare_ties B Glb WK His_listed His_below
  have HWeb___init__ := okWeb___init__ (P := l.prog) (w := w) (base := base) DWeb___init__ B Glb WK His_between Hare_ties
  have H_law_right := ok_law_right (P := l.prog) (w := w) (base := base) D_law_right B Glb WK H_law_ties H_law_draw H_law_walk H_law_lots His_sure_plain His_sure_in_lots HWeb___init__
  have H_law_pot := ok_law_pot (P := l.prog) (w := w) (base := base) D_law_pot B Glb WK
  have Hlaw := oklaw (P := l.prog) (w := w) (base := base) Dlaw B Glb WK H_law_right H_law_pot
  obtain ⟨f, fd, O, m, k, b, F⟩ := Hlaw
  have e2 := m.symm.trans hfa
  cases e2
  rw [fd_is F l40] at O
  exact O
theorem walk {l : PySem.W.OpenLaw} {q : Program} {loose : List Str} {XP : (Str → Option Value) → Heap → Prop} {YP : World → Heap → Prop} {d : DefRec} {K : Params → PySem.W.Frag} (hn : l.most = some 63) (hdf : d.params.defaults = [])
    (hY : ∀ (w : World) (h : Heap), YP w h → (K w.params).In h)
    (F : ∀ (w : World) (mg : Str → Option Value) (fa : Addr) (h : Heap), (K w.params).In h → h.Ns mainGlobals mg → mg d.name = some (.ref fa) →
      ∃ fd : FuncData, (∀ (s : Shared) (u : Value), BindsTo s fd ⟨[u], []⟩ [("_law_script", u)]) ∧ ∀ base : Heap, (K w.params).In base → base.Ns mainGlobals mg → FnOk l.prog w (K w.params) mg base CX0 16 fa fd ["_law_script"] (splaw (K w.params) 0)) :
    PySem.W.WalkO q loose XP YP l.row.toRowW d [] (fun f vs => PySem.call f vs) :=
  L2.walk_of (n := 63) (k := 16) (x := "_law_script") (CX := fun _ => CX0) (sp := fun w => splaw (K w.params) 0) hn (by decide) hdf ⟨rfl, by decide, by decide⟩ hY F (fun _ _ a ns hl _ hS => ⟨a, ns, rfl, hS, hl, fun _ => rfl⟩) fun _ _ _ _ _ z => z
end My
open PySem PySem.W PyProof.Rows
set_option maxRecDepth 100000 in
set_option maxHeartbeats 0 in
theorem PySem.Challenge.cw_suretexts_k32_whole_sure_by_windows_holds : PySem.Challenge.rw_suretexts_k32_whole_sure_by_windows.Holds := by
  w_on; o_law; k_head; (case hw => w_witness2)
  k_fill
  refine My.walk (l := PySem.Challenge.rw_suretexts_k32_whole_sure_by_windows) rfl rfl (fun w h Y => PySem.W.kIn_of Y) ?F
  case F =>
    intro w mg fa h KX G hmg
    refine' My.all_mk KX G hmg ?aC ?aM0 ?iM0 ?lM0 ?cM0 ?kM0 ?aM1 ?gM1 ?tM1 ?rM1 ?lM1 ?cM1 ?kM1 ?aM2 ?gM2 ?tM2 ?rM2 ?lM2 ?cM2 ?kM2 ?aM3 ?iM3 ?lM3 ?cM3 ?kM3 ?aM4 ?iM4 ?lM4 ?cM4 ?kM4 ?a0 ?l0 ?c0 ?k0 ?a1 ?l1 ?c1 ?k1 ?a2 ?l2 ?c2 ?k2 ?a3 ?l3 ?c3 ?k3 ?a4 ?l4 ?c4 ?k4 ?a5 ?l5 ?c5 ?k5 ?a6 ?l6 ?c6 ?k6 ?a7 ?l7 ?c7 ?k7 ?a8 ?l8 ?c8 ?k8 ?a9 ?l9 ?c9 ?k9 ?a10 ?l10 ?c10 ?k10 ?a11 ?l11 ?c11 ?k11 ?a12 ?l12 ?c12 ?k12 ?a13 ?l13 ?c13 ?k13 ?a14 ?l14 ?c14 ?k14 ?a15 ?l15 ?c15 ?k15 ?a16 ?l16 ?c16 ?k16 ?a17 ?l17 ?c17 ?k17 ?a18 ?l18 ?c18 ?k18 ?a19 ?l19 ?c19 ?k19 ?a20 ?l20 ?c20 ?k20 ?a21 ?l21 ?c21 ?k21 ?a22 ?l22 ?c22 ?k22 ?a23 ?l23 ?c23 ?k23 ?a24 ?l24 ?c24 ?k24 ?a25 ?l25 ?c25 ?k25 ?a26 ?l26 ?c26 ?k26 ?a27 ?l27 ?c27 ?k27 ?a28 ?l28 ?c28 ?k28 ?a29 ?l29 ?c29 ?k29 ?a30 ?l30 ?c30 ?k30 ?a31 ?l31 ?c31 ?k31 ?a32 ?l32 ?c32 ?k32 ?a33 ?l33 ?c33 ?k33 ?a34 ?l34 ?c34 ?k34 ?a35 ?l35 ?c35 ?k35 ?a36 ?l36 ?c36 ?k36 ?a37 ?l37 ?c37 ?k37 ?a38 ?l38 ?c38 ?k38 ?a39 ?l39 ?c39 ?k39 ?a40 ?l40 ?c40 ?k40 ?pg ?hd ?po ?sa ?mk ?kc ?n0 ?n1 ?n2 ?n3 ?q1 ?q2 ?q3 ?q4 ?w1 ?z0 ?z1 ?z2 ?z3 ?z4 ?z5 ?z6 ?z7 ?z8 ?z9 ?z10 ?z11 ?z12 ?z13 ?z14 ?z15 ?z16 ?z17 ?y0 ?y1 ?y2
    (case aC => k_is)
    (case aM0 => k_is)
    (case iM0 => k_is)
    (case lM0 => k_is)
    (case cM0 => k_is)
    (case kM0 => k_is)
    (case aM1 => k_is)
    (case gM1 => k_is)
    (case tM1 => k_is)
    (case rM1 => k_is)
    (case lM1 => k_is)
    (case cM1 => k_is)
    (case kM1 => k_is)
    (case aM2 => k_is)
    (case gM2 => k_is)
    (case tM2 => k_is)
    (case rM2 => k_is)
    (case lM2 => k_is)
    (case cM2 => k_is)
    (case kM2 => k_is)
    (case aM3 => k_is)
    (case iM3 => k_is)
    (case lM3 => k_is)
    (case cM3 => k_is)
    (case kM3 => k_is)
    (case aM4 => k_is)
    (case iM4 => k_is)
    (case lM4 => k_is)
    (case cM4 => k_is)
    (case kM4 => k_is)
    (case a0 => k_is)
    (case l0 => k_is)
    (case c0 => k_is)
    (case k0 => k_is)
    (case a1 => k_is)
    (case l1 => k_is)
    (case c1 => k_is)
    (case k1 => k_is)
    (case a2 => k_is)
    (case l2 => k_is)
    (case c2 => k_is)
    (case k2 => k_is)
    (case a3 => k_is)
    (case l3 => k_is)
    (case c3 => k_is)
    (case k3 => k_is)
    (case a4 => k_is)
    (case l4 => k_is)
    (case c4 => k_is)
    (case k4 => k_is)
    (case a5 => k_is)
    (case l5 => k_is)
    (case c5 => k_is)
    (case k5 => k_is)
    (case a6 => k_is)
    (case l6 => k_is)
    (case c6 => k_is)
    (case k6 => k_is)
    (case a7 => k_is)
    (case l7 => k_is)
    (case c7 => k_is)
    (case k7 => k_is)
    (case a8 => k_is)
    (case l8 => k_is)
    (case c8 => k_is)
    (case k8 => k_is)
    (case a9 => k_is)
    (case l9 => k_is)
    (case c9 => k_is)
    (case k9 => k_is)
    (case a10 => k_is)
    (case l10 => k_is)
    (case c10 => k_is)
    (case k10 => k_is)
    (case a11 => k_is)
    (case l11 => k_is)
    (case c11 => k_is)
    (case k11 => k_is)
    (case a12 => k_is)
    (case l12 => k_is)
    (case c12 => k_is)
    (case k12 => k_is)
    (case a13 => k_is)
    (case l13 => k_is)
    (case c13 => k_is)
    (case k13 => k_is)
    (case a14 => k_is)
    (case l14 => k_is)
    (case c14 => k_is)
    (case k14 => k_is)
    (case a15 => k_is)
    (case l15 => k_is)
    (case c15 => k_is)
    (case k15 => k_is)
    (case a16 => k_is)
    (case l16 => k_is)
    (case c16 => k_is)
    (case k16 => k_is)
    (case a17 => k_is)
    (case l17 => k_is)
    (case c17 => k_is)
    (case k17 => k_is)
    (case a18 => k_is)
    (case l18 => k_is)
    (case c18 => k_is)
    (case k18 => k_is)
    (case a19 => k_is)
    (case l19 => k_is)
    (case c19 => k_is)
    (case k19 => k_is)
    (case a20 => k_is)
    (case l20 => k_is)
    (case c20 => k_is)
    (case k20 => k_is)
    (case a21 => k_is)
    (case l21 => k_is)
    (case c21 => k_is)
    (case k21 => k_is)
    (case a22 => k_is)
    (case l22 => k_is)
    (case c22 => k_is)
    (case k22 => k_is)
    (case a23 => k_is)
    (case l23 => k_is)
    (case c23 => k_is)
    (case k23 => k_is)
    (case a24 => k_is)
    (case l24 => k_is)
    (case c24 => k_is)
    (case k24 => k_is)
    (case a25 => k_is)
    (case l25 => k_is)
    (case c25 => k_is)
    (case k25 => k_is)
    (case a26 => k_is)
    (case l26 => k_is)
    (case c26 => k_is)
    (case k26 => k_is)
    (case a27 => k_is)
    (case l27 => k_is)
    (case c27 => k_is)
    (case k27 => k_is)
    (case a28 => k_is)
    (case l28 => k_is)
    (case c28 => k_is)
    (case k28 => k_is)
    (case a29 => k_is)
    (case l29 => k_is)
    (case c29 => k_is)
    (case k29 => k_is)
    (case a30 => k_is)
    (case l30 => k_is)
    (case c30 => k_is)
    (case k30 => k_is)
    (case a31 => k_is)
    (case l31 => k_is)
    (case c31 => k_is)
    (case k31 => k_is)
    (case a32 => k_is)
    (case l32 => k_is)
    (case c32 => k_is)
    (case k32 => k_is)
    (case a33 => k_is)
    (case l33 => k_is)
    (case c33 => k_is)
    (case k33 => k_is)
    (case a34 => k_is)
    (case l34 => k_is)
    (case c34 => k_is)
    (case k34 => k_is)
    (case a35 => k_is)
    (case l35 => k_is)
    (case c35 => k_is)
    (case k35 => k_is)
    (case a36 => k_is)
    (case l36 => k_is)
    (case c36 => k_is)
    (case k36 => k_is)
    (case a37 => k_is)
    (case l37 => k_is)
    (case c37 => k_is)
    (case k37 => k_is)
    (case a38 => k_is)
    (case l38 => k_is)
    (case c38 => k_is)
    (case k38 => k_is)
    (case a39 => k_is)
    (case l39 => k_is)
    (case c39 => k_is)
    (case k39 => k_is)
    (case a40 => k_is)
    (case l40 => k_is)
    (case c40 => k_is)
    (case k40 => k_is)
    (case pg => k_is)
    (case hd => k_is)
    (case po => k_is)
    (case sa => k_is)
    (case mk => k_is)
    (case kc => k_is)
    (case n0 => k_is)
    (case n1 => k_is)
    (case n2 => k_is)
    (case n3 => k_is)
    (case q1 => k_is)
    (case q2 => k_is)
    (case q3 => k_is)
    (case q4 => k_is)
    (case w1 => k_is)
    (case z0 => k_is)
    (case z1 => k_is)
    (case z2 => k_is)
    (case z3 => k_is)
    (case z4 => k_is)
    (case z5 => k_is)
    (case z6 => k_is)
    (case z7 => k_is)
    (case z8 => k_is)
    (case z9 => k_is)
    (case z10 => k_is)
    (case z11 => k_is)
    (case z12 => k_is)
    (case z13 => k_is)
    (case z14 => k_is)
    (case z15 => k_is)
    (case z16 => k_is)
    (case z17 => k_is)
    (case y0 => k_is)
    (case y1 => k_is)
    (case y2 => k_is)
