import PyProof.Rows.All
import Wide.All
import OpenK.AllK
import Wide.FinOn
import HandS.ForMost
import HandS.IsInst
import HandS.SortInts
import HandS.Walk
import HandS.Property
import HandS.Style
import PyProof.ListRange
import HandS.Conv
import HandS.OwnEq
import PyProof.InstNe
import KE.GoesMore
import KE.GoesEnum
import HandS.Iter
import HandS.DictTup
import KE.SortData
import KE.KDictWalk
import KE.DataMinMax
import PyProof.Rows.StrStep
import HandS.Deep
import HandS.Set
import HandS.Strs
import HandS.SetFor
import HandS.Zip
import KE.KDictCopyH
import HandS.More
import HandS.Dict
import KE.KDictDisplayH
import PyProof.DictTable
import HandS.DictComp
import PySem.Challenge.RW_suretexts_k78_whole_nothing_between
set_option Elab.async false
set_option maxRecDepth 100000
set_option linter.all false
namespace My
/-! ### reading round and round -/
def rd (l : List Nat) (p n : Nat) : List Nat := (List.range n).map fun k => l.getD ((p + k) % l.length) 0
theorem rd_len (l : List Nat) (p n : Nat) : (rd l p n).length = n := by simp [rd]
theorem rd_zero (l : List Nat) (p : Nat) : rd l p 0 = [] := rfl
theorem rd_succ (l : List Nat) (p n : Nat) : rd l p (n + 1) = rd l p n ++ [l.getD ((p + n) % l.length) 0] := by
  simp [rd, List.range_succ]
theorem rd_get (l : List Nat) (p n k : Nat) (h : k < n) : (rd l p n)[k]? = some (l.getD ((p + k) % l.length) 0) := by
  simp [rd, h]
theorem rd_drop (l : List Nat) (p n k : Nat) : (rd l p n).drop k = rd l (p + k) (n - k) := by
  apply List.ext_getElem?
  intro i
  rw [List.getElem?_drop]
  by_cases h : k + i < n
  · rw [rd_get _ _ _ _ h, rd_get _ _ _ _ (by omega), Nat.add_assoc]
  · rw [List.getElem?_eq_none (by rw [rd_len]; omega), List.getElem?_eq_none (by rw [rd_len]; omega)]
theorem rd_mod (l : List Nat) (p n : Nat) : rd l (p % l.length) n = rd l p n := by
  unfold rd
  apply List.map_congr_left
  intro k _
  rw [Nat.mod_add_mod]
theorem rd_self (l : List Nat) : rd l 0 l.length = l := by
  apply List.ext_getElem?
  intro i
  by_cases h : i < l.length
  · rw [rd_get _ _ _ _ h, Nat.zero_add, Nat.mod_eq_of_lt h, List.getElem?_eq_getElem h, List.getD_eq_getElem?_getD, List.getElem?_eq_getElem h]
    rfl
  · rw [List.getElem?_eq_none (by rw [rd_len]; omega), List.getElem?_eq_none (by omega)]
/-- turned -/
theorem rd_turn (l : List Nat) (p : Nat) (h : p < l.length) : rd l p l.length = l.drop p ++ l.take p := by
  apply List.ext_getElem?
  intro i
  by_cases hi : i < l.length
  · rw [rd_get _ _ _ _ hi]
    by_cases h2 : i < l.length - p
    · rw [List.getElem?_append_left (by rw [List.length_drop]; exact h2), List.getElem?_drop, Nat.mod_eq_of_lt (by omega), List.getElem?_eq_getElem (by omega), List.getD_eq_getElem?_getD, List.getElem?_eq_getElem (by omega)]
      rfl
    · rw [List.getElem?_append_right (by rw [List.length_drop]; omega), List.length_drop, List.getElem?_take_of_lt (by omega)]
      have e : (p + i) % l.length = i - (l.length - p) := by
        rw [Nat.mod_eq_sub_mod (by omega), Nat.mod_eq_of_lt (by omega)]
        omega
      rw [e, List.getElem?_eq_getElem (by omega), List.getD_eq_getElem?_getD, List.getElem?_eq_getElem (by omega)]
      rfl
  · rw [List.getElem?_eq_none (by rw [rd_len]; omega), List.getElem?_eq_none (by rw [List.length_append, List.length_drop, List.length_take]; omega)]
/-- reading from a turned ring -/
theorem rd_turned (l : List Nat) (b p n : Nat) (hl : 0 < l.length) : rd (rd l b l.length) p n = rd l (b + p) n := by
  unfold rd
  apply List.map_congr_left
  intro k _
  have e : ((List.range l.length).map fun k => l.getD ((b + k) % l.length) 0).length = l.length := by simp
  rw [e]
  have h2 : (p + k) % l.length < l.length := Nat.mod_lt _ hl
  rw [List.getD_eq_getElem?_getD, List.getElem?_map, List.getElem?_range h2]
  show l.getD ((b + (p + k) % l.length) % l.length) 0 = _
  rw [Nat.add_mod_mod, Nat.add_assoc]

/-! ### beginnings that are endings -/
def Pre (w t : List Nat) (k : Nat) : Prop := k ≤ w.length ∧ w.take k <:+ t
def Longest (w t : List Nat) (k : Nat) : Prop := Pre w t k ∧ ∀ k', Pre w t k' → k' ≤ k
def IsLB (p : List Nat) (b : Nat) : Prop := b < p.length ∧ p.take b <:+ p ∧ ∀ b', b' < p.length → p.take b' <:+ p → b' ≤ b
def At (w t : List Nat) (c k : Nat) : Prop := Pre w t k ∧ ∀ k', Pre w t k' → w[k']? = some c → k' ≤ k
theorem suff_one {a t : List Nat} {x c : Nat} : a ++ [x] <:+ t ++ [c] ↔ a <:+ t ∧ x = c := by
  constructor
  · rintro ⟨u, hu⟩
    rw [← List.append_assoc] at hu
    have h := List.append_inj' hu rfl
    exact ⟨⟨u, h.1⟩, by simpa using h.2⟩
  · rintro ⟨⟨u, hu⟩, rfl⟩
    exact ⟨u, by rw [← hu, List.append_assoc]⟩
theorem pre_succ {w t : List Nat} {c k : Nat} : Pre w (t ++ [c]) (k + 1) ↔ Pre w t k ∧ w[k]? = some c := by
  unfold Pre
  constructor
  · rintro ⟨h1, h2⟩
    have hk : k < w.length := by omega
    rw [List.take_succ_eq_append_getElem hk, suff_one] at h2
    exact ⟨⟨by omega, h2.1⟩, by rw [List.getElem?_eq_getElem hk, h2.2]⟩
  · rintro ⟨⟨h1, h2⟩, h3⟩
    have hk : k < w.length := by
      rw [List.getElem?_eq_some_iff] at h3
      exact h3.1
    rw [List.take_succ_eq_append_getElem hk, suff_one]
    rw [List.getElem?_eq_getElem hk] at h3
    exact ⟨by omega, h2, Option.some.inj h3⟩
theorem pre_zero (w t : List Nat) : Pre w t 0 := ⟨Nat.zero_le _, by simp⟩
theorem at_start {w t : List Nat} {c k : Nat} (h : Longest w t k) : At w t c k := ⟨h.1, fun k' h' _ => h.2 k' h'⟩
theorem at_fall {w t : List Nat} {c k b : Nat} (h : At w t c k) (hne : w[k]? ≠ some c) (hb : IsLB (w.take k) b) : At w t c b := by
  obtain ⟨h1, h2⟩ := h
  obtain ⟨b1, b2, b3⟩ := hb
  have lk : (w.take k).length = k := by rw [List.length_take]; have := h1.1; omega
  rw [lk] at b1 b3
  have tk : ∀ j, j ≤ k → (w.take k).take j = w.take j := fun j hj => by rw [List.take_take, Nat.min_eq_left hj]
  refine ⟨⟨by have := h1.1; omega, ?_⟩, fun k' p' e' => ?_⟩
  · rw [← tk b (by omega)]
    exact b2.trans h1.2
  · have l1 := h2 k' p' e'
    have l2 : k' ≠ k := by rintro rfl; exact hne e'
    have l3 : k' < k := by omega
    refine b3 k' l3 ?_
    rw [tk k' (by omega)]
    refine List.suffix_of_suffix_length_le p'.2 h1.2 ?_
    rw [List.length_take, List.length_take]
    have := h1.1
    omega
theorem at_hit {w t : List Nat} {c k : Nat} (h : At w t c k) (he : w[k]? = some c) : Longest w (t ++ [c]) (k + 1) := by
  refine ⟨pre_succ.mpr ⟨h.1, he⟩, fun k' p' => ?_⟩
  cases k' with
  | zero => omega
  | succ j =>
    have q := pre_succ.mp p'
    have := h.2 j q.1 q.2
    omega
theorem at_miss {w t : List Nat} {c : Nat} (h : At w t c 0) (he : w[0]? ≠ some c) : Longest w (t ++ [c]) 0 := by
  refine ⟨pre_zero _ _, fun k' p' => ?_⟩
  cases k' with
  | zero => omega
  | succ j =>
    have q := pre_succ.mp p'
    have l := h.2 j q.1 q.2
    have e : j = 0 := by omega
    subst e
    exact absurd q.2 he
theorem longest_nil (w : List Nat) : Longest w [] 0 := by
  refine ⟨pre_zero _ _, fun k' p' => ?_⟩
  have h := List.suffix_nil.mp p'.2
  have h2 : (w.take k').length = 0 := by rw [h]; rfl
  rw [List.length_take] at h2
  have := p'.1
  omega
theorem longest_le {w t : List Nat} {k : Nat} (h : Longest w t k) : k ≤ t.length := by
  have h1 := h.1.2.length_le
  rw [List.length_take] at h1
  have := h.1.1
  omega
/-- the longest beginning that ends the letters behind the first one is the longest border -/
theorem lb_of_longest {w : List Nat} {i k : Nat} (hi : i < w.length) (h : Longest w ((w.drop 1).take i) k) : IsLB (w.take (i + 1)) k := by
  have hk := longest_le h
  have ht : ((w.drop 1).take i).length = i := by rw [List.length_take, List.length_drop]; omega
  rw [ht] at hk
  have hl : (w.take (i + 1)).length = i + 1 := by rw [List.length_take]; omega
  have tk : ∀ j, j ≤ i + 1 → (w.take (i + 1)).take j = w.take j := fun j hj => by rw [List.take_take, Nat.min_eq_left hj]
  obtain ⟨a, r, rfl⟩ : ∃ a r, w = a :: r := by
    cases w with
    | nil => simp at hi
    | cons a r => exact ⟨a, r, rfl⟩
  have e : (a :: r).take (i + 1) = a :: ((a :: r).drop 1).take i := by simp
  refine ⟨by omega, ?_, fun b' hb' hs => ?_⟩
  · rw [tk k (by omega), e]
    exact h.1.2.trans (List.suffix_cons _ _)
  · rw [hl] at hb'
    refine h.2 b' ⟨by omega, ?_⟩
    rw [tk b' (by omega), e, List.suffix_cons_iff] at hs
    rcases hs with hs | hs
    · have hq := congrArg List.length hs
      rw [List.length_take, ← e, hl] at hq
      omega
    · exact hs
theorem lb_one {w : List Nat} (h : 0 < w.length) : IsLB (w.take 1) 0 := lb_of_longest h (by simpa using longest_nil w)
theorem lb_unique {p : List Nat} {a b : Nat} (h1 : IsLB p a) (h2 : IsLB p b) : a = b := by
  have := h1.2.2 b h2.1 h2.2.1
  have := h2.2.2 a h1.1 h1.2.1
  omega
/-- the list of the longest borders -/
def Bords (w : List Nat) (L : List Nat) : Prop := L.length = w.length ∧ ∀ j, j < w.length → ∃ b, L[j]? = some b ∧ IsLB (w.take (j + 1)) b
theorem bords_unique {w A B : List Nat} (h1 : Bords w A) (h2 : Bords w B) : A = B := by
  apply List.ext_getElem?
  intro i
  by_cases h : i < w.length
  · obtain ⟨a, ea, la⟩ := h1.2 i h
    obtain ⟨b, eb, lb⟩ := h2.2 i h
    rw [ea, eb, lb_unique la lb]
  · rw [List.getElem?_eq_none (by rw [h1.1]; omega), List.getElem?_eq_none (by rw [h2.1]; omega)]
/-- some first ones of them -/
def BordsTo (w : List Nat) (n : Nat) (L : List Nat) : Prop := L.length = n ∧ ∀ j, j < n → ∃ b, L[j]? = some b ∧ IsLB (w.take (j + 1)) b
theorem bordsTo_one {w : List Nat} (h : 0 < w.length) : BordsTo w 1 [0] := by
  refine ⟨rfl, fun j hj => ?_⟩
  have e : j = 0 := by omega
  subst e
  exact ⟨0, rfl, lb_one h⟩
theorem bordsTo_succ {w L : List Nat} {i k : Nat} (hi : i < w.length) (hB : BordsTo w i L) (h : Longest w ((w.drop 1).take i) k) : BordsTo w (i + 1) (L ++ [k]) := by
  refine ⟨by rw [List.length_append, hB.1]; rfl, fun j hj => ?_⟩
  by_cases hji : j < i
  · obtain ⟨b, e, l⟩ := hB.2 j hji
    exact ⟨b, by rw [List.getElem?_append_left (by rw [hB.1]; exact hji)]; exact e, l⟩
  · have e : j = i := by omega
    subst e
    refine ⟨k, ?_, lb_of_longest hi h⟩
    rw [List.getElem?_append_right (by rw [hB.1]; omega), hB.1, Nat.sub_self]
    rfl
theorem bordsTo_at {w L : List Nat} {n k : Nat} (hB : BordsTo w n L) (h0 : 0 < k) (hk : k ≤ n) : ∃ b, L[k - 1]? = some b ∧ IsLB (w.take k) b ∧ b < k := by
  obtain ⟨b, e, l⟩ := hB.2 (k - 1) (by omega)
  rw [show k - 1 + 1 = k by omega] at l
  refine ⟨b, e, l, ?_⟩
  have := l.1
  rw [List.length_take] at this
  omega
theorem bords_of {w L : List Nat} : BordsTo w w.length L ↔ Bords w L := Iff.rfl

/-! ### a word begins at a place -/
def due (l w : List Nat) : List Nat := (List.range l.length).filter fun p => rd l p w.length == w
theorem mem_due {l w : List Nat} {p : Nat} : p ∈ due l w ↔ p < l.length ∧ rd l p w.length = w := by
  simp [due]
/-- of the first n letters read -/
def dueTo (l w : List Nat) (n : Nat) : List Nat := (List.range n).filter fun p => rd l p w.length == w
theorem dueTo_all (l w : List Nat) : dueTo l w l.length = due l w := rfl
theorem dueTo_succ_yes {l w : List Nat} {n : Nat} (h : rd l n w.length = w) : dueTo l w (n + 1) = dueTo l w n ++ [n] := by
  simp [dueTo, List.range_succ, List.filter_append, h]
theorem dueTo_succ_no {l w : List Nat} {n : Nat} (h : ¬ rd l n w.length = w) : dueTo l w (n + 1) = dueTo l w n := by
  simp [dueTo, List.range_succ, List.filter_append, h]
/-- the whole word was just read -/
theorem longest_full {l w : List Nat} {n k : Nat} (h : Longest w (rd l 0 n) k) : k = w.length ↔ w.length ≤ n ∧ rd l (n - w.length) w.length = w := by
  have key : w <:+ rd l 0 n ↔ w.length ≤ n ∧ rd l (n - w.length) w.length = w := by
    constructor
    · intro hs
      have hl := hs.length_le
      rw [rd_len] at hl
      refine ⟨hl, ?_⟩
      have e := List.suffix_iff_eq_drop.mp hs
      rw [rd_len, rd_drop, Nat.zero_add, show n - (n - w.length) = w.length by omega] at e
      exact e.symm
    · rintro ⟨hl, e⟩
      rw [List.suffix_iff_eq_drop, rd_len, rd_drop, Nat.zero_add, show n - (n - w.length) = w.length by omega]
      exact e.symm
  rw [← key]
  constructor
  · rintro rfl
    have := h.1.2
    rw [List.take_length] at this
    exact this
  · intro hs
    have h1 := h.1.1
    have h2 := h.2 w.length ⟨Nat.le_refl _, by rw [List.take_length]; exact hs⟩
    omega

/-! ### the period -/
theorem getD_lt {l : List Nat} {i : Nat} (h : i < l.length) : l[i]? = some (l.getD i 0) := by
  rw [List.getD_eq_getElem?_getD, List.getElem?_eq_getElem h]
  rfl
theorem line_period {l : List Nat} {b : Nat} (h : IsLB l b) (i : Nat) (hi : i + (l.length - b) < l.length) : l.getD (i + (l.length - b)) 0 = l.getD i 0 := by
  have hb := h.1
  have e := List.suffix_iff_eq_drop.mp h.2.1
  have hl : (l.take b).length = b := by rw [List.length_take]; omega
  rw [hl] at e
  have e2 := congrArg (fun z : List Nat => z[i]?) e
  simp only [List.getElem?_take, List.getElem?_drop] at e2
  rw [if_pos (by omega)] at e2
  rw [List.getD_eq_getElem?_getD, List.getD_eq_getElem?_getD, e2, Nat.add_comm]
theorem line_mult {l : List Nat} {s : Nat} (h : ∀ i, i + s < l.length → l.getD (i + s) 0 = l.getD i 0) : ∀ (m i : Nat), i + m * s < l.length → l.getD (i + m * s) 0 = l.getD i 0
  | 0, i, _ => by simp
  | m + 1, i, hi => by
    have e : i + (m + 1) * s = (i + m * s) + s := by rw [Nat.succ_mul]; omega
    rw [e] at hi ⊢
    rw [h _ hi]
    exact line_mult h m i (by omega)
theorem round_period {l : List Nat} {s : Nat} (_hs : 0 < s) (hsl : s ≤ l.length) (hd : l.length % s = 0) (h : ∀ i, i + s < l.length → l.getD (i + s) 0 = l.getD i 0) (i : Nat) (hi : i < l.length) : l.getD ((i + s) % l.length) 0 = l.getD i 0 := by
  by_cases hlt : i + s < l.length
  · rw [Nat.mod_eq_of_lt hlt]
    exact h i hlt
  · have e1 : (i + s) % l.length = i + s - l.length := by
      rw [Nat.mod_eq_sub_mod (by omega), Nat.mod_eq_of_lt (by omega)]
    rw [e1]
    obtain ⟨q, hq⟩ : ∃ q, l.length = s * q := ⟨l.length / s, by rw [Nat.mul_div_cancel' (Nat.dvd_of_mod_eq_zero hd)]⟩
    have hq0 : 0 < q := by
      rcases Nat.eq_zero_or_pos q with z | z
      · subst z; omega
      · exact z
    obtain ⟨r, rfl⟩ : ∃ r, q = r + 1 := ⟨q - 1, by omega⟩
    have e2 : l.length = r * s + s := by rw [hq, Nat.mul_succ, Nat.mul_comm]
    have e3 : i = (i + s - l.length) + r * s := by omega
    have := line_mult h r (i + s - l.length) (by omega)
    rw [← e3] at this
    exact this.symm
/-- the told period -/
def per (l : List Nat) (b : Nat) : Nat := if l.length % (l.length - b) = 0 then l.length - b else l.length
theorem per_turns {l : List Nat} {b : Nat} (h : IsLB l b) (i : Nat) (hi : i < l.length) : l.getD ((i + per l b) % l.length) 0 = l.getD i 0 := by
  have hb := h.1
  unfold per
  split
  · exact round_period (by omega) (by omega) (by assumption) (fun j hj => line_period h j hj) i hi
  · rw [Nat.add_mod_right, Nat.mod_eq_of_lt hi]
theorem rd_per {l : List Nat} {b : Nat} (h : IsLB l b) (p n : Nat) : rd l (p + per l b) n = rd l p n := by
  have hb := h.1
  unfold rd
  apply List.map_congr_left
  intro k _
  rw [show p + per l b + k = (p + k) + per l b by omega, ← Nat.mod_add_mod]
  rw [per_turns h ((p + k) % l.length) (Nat.mod_lt _ (by omega))]
theorem per_pos {l : List Nat} {b : Nat} (h : IsLB l b) : 0 < per l b ∧ per l b ≤ l.length := by
  have hb := h.1
  unfold per
  split <;> omega

/-! ### rising lists of the same numbers are one list -/
theorem rising_ext : ∀ {a b : List Int}, a.Pairwise (· < ·) → b.Pairwise (· < ·) → (∀ x, x ∈ a ↔ x ∈ b) → a = b
  | [], [], _, _, _ => rfl
  | [], y :: ys, _, _, h => by have := (h y).mpr (by simp); simp at this
  | x :: xs, [], _, _, h => by have := (h x).mp (by simp); simp at this
  | x :: xs, y :: ys, ha, hb, h => by
    rw [List.pairwise_cons] at ha hb
    have e : x = y := by
      have h1 := (h x).mp (by simp)
      have h2 := (h y).mpr (by simp)
      rw [List.mem_cons] at h1 h2
      rcases h1 with h1 | h1
      · exact h1
      · rcases h2 with h2 | h2
        · exact h2.symm
        · have := ha.1 y h2
          have := hb.1 x h1
          omega
    subst e
    congr 1
    refine rising_ext ha.2 hb.2 fun z => ?_
    constructor
    · intro hz
      have := (h z).mp (List.mem_cons_of_mem _ hz)
      rw [List.mem_cons] at this
      rcases this with rfl | this
      · have := ha.1 _ hz; omega
      · exact this
    · intro hz
      have := (h z).mpr (List.mem_cons_of_mem _ hz)
      rw [List.mem_cons] at this
      rcases this with rfl | this
      · have := hb.1 _ hz; omega
      · exact this
theorem rising_of {s : List Int} (h : s.Pairwise (· ≤ ·)) (n : s.Nodup) : s.Pairwise (· < ·) := by
  have := h.and n
  exact this.imp fun ⟨h1, h2⟩ => by omega
/-- sorted, and the same numbers, none twice: that is it -/
theorem sorted_is {s m d : List Int} (hp : List.Perm s m) (hs : s.Pairwise (· ≤ ·)) (hn : m.Nodup) (hd : d.Pairwise (· < ·)) (h : ∀ x, x ∈ m ↔ x ∈ d) : s = d := by
  refine rising_ext (rising_of hs (hp.nodup_iff.mpr hn)) hd fun x => ?_
  rw [hp.mem_iff]
  exact h x
theorem due_rising (l w : List Nat) : ((due l w).map fun n : Nat => (n : Int)).Pairwise (· < ·) := by
  rw [List.pairwise_map]
  refine List.Pairwise.imp (fun {a b} (h : a < b) => by omega) ?_
  exact List.Pairwise.filter _ List.pairwise_lt_range
end My
namespace My
open PySem L2 PyProof.Rows
/-- a text by its letters -/
abbrev T (l : List Nat) : V := .str ⟨l.toArray⟩
section
variable {X : Cx}
theorem mul_flat (l : List Nat) (n : Nat) : ((List.replicate n l.toArray).foldl (· ++ ·) (#[] : Array Nat)) = (List.replicate n l).flatten.toArray := by
  have h : ∀ (m : Nat) (acc : List Nat), (List.replicate m l.toArray).foldl (· ++ ·) acc.toArray = (acc ++ (List.replicate m l).flatten).toArray := by
    intro m
    induction m with
    | zero => intro acc; simp
    | succ m ih =>
      intro acc
      rw [List.replicate_succ, List.foldl_cons]
      have e : acc.toArray ++ l.toArray = (acc ++ l).toArray := by simp
      rw [e, ih, List.replicate_succ, List.flatten_cons, List.append_assoc]
  have := h n []
  simpa using this
theorem op_mul_str : OpR X (binaryOp .Mult) (fun x y H Q => ∃ l n, x = T l ∧ y = .int (n : Nat) ∧ 1 ≤ n ∧ n ≤ 1000 ∧ l.length ≤ 1000 ∧ Q (T (List.replicate n l).flatten) H) := by
  intro pins s σ H x y v u Q I rx ry h
  obtain ⟨l, n, rfl, rfl, h1, h2, h3, q⟩ := h
  obtain ⟨t, rfl⟩ := rx
  obtain ⟨t', rfl⟩ := ry
  have hlen : (⟨l.toArray⟩ : Str).length = l.length := by simp [Str.length]
  have ok : MulOk ⟨l.toArray⟩ (n : Int) := by
    refine ⟨?_, fun _ _ => ?_, fun _ _ => ?_⟩
    · have a1 : decide ((n : Int) < -(2 ^ 63 : Int)) = false := decide_eq_false (by omega)
      have a2 : decide ((n : Int) ≥ 2 ^ 63) = false := decide_eq_false (by omega)
      rw [a1, a2]
      rfl
    · rw [hlen]
      have : (1000000 : Int) ≤ (2 ^ 63 - 1) / (n : Int) := by
        rw [Int.le_ediv_iff_mul_le (by omega)]
        omega
      omega
    · rw [hlen]
      have e : (n : Int).toNat = n := by omega
      rw [e]
      have : l.length * n ≤ 1000 * 1000 := Nat.mul_le_mul h3 h2
      have z : (1000000 : Nat) ≤ sizeLine := by decide
      simp [Builtin.Str.tooLong]
      omega
  refine SB.mul ok fun t'' k => ?_
  have em : Txt.mul ⟨l.toArray⟩ (n : Int) = ⟨(List.replicate n l).flatten.toArray⟩ := by
    unfold Txt.mul
    rw [if_neg (by omega)]
    split
    · rename_i c
      rw [hlen] at c
      simp at c
      rcases c with c | c
      · have : n = 1 := by omega
        subst this
        simp
      · subst c
        simp
    · have e : (n : Int).toNat = n := by omega
      rw [e]
      exact congrArg Str.mk (mul_flat l n)
  rw [em]
  exact ⟨.str _, H, I.tok _, ⟨_, rfl⟩, q⟩
theorem call_repr_bl : CallR X (.builtin "repr") (fun xs H Q => ∃ b, xs = [.bl b] ∧ Q (.str (if b then "True" else "False")) H) := by
  intro pins s σ H xs us Q I r h
  obtain ⟨b, rfl, q⟩ := h
  obtain ⟨u, rfl, e⟩ := vals1 r
  cases e
  exact PySem.P.repr_of_bool ⟨.str _, H, I.tok _, ⟨_, rfl⟩, q⟩
/-- a module's constant that is an int -/
theorem pe_globI {x : Str} {n : Int} {pos : Pos} (h : ∃ t, X.mg x = some (.int n t)) (hg : Gl X x := by rfl) (hd : (x == ("__debug__" : Str)) = false := by decide) : PE X (.Name x pos) (tC (.int n)) := by
  obtain ⟨t, e⟩ := h
  exact pe_glob (v := .int n) hg e ⟨t, rfl⟩ hd
variable {CX : CXT} {k : Nat} {f : Addr} {fd : FuncData} {ps ks : List Str} {sp : Sp} {E : XK} {x : Str} {p pos : Pos} {kws : List Keyword} {tk : TA} {g : List Value → List Value → List Value} {gV : List V → List V → List V}
/-- f(a=.., b=..) -/
theorem pe_callKK (F : FnOk X.prog X.w X.K X.mg X.base CX k f fd ps sp) (hr : Room k X.A) (hg : Gl X x) (hm : X.mg x = some (.ref f)) (hk : PySem.W.keepIn X.K (.ref f) = true) (hb : KBinds X.K fd ps ks g gV) (hx : Passes CX X E)
    (hkw : PK X kws tk) (hall : (backToKw pos (keywordEach kws X.env)).all (·.1.isSome) = true := by rfl) (hks : (backToKw pos (keywordEach kws X.env)).filterMap (·.1) = ks := by rfl)
    (hdb : (x == ("__debug__" : Str)) = false := by decide)
    (hpl : ((backTo pos (starEach [] X.env)).any (·.1) || (backToKw pos (keywordEach kws X.env)).any (·.1.isNone)) = false := by rfl) :
    PE X (.Call (.Name x p) [] kws pos) (tCallK sp gV E tNil tk) := by
  refine ⟨fun pins s σ H Q I h => ?_⟩
  refine wpAny_Call_Name_kw (ld_glob I hg hm ?_ hdb)
  refine PySem.W.callWith_KW0 (h₀ := X.base) I.ok.mod.kin hk hall (thn (hkw.run pos pins s σ H _ I h) fun ws s2 ⟨zs, H2, I2, rz, q2⟩ => ⟨I2.kIn, ?_⟩) hpl
  rw [hks]
  exact run_fnk F hr hb hx I2 .nil rz q2
end
/-! ### a def that stands, and one that keeps a promise -/
def Def (K : PySem.W.Frag) (mg : Str → Option Value) (x : Str) (st : Stmt) (ps : List Str) : Prop := ∃ (f : Addr) (fd : FuncData), Fun K x x st f fd ∧ mg x = some (.ref f) ∧ Binds K fd ps []
section
variable {P : Program} {w : World} {K : PySem.W.Frag} {mg : Str → Option Value} {base : Heap}
def Good (P : Program) (w : World) (K : PySem.W.Frag) (mg : Str → Option Value) (base : Heap) (x : Str) (st : Stmt) (ps : List Str) (k : Nat) (sp : Sp) : Prop := ∃ (f : Addr) (fd : FuncData), FnOk P w K mg base CX0 k f fd ps sp ∧ mg x = some (.ref f) ∧ PySem.W.keepIn K (.ref f) = true ∧ Binds K fd ps [] ∧ Fun K x x st f fd
theorem Def.good {x : Str} {st : Stmt} {ps : List Str} {k : Nat} {sp : Sp} (D : Def K mg x st ps) (h : ∀ f fd, Fun K x x st f fd → FnOk P w K mg base CX0 k f fd ps sp) : Good P w K mg base x st ps k sp := by
  obtain ⟨f, fd, F, m, b⟩ := D
  exact ⟨f, fd, h f fd F, m, F.kp, b, F⟩
theorem def_mk {h : Heap} (X : K.In h) (G : h.Ns mainGlobals mg) {x : Str} {st : Stmt} {ps : List Str} {f : Addr} {oc : Value} {od an : Option Addr} {osl : Array (Option Value)} {kV doc pm cdv ct : Value} (a : PySem.W.nsIn K mainGlobals x = some (some (.ref f)))
    (l : K.lookup f = some ⟨oc, od, .func (PySem.W.fnOf x x (defArgs st) (defBody st) (defScope st) .none kV doc pm an cdv ct), osl⟩) (c : PySem.W.codeIn K cdv x = true) (k : PySem.W.keepIn K (.ref f) = true)
    (hb : ∀ (kV doc pm : Value) (an : Option Addr) (cdv ct : Value) (us : List Value), us.length = ps.length → bindArgs (PySem.W.fnOf x x (defArgs st) (defBody st) (defScope st) .none kV doc pm an cdv ct) ⟨us, []⟩ = pure (ps.zip us)) : Def K mg x st ps :=
  ⟨f, _, fun_mk l c k, PySem.W.mg_of X G a, (fun_mk l c k).binds hb⟩
theorem fun_kbinds {x qual : Str} {st : Stmt} {f : Addr} {fd : FuncData} {ps ks : List Str} (F : Fun K x qual st f fd) (g : List Value → List Value → List Value) (gV : List V → List V → List V)
    (hrel : ∀ {vs : List V} {us : List Value} {zs : List V} {ws : List Value}, Vals vs us → Vals zs ws → Vals (gV vs zs) (g us ws))
    (h : ∀ (kV doc pm : Value) (an : Option Addr) (cdv ct : Value) (us ws : List Value), (g us ws).length = ps.length → bindArgs (PySem.W.fnOf x qual (defArgs st) (defBody st) (defScope st) .none kV doc pm an cdv ct) ⟨us, ks.zip ws⟩ = pure (ps.zip (g us ws))) : KBinds K fd ps ks g gV := by
  obtain ⟨oc, od, kV, doc, pm, an, cdv, ct, osl, rfl, lk, hcd⟩ := F.ex
  exact ⟨fun s us ws X hl => .of_eq (h kV doc pm an cdv ct us ws hl), hrel⟩
/-- two keywords, in the parameters' order, or turned; one -/
def g12 {α : Type} : List α → List α → List α | [], [a, b] => [a, b] | _, _ => []
def g21 {α : Type} : List α → List α → List α | [], [a, b] => [b, a] | _, _ => []
def g1 {α : Type} : List α → List α → List α | [], [a] => [a] | _, _ => []
theorem g12_inv {α : Type} {us ws : List α} (h : (g12 us ws).length = 2) : us = [] ∧ ∃ a b, ws = [a, b] := by
  match us, ws, h with
  | [], [a, b], _ => exact ⟨rfl, a, b, rfl⟩
  | [], [], h => exact absurd h (by simp [g12, g21, g1])
  | [], [_], h => exact absurd h (by simp [g12])
  | [], _ :: _ :: _ :: _, h => exact absurd h (by simp [g12])
  | _ :: _, _, h => exact absurd h (by simp [g12])
theorem g21_inv {α : Type} {us ws : List α} (h : (g21 us ws).length = 2) : us = [] ∧ ∃ a b, ws = [a, b] := by
  match us, ws, h with
  | [], [a, b], _ => exact ⟨rfl, a, b, rfl⟩
  | [], [], h => exact absurd h (by simp [g12, g21, g1])
  | [], [_], h => exact absurd h (by simp [g21])
  | [], _ :: _ :: _ :: _, h => exact absurd h (by simp [g21])
  | _ :: _, _, h => exact absurd h (by simp [g21])
theorem g1_inv {α : Type} {us ws : List α} (h : (g1 us ws).length = 1) : us = [] ∧ ∃ a, ws = [a] := by
  match us, ws, h with
  | [], [a], _ => exact ⟨rfl, a, rfl⟩
  | [], [], h => exact absurd h (by simp [g12, g21, g1])
  | [], _ :: _ :: _, h => exact absurd h (by simp [g1])
  | _ :: _, _, h => exact absurd h (by simp [g1])
theorem rel12 {vs : List V} {us : List Value} {zs : List V} {ws : List Value} (a : Vals vs us) (b : Vals zs ws) : Vals (g12 vs zs) (g12 us ws) := by
  cases a with
  | nil =>
    cases b with
    | nil => exact .nil
    | cons r b =>
      cases b with
      | nil => exact .nil
      | cons r2 b =>
        cases b with
        | nil => exact .cons r (.cons r2 .nil)
        | cons r3 b => exact .nil
  | cons r a => exact .nil
theorem rel21 {vs : List V} {us : List Value} {zs : List V} {ws : List Value} (a : Vals vs us) (b : Vals zs ws) : Vals (g21 vs zs) (g21 us ws) := by
  cases a with
  | nil =>
    cases b with
    | nil => exact .nil
    | cons r b =>
      cases b with
      | nil => exact .nil
      | cons r2 b =>
        cases b with
        | nil => exact .cons r2 (.cons r .nil)
        | cons r3 b => exact .nil
  | cons r a => exact .nil
theorem rel1 {vs : List V} {us : List Value} {zs : List V} {ws : List Value} (a : Vals vs us) (b : Vals zs ws) : Vals (g1 vs zs) (g1 us ws) := by
  cases a with
  | nil =>
    cases b with
    | nil => exact .nil
    | cons r b =>
      cases b with
      | nil => exact .cons r .nil
      | cons r3 b => exact .nil
  | cons r a => exact .nil
end
end My
namespace My
open PySem L2 PyProof.Rows
/-! ### methods, properties, __init__ of a class at C -/
section
variable {P : Program} {w : World} {K : PySem.W.Frag} {mg : Str → Option Value} {base : Heap} {C : Addr}
def DefM (K : PySem.W.Frag) (C : Addr) (x qual : Str) (st : Stmt) (ps : List Str) : Prop := ∃ (f : Addr) (fd : FuncData), Fun K x qual st f fd ∧ Meth K C x f ∧ Binds K fd ps []
def DefP (K : PySem.W.Frag) (C : Addr) (x qual : Str) (st : Stmt) (ps : List Str) : Prop := ∃ (p f : Addr) (fd : FuncData), Fun K x qual st f fd ∧ PropOf K C x p f ∧ Binds K fd ps []
def DefI (K : PySem.W.Frag) (C : Addr) (x qual : Str) (st : Stmt) (ps : List Str) : Prop := ∃ (f : Addr) (fd : FuncData), Fun K x qual st f fd ∧ Mk K C f ∧ Binds K fd ps []
def GoodM (P : Program) (w : World) (K : PySem.W.Frag) (mg : Str → Option Value) (base : Heap) (C : Addr) (x qual : Str) (st : Stmt) (ps : List Str) (k : Nat) (sp : Sp) : Prop := ∃ (f : Addr) (fd : FuncData), FnOk P w K mg base CX0 k f fd ps sp ∧ Meth K C x f ∧ Binds K fd ps [] ∧ Fun K x qual st f fd
def GoodP (P : Program) (w : World) (K : PySem.W.Frag) (mg : Str → Option Value) (base : Heap) (C : Addr) (x _qual : Str) (_st : Stmt) (ps : List Str) (k : Nat) (sp : Sp) : Prop := ∃ (p f : Addr) (fd : FuncData), FnOk P w K mg base CX0 k f fd ps sp ∧ PropOf K C x p f ∧ Binds K fd ps []
def GoodI (P : Program) (w : World) (K : PySem.W.Frag) (mg : Str → Option Value) (base : Heap) (C : Addr) (x _qual : Str) (_st : Stmt) (ps : List Str) (k : Nat) (sp : Sp) : Prop := ∃ (f : Addr) (fd : FuncData), FnOk P w K mg base CX0 k f fd ps sp ∧ Mk K C f ∧ Binds K fd ps []
theorem DefM.good {x qual : Str} {st : Stmt} {ps : List Str} {k : Nat} {sp : Sp} (D : DefM K C x qual st ps) (h : ∀ f fd, Fun K x qual st f fd → FnOk P w K mg base CX0 k f fd ps sp) : GoodM P w K mg base C x qual st ps k sp := by
  obtain ⟨f, fd, F, m, b⟩ := D
  exact ⟨f, fd, h f fd F, m, b, F⟩
theorem DefP.good {x qual : Str} {st : Stmt} {ps : List Str} {k : Nat} {sp : Sp} (D : DefP K C x qual st ps) (h : ∀ f fd, Fun K x qual st f fd → FnOk P w K mg base CX0 k f fd ps sp) : GoodP P w K mg base C x qual st ps k sp := by
  obtain ⟨p, f, fd, F, m, b⟩ := D
  exact ⟨p, f, fd, h f fd F, m, b⟩
theorem DefI.good {x qual : Str} {st : Stmt} {ps : List Str} {k : Nat} {sp : Sp} (D : DefI K C x qual st ps) (h : ∀ f fd, Fun K x qual st f fd → FnOk P w K mg base CX0 k f fd ps sp) : GoodI P w K mg base C x qual st ps k sp := by
  obtain ⟨f, fd, F, m, b⟩ := D
  exact ⟨f, fd, h f fd F, m, b⟩
end
def g123 {α : Type} : List α → List α → List α | [], [a, b, c] => [a, b, c] | _, _ => []
theorem g123_inv {α : Type} {us ws : List α} (h : (g123 us ws).length = 3) : us = [] ∧ ∃ a b c, ws = [a, b, c] := by
  unfold g123 at h
  split at h
  · exact ⟨rfl, _, _, _, rfl⟩
  · simp at h
theorem rel123 {vs : List V} {us : List Value} {zs : List V} {ws : List Value} (a : Vals vs us) (b : Vals zs ws) : Vals (g123 vs zs) (g123 us ws) := by
  cases a with
  | cons h t => exact .nil
  | nil => cases b with
    | nil => exact .nil
    | cons h1 t => cases t with
      | nil => exact .nil
      | cons h2 t => cases t with
        | nil => exact .nil
        | cons h3 t => cases t with
          | nil => exact .cons h1 (.cons h2 (.cons h3 .nil))
          | cons h4 t => exact .nil
/-- self, then one keyword -/
def gm1 {α : Type} : List α → List α → List α | [a], [b] => [a, b] | _, _ => []
theorem gm1_inv {α : Type} {us ws : List α} (h : (gm1 us ws).length = 2) : ∃ a b, us = [a] ∧ ws = [b] := by
  unfold gm1 at h
  split at h
  · exact ⟨_, _, rfl, rfl⟩
  · simp at h
theorem relm1 {vs : List V} {us : List Value} {zs : List V} {ws : List Value} (a : Vals vs us) (b : Vals zs ws) : Vals (gm1 vs zs) (gm1 us ws) := by
  cases a with
  | nil => exact .nil
  | cons h t => cases t with
    | cons h2 t => exact .nil
    | nil => cases b with
      | nil => exact .nil
      | cons h1 t => cases t with
        | nil => exact .cons h (.cons h1 .nil)
        | cons h2 t => exact .nil
/-! ### a list or a tuple, gone through -/
section
variable {X : Cx}
theorem pi_or {tg e : Expr} {w1 w2 : TI} (h1 : PI X tg e w1) (h2 : PI X tg e w2) : PI X tg e (fun σ H R => w1 σ H R ∨ w2 σ H R) := by
  constructor
  intro pins s σ H R I h
  rcases h with h | h
  · exact h1.run pins s σ H R I h
  · exact h2.run pins s σ H R I h
end
end My
/-! list(range(n)) -/
namespace My
open PySem PySem.Spec PyProof.Rows L2
section
variable {X : Cx}
theorem cr_range1 : CallR X (.type "range") (fun vs H Q => ∃ j, vs = [V.int j] ∧ ∀ p, H p = none → Q (.ref p) (upd H p (.rng 0 j))) := by
  intro pins s σ H vs us Q I r h
  obtain ⟨j, rfl, q⟩ := h
  obtain ⟨u1, rfl, ri⟩ := vals1 r
  obtain ⟨t, rfl⟩ := ri
  refine call_range_1 ⟨.ref s.heap.objs.size, upd H s.heap.objs.size (.rng 0 j), I.laid (t' := s.toks + 1 + 1) (fun b o e => Heap.get?_push_of_some _ e) (Nat.le_refl _) ?_, rfl, q _ (I.hok.fresh (Nat.le_refl _))⟩
  exact ⟨s.toks, t, s.toks + 1, Heap.get?_push_size _ rfl⟩
theorem call_listRng (hc : X.calm = true) : CallR X (.type "list") (fun xs H Q => ∃ (p : Addr) (n : Nat), xs = [.ref p] ∧ H p = some (.rng 0 (n : Int)) ∧ n ≤ 1000 ∧ ∀ q, H q = none → Q (.ref q) (upd H q (.lst ((List.range n).map fun i : Nat => V.int (i : Int))))) := by
  intro pins s σ H xs us Q I r h
  obtain ⟨p, n, e, hk, hn, q⟩ := h
  subst e
  obtain ⟨u, eu, rx⟩ := vals1 r
  subst eu
  obtain rfl : u = Value.ref p := rx
  obtain ⟨t1, t2, t3, ho⟩ := (show ObjOk X.prog X.w H s.heap p (.rng 0 (n : Int)) from I.hok p _ hk)
  refine call_list_range (n := n) (I.ok.hd hc) ho (small_one (by omega) (by omega) (by omega) (by omega)) (by rw [rangeSize_one]; split <;> omega) (by omega) fun h' tk items cap hkeep hS hacc => ?_
  refine ⟨.ref s.heap.objs.size, upd H s.heap.objs.size (.lst ((List.range n).map fun i : Nat => V.int (i : Int))), I.laid hkeep (Nat.le_refl _) (show ObjOk X.prog X.w _ _ _ (.lst ((List.range n).map fun i : Nat => V.int (i : Int))) from ⟨?_, items.toList, cap, ?_, ?_⟩), rfl, q _ (I.hok.fresh (Nat.le_refl _))⟩
  · rw [List.length_map, List.length_range]; exact Nat.le_trans hn (by decide)
  · have el : items.toList.length = n := by rw [Array.length_toList]; exact hacc.1
    refine vals_of_at (by rw [List.length_map, List.length_range, el]) fun j x z h1 h2 => ?_
    obtain ⟨t, e⟩ := hacc.2 j z (by rw [← Array.getElem?_toList]; exact h2)
    have hj : j < n := by rw [← el]; exact (List.getElem?_eq_some_iff.mp h2).1
    rw [List.getElem?_map, List.getElem?_range hj] at h1
    cases h1
    exact ⟨t, by rw [e]; simp⟩
  · rw [Array.toArray_toList]; exact hS
end
end My
namespace My
open PySem L2 PyProof.Rows
/-! ### == by an own __eq__, whatever it answers -/
section
variable {X : Cx}
theorem op_eqOwn {CX : CXT} {k : Nat} {C f : Addr} {fd : FuncData} {ps : List Str} {sp : Sp} {E : XK} (F : FnOk X.prog X.w X.K X.mg X.base CX k f fd ps sp) (hr : Room k X.A)
    (hs : PySem.W.findIn X.K (.ref C) "__eq__" = some (some (.ref f))) (hf : PySem.W.isFn X.K (.ref f) = true) (hb : Binds X.K fd ps []) (hx : Passes CX X E) :
    OpR X (compareOp .Eq) (fun x y H Q => ∃ a b dx dy fs gs, x = .ref a ∧ y = .ref b ∧ H a = some (.ins C dx fs) ∧ H b = some (.ins C dy gs) ∧ sp [x, y] H (fun v H' => ∃ c, v = .bl c ∧ Q (.bl c) H') E) := by
  intro pins s σ H x y v u Q I rx ry h
  obtain ⟨a, b, dx, dy, fs, gs, rfl, rfl, ha, hb', hsp⟩ := h
  cases rx
  cases ry
  show wpAny (model X.prog X.w) X.A (richCompare .Eq (.ref a) (.ref b)) (EP X pins σ Q) X.xe s
  obtain ⟨_, J, _⟩ := ins_get I.hok ha
  obtain ⟨_, J', _⟩ := ins_get I.hok hb'
  obtain ⟨_, J, _⟩ := J.look
  obtain ⟨_, J', _⟩ := J'.look
  obtain ⟨m, hF⟩ := I.fr
  refine PySem.W.cmp_K (op := .Eq) (tb := .ref C) hr.units0 hF I.ok.mod.kin J J'.type (by simp [PySem.W.notFirst]) hs hf ?_
  have vals : Vals [V.ref a, V.ref b] [Value.ref a, Value.ref b] := .cons rfl (.cons rfl .nil)
  have e0 : Env0 X.prog X.w X.K X.mg X.base X.A X.stack s H := I.env0
  have hl := F.len _ _ _ _ hsp
  refine wpAny_call (codeAny_mono (F.run X.A X.stack s H ⟨[.ref a, .ref b], []⟩ [.ref a, .ref b] [.ref a, .ref b] _ E hr e0 (by
    have bd := hb s [.ref a, .ref b] I.kIn (by simpa using hl)
    simpa using bd) vals hsp) fun r s' hq => ?_)
  cases r with
  | error e => exact hx pins σ H s e s' I hq
  | ok fl =>
    cases fl with
    | ret w =>
      obtain ⟨z, H', I', rz, c, ez, qz⟩ := I.after hq
      subst ez
      cases rz
      exact ⟨.bl c, H', I', rfl, qz⟩
    | next => exact False.elim hq
    | brk => exact False.elim hq
    | cont => exact False.elim hq
end
end My
namespace My
open PySem L2 PyProof.Rows PySem.W
/-! ### != of instances with an own __eq__ and the object's __ne__ -/
section
variable {prog : Program} {w : World} {A : Around} {E : Value → Shared → Prop} {s : Shared} {K : PySem.W.Frag} {x y C L f : Addr} {h₀ : Heap} {m : Str → Option Value} {ox : Obj} {od : Option Obj}
theorem check_ne {Q : Unit → Shared → Prop} (X : K.In s.heap) (I : PySem.W.InstAt s.heap x ox C od) (hm : PySem.W.mroIn K C (.type "object") = some true) (hq : Q () s) :
    wpAny (model prog w) A (checkBuiltinCall "object.__ne__" ⟨[.ref x, .ref y], []⟩) Q E s := by
  have L1 := PySem.W.looks_mroIn (M := model prog w) X hm
  simp only [checkBuiltinCall, F.cmpKind_ne, F.cmpSplit_ne]
  refine wpAny_bind ?_
  unfold isInstance
  refine wpAny_bind (I.type.here (L1.here ?_))
  simp only [Bool.not_true, Bool.false_eq_true, if_false]
  exact wpAny_pure hq
theorem entry_ne {Q : Fin → Shared → Prop} (hu : A.units < cLine) (X : K.In s.heap) (I : PySem.W.InstAt s.heap x ox C od) (hs : PySem.W.findIn K (.ref C) "__eq__" = some (some (.ref f))) (hf : PySem.W.isFn K (.ref f) = true)
    (hcall : wpAny (model prog w) A (call (.ref f) [.ref x, .ref y]) (fun v s' => ∃ b, v = .bool b ∧ Q (.done (.ret (.bool (!b)))) s') E s) :
    wpAny (model prog w) A (Builtin.«object.__ne__» ⟨[.ref x, .ref y], []⟩) Q E s := by
  unfold Builtin.«object.__ne__»
  repeat (first
    | with_reducible refine wpAny_cRoomFor hu ?_
    | (refine wpAny_bind (m := callSpecialIfBound? (.ref x) (Str.ofString "__eq__") [.ref y])
        (PySem.W.ifBound_K X I hs hf (wpAny_mono hcall (fun r s' hr => by
          obtain ⟨b, rfl, hq⟩ := hr
          repeat (first | exact hq | exact wpAny_pure hq | exact wpAny_truthy_bool hq | (refine wpAny_bind (m := truthy (.bool _)) (wpAny_truthy_bool ?_)) | wp_step)) fun _ _ e => e)))
    | wp_step)
theorem try_ne {Q : Option Value → Shared → Prop} (hu : A.units + 1 < cLine) (X : K.In s.heap) (I : PySem.W.InstAt s.heap x ox C od) (hm : PySem.W.mroIn K C (.type "object") = some true) (hn : PySem.W.findIn K (.ref C) "__ne__" = some (some (.builtin "object.__ne__")))
    (hs : PySem.W.findIn K (.ref C) "__eq__" = some (some (.ref f))) (hf : PySem.W.isFn K (.ref f) = true)
    (hcall : wpAny (model prog w) A.in1 (call (.ref f) [.ref x, .ref y]) (fun v s' => ∃ b, v = .bool b ∧ Q (some (.bool (!b))) s') E s) :
    wpAny (model prog w) A (tryCompare (.ref x) "__ne__" (.ref y)) Q E s := by
  have S := F.cmp_object.ne
  have one : wpAny (model prog w) A (callSpecialIfBound? (.ref x) "__ne__" [.ref y]) (fun r s' => ∃ b, r = some (.bool b) ∧ Q (some (.bool b)) s') E s := by
    simp only [callSpecialIfBound?, bindSpecialIfBound?]
    refine wpAny_holding (wpAny_bind (wpAny_bind (wpAny_bind (I.type.here ((PySem.W.looks_findIn X hn).here ?_)))))
    simp only [S.bind]
    refine wpAny_bind (wpAny_askSetting (wpAny_ite ?_))
    have fin : wpAny (model prog w) A (call (.builtin "object.__ne__") ([.ref x] ++ [.ref y]) >>= fun v => pure (some v)) (fun r s' => ∃ b, r = some (.bool b) ∧ Q (some (.bool b)) s') E s := by
      refine wpAny_bind (wpAny_call (codeAny_call_builtin S.plain F.cmpEntry_ne (check_ne X I hm (entry_ne (A := A.in1) hu X I hs hf (wpAny_mono hcall (fun v s' hv => ?_) fun _ _ e => e)))))
      obtain ⟨b, rfl, hq⟩ := hv
      exact ⟨b, rfl, wpAny_pure ⟨_, rfl, hq⟩⟩
    split
    · exact wpAny_bind (wpAny_pure (wpAny_pure fin))
    · exact wpAny_tryCatch (wpAny_bind (wpAny_pure (wpAny_pure fin)))
  unfold tryCompare
  refine wpAny_bind (wpAny_mono one (fun v s' hv => ?_) fun _ _ e => e)
  obtain ⟨b, rfl, hq⟩ := hv
  exact wpAny_pure hq
theorem ne_own {Q : Value → Shared → Prop} {oy : Obj} {odY : Option Obj} (hu : A.units + 1 < cLine) (X : K.In s.heap) (I : PySem.W.InstAt s.heap x ox C od) (J : PySem.W.InstAt s.heap y oy C odY) (hm : PySem.W.mroIn K C (.type "object") = some true) (hn : PySem.W.findIn K (.ref C) "__ne__" = some (some (.builtin "object.__ne__")))
    (hs : PySem.W.findIn K (.ref C) "__eq__" = some (some (.ref f))) (hf : PySem.W.isFn K (.ref f) = true)
    (hcall : wpAny (model prog w) A.in1 (call (.ref f) [.ref x, .ref y]) (fun v s' => ∃ b, v = .bool b ∧ Q (.bool (!b)) s') E s) :
    wpAny (model prog w) A (richCompare .NotEq (.ref x) (.ref y)) Q E s := by
  unfold richCompare
  simp only [oneThing_ref]
  refine wpAny_holding ?_
  refine wpAny_bind (wpAny_cRoomFor (Nat.lt_of_succ_lt hu) ?_)
  rw [cmpInfo_NotEq]
  dsimp only
  refine wpAny_bind (I.type.here (wpAny_bind (J.type.here ?_)))
  rw [show (Value.ref C != Value.ref C) = false from by simp]
  simp only [Bool.false_eq_true, if_false]
  refine wpAny_bind (wpAny_pure ?_)
  simp only [Bool.false_eq_true, if_false]
  refine wpAny_bind (try_ne hu X I hm hn hs hf (wpAny_mono hcall (fun v s' hv => ?_) fun _ _ e => e))
  obtain ⟨b, rfl, hq⟩ := hv
  exact ⟨b, rfl, wpAny_pure hq⟩
end
section
variable {X : Cx}
theorem op_neOwn {CX : CXT} {k : Nat} {C f : Addr} {fd : FuncData} {ps : List Str} {sp : Sp} {E : XK} (F : FnOk X.prog X.w X.K X.mg X.base CX k f fd ps sp) (hr : Room (k + 1) X.A) (hm : PySem.W.mroIn X.K C (.type "object") = some true) (hn : PySem.W.findIn X.K (.ref C) "__ne__" = some (some (.builtin "object.__ne__")))
    (hs : PySem.W.findIn X.K (.ref C) "__eq__" = some (some (.ref f))) (hf : PySem.W.isFn X.K (.ref f) = true) (hb : Binds X.K fd ps []) (hx : Passes CX X E) :
    OpR X (compareOp .NotEq) (fun x y H Q => ∃ a b dx dy fs gs, x = .ref a ∧ y = .ref b ∧ H a = some (.ins C dx fs) ∧ H b = some (.ins C dy gs) ∧ sp [x, y] H (fun v H' => ∃ c, v = .bl c ∧ Q (.bl (!c)) H') E) := by
  intro pins s σ H x y v u Q I rx ry h
  obtain ⟨a, b, dx, dy, fs, gs, rfl, rfl, ha, hb', hsp⟩ := h
  cases rx
  cases ry
  show wpAny (model X.prog X.w) X.A (richCompare .NotEq (.ref a) (.ref b)) (EP X pins σ Q) X.xe s
  obtain ⟨_, J, _⟩ := ins_get I.hok ha
  obtain ⟨_, J', _⟩ := ins_get I.hok hb'
  obtain ⟨_, J, _⟩ := J.look
  obtain ⟨_, J', _⟩ := J'.look
  have hu : X.A.units + 1 < cLine := hu_of hr
  refine ne_own hu I.kIn J J' hm hn hs hf ?_
  have vals : Vals [V.ref a, V.ref b] [Value.ref a, Value.ref b] := .cons rfl (.cons rfl .nil)
  have e0 : Env0 X.prog X.w X.K X.mg X.base X.A.in1 X.stack s H := I.env0.in1
  have hl := F.len _ _ _ _ hsp
  refine wpAny_call (codeAny_mono (F.run X.A.in1 X.stack s H ⟨[.ref a, .ref b], []⟩ [.ref a, .ref b] [.ref a, .ref b] _ E hr.in1 e0 (by
    have bd := hb s [.ref a, .ref b] I.kIn (by simpa using hl)
    simpa using bd) vals hsp) fun r s' hq => ?_)
  cases r with
  | error e => exact hx pins σ H s e s' I hq
  | ok fl =>
    cases fl with
    | ret w =>
      obtain ⟨z, H', I', rz, c, ez, qz⟩ := I.after hq
      subst ez
      cases rz
      exact ⟨c, rfl, .bl (!c), H', I', rfl, qz⟩
    | next => exact False.elim hq
    | brk => exact False.elim hq
    | cont => exact False.elim hq
/-- == of an instance with an own __eq__ and a dict -/
theorem op_eqDict {CX : CXT} {k : Nat} {C f : Addr} {fd : FuncData} {ps : List Str} {sp : Sp} {E : XK} (F : FnOk X.prog X.w X.K X.mg X.base CX k f fd ps sp) (hr : Room k X.A)
    (hs : PySem.W.findIn X.K (.ref C) "__eq__" = some (some (.ref f))) (hf : PySem.W.isFn X.K (.ref f) = true) (hnf : PySem.W.notFirst X.K C (.type "dict") = true) (hb : Binds X.K fd ps []) (hx : Passes CX X E) :
    OpR X (compareOp .Eq) (fun x y H Q => ∃ a d dx fs kvs, x = .ref a ∧ y = .ref d ∧ H a = some (.ins C dx fs) ∧ H d = some (.dK kvs) ∧ sp [x, y] H (fun v H' => ∃ c, v = .bl c ∧ Q (.bl c) H') E) := by
  intro pins s σ H x y v u Q I rx ry h
  obtain ⟨a, b, dx, fs, kvs, rfl, rfl, ha, hb', hsp⟩ := h
  cases rx
  cases ry
  show wpAny (model X.prog X.w) X.A (richCompare .Eq (.ref a) (.ref b)) (EP X pins σ Q) X.xe s
  obtain ⟨_, J, _⟩ := ins_get I.hok ha
  obtain ⟨_, J, _⟩ := J.look
  obtain ⟨_, _, _, _, ob, es, ep, e, ⟨hcls, _⟩, _⟩ := (show ObjOk X.prog X.w H s.heap b (.dK kvs) from I.hok b _ hb')
  have hty : PySem.W.Looks (model X.prog X.w) s.heap (typeOf (.ref b)) (.type "dict") := hcls ▸ (PySem.W.Looks.ld e).andThen .now
  obtain ⟨m, hF⟩ := I.fr
  refine PySem.W.cmp_K (op := .Eq) (tb := .type "dict") hr.units0 hF I.ok.mod.kin J hty hnf hs hf ?_
  have vals : Vals [V.ref a, V.ref b] [Value.ref a, Value.ref b] := .cons rfl (.cons rfl .nil)
  have e0 : Env0 X.prog X.w X.K X.mg X.base X.A X.stack s H := I.env0
  have hl := F.len _ _ _ _ hsp
  refine wpAny_call (codeAny_mono (F.run X.A X.stack s H ⟨[.ref a, .ref b], []⟩ [.ref a, .ref b] [.ref a, .ref b] _ E hr e0 (by
    have bd := hb s [.ref a, .ref b] I.kIn (by simpa using hl)
    simpa using bd) vals hsp) fun r s' hq => ?_)
  cases r with
  | error e => exact hx pins σ H s e s' I hq
  | ok fl =>
    cases fl with
    | ret w =>
      obtain ⟨z, H', I', rz, c, ez, qz⟩ := I.after hq
      subst ez
      cases rz
      exact ⟨.bl c, H', I', rfl, qz⟩
    | next => exact False.elim hq
    | brk => exact False.elim hq
    | cont => exact False.elim hq
def tMethKK (C : Addr) (m : Str) (sp : Sp) (gV : List V → List V → List V) (E : XK) (ta : TE) (tk : TA) : TE := fun σ H Q => ta σ H fun x H1 => ∃ a dx fs, x = .ref a ∧ H1 a = some (.ins C dx fs) ∧ fs.lookup m = none ∧ tk σ H1 fun zs H2 => sp (gV [x] zs) H2 Q E
/-- o.m(a=.., b=..) -/
theorem pe_methKK {CX : CXT} {k : Nat} {f C : Addr} {fd : FuncData} {ps ks : List Str} {sp : Sp} {E : XK} {m : Str} {pos apos : Pos} {o : Expr} {kws : List Keyword} {ta : TE} {tk : TA} {g : List Value → List Value → List Value} {gV : List V → List V → List V} {pl : Sem Bool} (he : PE X o ta) (c : Cls X.K C) (hm : Meth X.K C m f) (F : FnOk X.prog X.w X.K X.mg X.base CX k f fd ps sp) (hr : Room k X.A) (hb : KBinds X.K fd ps ks g gV) (hx : Passes CX X E)
    (hkw : PK X kws tk) (hall : (backToKw pos (keywordEach kws X.env)).all (·.1.isSome) = true := by rfl) (hks : (backToKw pos (keywordEach kws X.env)).filterMap (·.1) = ks := by rfl)
    (hpl : ((backTo pos (starEach [] X.env)).any (·.1) || (backToKw pos (keywordEach kws X.env)).any (·.1.isNone)) = false := by rfl)
    (ht : eval (.Call (.Attribute o m apos) [] kws pos) X.env = (do
      let ov ← eval o X.env
      standAt apos.atName
      let (f, first) ← holding [ov] (getMethod ov m pl)
      callWith pos f first (backTo pos (starEach [] X.env)) (backToKw pos (keywordEach kws X.env))) := by rfl) :
    PE X (.Call (.Attribute o m apos) [] kws pos) (tMethKK C m sp gV E ta tk) := by
  refine ⟨fun pins s σ H Q I h => ?_⟩
  refine PySem.W.methodCall_KW (pl := pl) (thn (he.run pins s σ H _ I h) fun u s1 ⟨x, H1, I1, rx, a, dx, fs, ex, ea, l, q⟩ => ?_) ht
  subst ex
  obtain rfl : u = Value.ref a := rx
  refine getmeth_ok I1 ea c hm l ?_
  refine PySem.W.callWith_KW0 (first := [.ref a]) (h₀ := X.base) I.ok.mod.kin hm.kp hall (thn (hkw.run pos pins s1 σ H1 _ I1 q) fun ws s2 ⟨zs, H2, I2, rz, q2⟩ => ⟨I2.kIn, ?_⟩) hpl
  rw [hks]
  exact run_fnk (us := [.ref a]) (vs := [.ref a]) F hr hb hx I2 (.cons rfl .nil) rz q2
end
end My
/-! enumerate(t), t a tuple -/
namespace My
open PySem PySem.Spec PyProof.Rows L2
open AutoSeq1 (wpAny_loadPart')
theorem enum_new_tup (q : Addr) (ys : Array Value) (m : Nat) (dc : Option Addr) (sl : Array (Option Value)) :
    Meets (Builtin.«enumerate.__new__» ⟨[.type "enumerate", .ref q], []⟩) (fun _ R s => s.heap.get? q = some { cls := .type "tuple", dict := dc, data := .seq ys m, slots := sl } ∧
      R (.ok (.ret (.ref (s.heap.push { cls := .type "tuple_iterator", data := .fields #[.ref q, .int 0 0] }).objs.size)))
        { s with heap := (s.heap.push { cls := .type "tuple_iterator", data := .fields #[.ref q, .int 0 0] }).push { cls := .type "enumerate", data := .fields #[.none, .bool false, .ref s.heap.objs.size, rawInt 0, .none, .none] } }) :=
  .of_wp fun prog w A R s k => by
    obtain ⟨hh, g, dr, tk, os⟩ := s
    obtain ⟨kq, k⟩ := k
    have hsub := sub_enumerate
    have hT : Heap.IsTuple (Shared.heap ⟨hh, g, dr, tk, os⟩) q ys := ⟨_, kq, rfl, m, rfl⟩
    wp_walk using wpAny_loadPart' kq
    refine wpAny_stack_any fun _ => wpAny_pure ?_
    split
    · rename_i c _ _ _ _ _
      cases (c == Value.type "enumerate") <;>
        (wp_walk using wpAny_loadPart' kq, wpAny_pyIter_tuple hT
         exact ⟨_, rfl, k⟩)
    · wp_walk using wpAny_loadPart' kq, wpAny_pyIter_tuple hT
      exact ⟨_, rfl, k⟩
section
variable {prog : Program} {w : World} {A : Around} {E : Value → Shared → Prop} {s : Shared}
theorem call_enum_tup {q : Addr} {ys : Array Value} {Q : Value → Shared → Prop} (hT : s.heap.IsTuple q ys)
    (k : ∀ h', IsEnum h' (s.heap.objs.size + 1) s.heap.objs.size 0 .none → h'.IsTupleIter s.heap.objs.size q 0 → h'.objs.size = s.heap.objs.size + 2 →
      (∀ b o, s.heap.get? b = some o → h'.get? b = some o) → Q (.ref (s.heap.objs.size + 1)) { s with heap := h' }) :
    wpAny (model prog w) A (call (.type "enumerate") [.ref q]) Q E s := by
  obtain ⟨⟨cl, dc, dt, sl⟩, kq, ec, m, ed⟩ := hT
  cases (show cl = .type "tuple" from ec)
  cases (show dt = .seq ys m from ed)
  refine callType_new F.called_enumerate (by decide) (F.typeCall_enumerate_1 _) (F.newCall_enumerate_1 _) (fun obj => F.args_object_init_2 obj _) F.entry_enumerate_new
    (enum_new_tup q ys m dc sl) ⟨kq, ?_⟩
  have z1 : (s.heap.push { cls := .type "tuple_iterator", data := .fields #[.ref q, .int 0 0] }).objs.size = s.heap.objs.size + 1 := Heap.size_push ..
  show _ ∧ _
  rw [z1]
  have he : IsEnum ((s.heap.push { cls := .type "tuple_iterator", data := .fields #[.ref q, .int 0 0] }).push
      { cls := .type "enumerate", data := .fields #[.none, .bool false, .ref s.heap.objs.size, rawInt 0, .none, .none] }) (s.heap.objs.size + 1) s.heap.objs.size 0 .none := by
    have z2 := Heap.get?_push_size (s.heap.push { cls := .type "tuple_iterator", data := .fields #[.ref q, .int 0 0] })
      (o := { cls := .type "enumerate", data := .fields #[.none, .bool false, .ref s.heap.objs.size, rawInt 0, .none, .none] }) rfl
    rwa [z1] at z2
  exact ⟨⟨_, he, rfl⟩, k _ he ⟨_, Heap.get?_push_of_some _ (Heap.get?_push_size _ rfl), rfl, rfl⟩ (by rw [Heap.size_push, z1]) fun b o x => Heap.get?_push_of_some _ (Heap.get?_push_of_some _ x)⟩
end
/-- the tuple at a, each item in a new pair -/
def Ity (K : PySem.W.Frag) (a : Addr) : It :=
  ⟨fun i H => ∃ (xs : List V) (x : V), SqT K H a xs ∧ xs[i]? = some x, fun i H v H' => ∃ T x, v = .ref T ∧ H T = none ∧ H' = upd H T (.tup [.int (i : Nat), x]) ∧ ∀ xs, SqT K H a xs → xs[i]? = some x, fun i H => ∃ xs : List V, SqT K H a xs ∧ xs.length = i⟩
theorem walk_enumT {K : PySem.W.Frag} {a : Addr} {xs : List V} : Walk (Ity K a) xs.length (fun H => SqT K H a xs) (YPair (fun i => some (.int (i : Nat))) (fun i => xs[i]?)) := by
  refine ⟨fun i _ hi q => ⟨xs, xs[i], q, List.getElem?_eq_getElem hi⟩, fun _ q => ⟨xs, q, rfl⟩, fun i H v H' _ q y => ?_⟩
  obtain ⟨T, x, y1, y2, y3, y4⟩ := y
  exact ⟨T, .int (i : Nat), x, y1, y2, y3, rfl, y4 xs q⟩
theorem turn_enumT {P : Program} {w : World} {K : PySem.W.Frag} {elts : List Expr} {kk : Nat} {tpos : Pos} (a e it : Addr) (nai : a ≠ it) (nea : e ≠ a) :
    Turn P w K (.Tuple elts kk tpos) (Ity K a) [e, it] e (fun i h => (∃ old, IsEnum h e it ((i : Nat) : Int) old) ∧ h.IsTupleIter it a i ∧ e ≠ it) where
  mem := by simp
  obj := fun i h st b hb => by
    obtain ⟨⟨old, he⟩, ⟨o, ho, hc, hd⟩, _⟩ := st
    rcases (show b = e ∨ b = it by simpa using hb) with z | z
    · subst z; exact ⟨_, he, fun v q => nomatch q⟩
    · subst z; exact ⟨o, ho, fun v q => by rw [hd] at q; cases q⟩
  keep := fun i h h' st k => let ⟨⟨old, he⟩, hi, hne⟩ := st; ⟨⟨old, k e (by simp) _ he⟩, hi.at fun o q => k it (by simp) o q, hne⟩
  item := by
    intro X hP hw hK hc i pins s σ H E I hf st hg
    subst hP hw hK
    obtain ⟨⟨old, he⟩, hit, hne⟩ := st
    obtain ⟨xs, x, hq, hx⟩ := hg
    obtain ⟨its, rv, p, hz⟩ := I.tuple hq
    obtain ⟨u, hu, ru⟩ := rv.get hx
    have le : e < s.heap.objs.size := Heap.lt_size he
    have li : it < s.heap.objs.size := by obtain ⟨_, q, _⟩ := hit; exact Heap.lt_size q
    have small : i < its.toArray.size := by
      have := (List.getElem?_eq_some_iff.mp hu).1
      simpa using this
    refine wpAny_pyNext_enum_itemD (Draws.tuple (A := X.A.in1) (I.ok.hd hc) it a nai its.toArray) he ⟨hit, (show s.heap.IsTuple a its.toArray from p)⟩ small hne (by simp [hne, nea]) fun x' h' tk hx' ho hst hT hsz hk => ?_
    have ex : x' = u := by
      have : its[i]? = some x' := by simpa using hx'
      rw [hu] at this
      exact (Option.some.inj this).symm
    subst ex
    obtain ⟨hst1, hst2⟩ := hst
    refine ⟨_, rfl, wpAny_letOwnedTupleGo_enum (s := { s with heap := h', toks := tk + 1 }) ho fun h2 he2 sb => ?_⟩
    have gT : h2.get? s.heap.objs.size = some { cls := .type "tuple", data := .seq #[.int i tk, x'] } := (sb.2 _ (Nat.ne_of_gt le)).trans hT
    have okT : ObjOk X.prog X.w (upd H s.heap.objs.size (.tup [.int (i : Nat), x])) h2 s.heap.objs.size (.tup [.int (i : Nat), x]) :=
      ⟨by show 2 ≤ sizeLine; decide, [.int i tk, x'], .cons ⟨_, rfl⟩ (.cons ru .nil), ⟨_, gT, rfl, _, rfl⟩⟩
    have I2 : Inv X pins σ (upd H s.heap.objs.size (.tup [.int (i : Nat), x])) { s with heap := h2, toks := tk + 1 } :=
      I.turnedNew (t' := tk + 1) (ch := [e, it]) (fun b ob hb q => (sb.2 b (fun z => hb (by simp [z]))).trans (hk b ob (fun z => hb (by simp [z])) (fun z => hb (by simp [z])) q)) hf (Nat.le_refl _) okT
    refine ⟨.ref s.heap.objs.size, _, I2, rfl, ⟨_, x, rfl, I.hok.fresh (Nat.le_refl _), rfl, fun ys hy => by rw [I.tuple_inj hy hq]; exact hx⟩, ⟨⟨x', ?_⟩, hst1.at fun o q => (sb.2 it (Ne.symm hne)).trans q, hne⟩, fun b hb => ?_⟩
    · rw [show ((i + 1 : Nat) : Int) = (i : Int) + 1 by omega]
      exact he2
    · have lb : b < s.heap.objs.size := by
        rcases (show b = e ∨ b = it by simpa using hb) with z | z
        · rw [z]; exact le
        · rw [z]; exact li
      rw [upd_ne (Nat.ne_of_lt lb)]
      exact (hf b hb).1
  done := by
    intro X hP hw hK hc i pins s σ H E I hf st hg
    subst hP hw hK
    obtain ⟨⟨old, he⟩, hit, hne⟩ := st
    obtain ⟨xs, hq, hx⟩ := hg
    obtain ⟨its, rv, p, hz⟩ := I.tuple hq
    obtain ⟨f0, f1, f2, f3, f4, f5⟩ := hf it (by simp)
    have hl := rv.length
    have hsz : i = its.toArray.size := by
      rw [List.size_toArray]
      omega
    rw [hsz] at hit
    exact wpAny_pyNext_enum_endD (Draws.tuple (A := X.A.in1) (I.ok.hd hc) it a nai its.toArray) he ⟨hit, (show s.heap.IsTuple a its.toArray from p)⟩ fun h' eb => ⟨rfl, I.turned (t' := s.toks) (fun b o hb e => eb b o hb e) f0 f1 f3 f4 f5⟩
  self := fun A i s Q E st h => let ⟨⟨_, he⟩, _⟩ := st; wpAny_pyIter_enum he h
def iEnumT (K : PySem.W.Frag) (ta : TA) : TI := fun σ H R => ta σ H fun vs H1 => ∃ a xs, vs = [.ref a] ∧ SqT K H1 a xs ∧ R (Ity K a) H1
theorem pi_enumT {X : Cx} {e : Expr} {ta : TA} {p pos tpos : Pos} {elts : List Expr} {kk : Nat} (hg : Gl X "enumerate") (hm : X.mg "enumerate" = none) (ha : PA X [e] ta) (hs : starEach [e] X.env = [(false, eval e X.env)] := by rfl) :
    PI X (.Tuple elts kk tpos) (.Call (.Name "enumerate" p) [e] [] pos) (iEnumT X.K ta) := by
  constructor
  intro pins s σ H R I h
  refine Call_ (ld_blt I hg hm boot_enumerate (PyProof.Rows.callWith_type1 (thn (ha.run pos pins s σ H _ I h) fun us s1 ⟨vs, H1, I1, r1, q1⟩ => ?_) hs rfl))
  obtain ⟨a, xs, rfl, hq, q⟩ := q1
  obtain rfl := Vals.ref1 r1
  obtain ⟨its, rv, p', hz⟩ := I1.tuple hq
  have la : a < s1.heap.objs.size := by obtain ⟨_, z, _⟩ := p'; exact Heap.lt_size z
  refine call_enum_tup (show s1.heap.IsTuple a its.toArray from p') fun h' he hit hsz hk => wpAny_pyIter_enum he ?_
  have I2 : Inv X pins σ H1 { s1 with heap := h' } := I1.kept (t' := s1.toks) hk
  refine ⟨s1.heap.objs.size + 1, [s1.heap.objs.size + 1, s1.heap.objs.size], _, _, H1, rfl, I2, turn_enumT a (s1.heap.objs.size + 1) s1.heap.objs.size (Nat.ne_of_lt la) (Nat.ne_of_gt (Nat.lt_succ_of_lt la)), ⟨⟨.none, he⟩, hit, Nat.succ_ne_self _⟩, fun b hb => ?_, q⟩
  have hle : s1.heap.objs.size ≤ b := by
    rcases (show b = s1.heap.objs.size + 1 ∨ b = s1.heap.objs.size by simpa using hb) with z | z
    · rw [z]; exact Nat.le_succ _
    · rw [z]; exact Nat.le_refl _
  exact I1.fpOk hle (I1.hok.fresh hle)
end My
namespace My
open PySem PySem.W L2 L2.DX PyProof.Rows
/-! ### d.items() of a dict by texts, sorted -/
section
variable {X : Cx}
def rItemsK : V → List V → Hp → VK → Prop := fun x xs H Q => ∃ (a : Addr) (kvs : List (Key × V)), x = .ref a ∧ xs = [] ∧ H a = some (.dK kvs) ∧ ∀ p, H p = none → Q (.ref p) (upd H p (itemsO p a))
theorem mt_itemsK : MtR X "dict.items" rItemsK := by
  intro pins s σ H x xs v us Q I rx rxs h
  obtain ⟨d, kvs, rfl, rfl, hd0, q⟩ := h
  cases rx
  cases rxs
  obtain ⟨_, hd, vs, rel, dof⟩ := dk_of I.hok hd0
  obtain ⟨es, ep, raw, _, _⟩ := PySem.Heap.DictOf.raw dof
  exact DT.callItems (es := es) (ep := ep) hd raw ⟨.ref s.heap.objs.size, upd H s.heap.objs.size (itemsO s.heap.objs.size d), I.laid (t' := s.toks) (fun b u e => Heap.get?_push_of_some _ e) (Nat.le_refl _) (itemsO_ok (Heap.get?_push_size _ rfl)), rfl, q _ (I.hok.fresh (Nat.le_refl _))⟩
/-- an entry: a text and a number -/
abbrev entSI (e : Str × Int) : Key × V := (Sum.inr e.1, .int e.2)
abbrev encSI (e : Str × Int) : PyData := .tuple [.str e.1, .int e.2]
theorem kv_at : ∀ {kvs : List (Key × V)} {vs : List (Key × Value)}, KV kvs vs → ∀ {j : Nat} {p : Key × V}, kvs[j]? = some p → ∃ q, vs[j]? = some q ∧ p.1 = q.1 ∧ RelV p.2 q.2
  | _, _, .nil, _, _, h => by simp at h
  | _, _, .cons r _, 0, _, h => by
    cases h
    exact ⟨_, rfl, r⟩
  | _, _, .cons _ t, j + 1, p, h => by
    obtain ⟨q, h1, h2⟩ := kv_at t (j := j) (by simpa using h)
    exact ⟨q, by simpa using h1, h2⟩
theorem eachIs_of {α β : Type} {R : α → β → Prop} : ∀ {as : List α} {bs : List β}, as.length = bs.length → (∀ (j : Nat) (a : α) (b : β), as[j]? = some a → bs[j]? = some b → R a b) → PySem.W.EachIs R as bs
  | [], [], _, _ => .nil
  | [], _ :: _, h, _ => by simp at h
  | _ :: _, [], h, _ => by simp at h
  | a :: as, b :: bs, h, k => .cons (k 0 a b rfl rfl) (eachIs_of (by simpa using h) fun j x y hx hy => k (j + 1) x y (by simpa using hx) (by simpa using hy))
theorem encSI_alike (kvs : List (Str × Int)) : AllAlike (kvs.map encSI) := by
  intro d hd d' hd'
  obtain ⟨e, _, rfl⟩ := List.mem_map.mp hd
  obtain ⟨e', _, rfl⟩ := List.mem_map.mp hd'
  rfl
theorem encSI_sortable (kvs : List (Str × Int)) : Sortable (kvs.map encSI) := .tuples fun b => ⟨_, _, rfl⟩
theorem eachIs_refs {β : Type} {as : List Addr} {bs : List β} : ∀ {out : List Value} {cs : List β}, PySem.W.EachIs (fun v b => ∃ (j : Nat) (x : Addr), v = Value.ref x ∧ as[j]? = some x ∧ bs[j]? = some b) out cs →
    ∃ ts : List Addr, out = ts.map Value.ref ∧ Paired (fun (x : Addr) (b : β) => ∃ j : Nat, as[j]? = some x ∧ bs[j]? = some b) ts cs
  | _, _, .nil => ⟨[], rfl, .nil⟩
  | _, _, .cons h t => by
    obtain ⟨j, x, rfl, h1, h2⟩ := h
    obtain ⟨ts, rfl, hp⟩ := eachIs_refs t
    exact ⟨x :: ts, rfl, .cons ⟨j, h1, h2⟩ hp⟩
theorem paired_imp {α β : Type} {F G : α → β → Prop} (h : ∀ a b, F a b → G a b) : ∀ {l1 : List α} {l2 : List β}, Paired F l1 l2 → Paired G l1 l2
  | _, _, .nil => .nil
  | _, _, .cons a r => .cons (h _ _ a) (paired_imp h r)
theorem vals_refs : ∀ ts : List Addr, Vals (ts.map V.ref) (ts.map Value.ref)
  | [] => .nil
  | _ :: r => .cons rfl (vals_refs r)
/-- the told list is new, its pairs too -/
def rSortItK : List V → Hp → VK → Prop := fun vs H Q => ∃ (p a : Addr) (kvs : List (Str × Int)), vs = [.ref p] ∧ H p = some (itemsO p a) ∧ H a = some (.dK (kvs.map entSI)) ∧ kvs.length ≤ 100000 ∧
  ∀ (H' : Hp) (l : Addr) (ts : List Addr), (∀ b o, H b = some o → H' b = some o) → H l = none → H' l = some (.lst (ts.map V.ref)) → Paired (fun t (e : Str × Int) => H' t = some (.tup [.str e.1, .int e.2])) ts (kvs.mergeSort (dataLe false encSI)) → Q (.ref l) H'
theorem cr_sortItK (hc : X.calm = true) (hu : X.A.units + 64 < cLine) : CallR X (.builtin "sorted") rSortItK := by
  intro pins s σ H xs us Q I r h
  obtain ⟨p, a, kvs, rfl, hp, ha, hlen, q⟩ := h
  obtain rfl := Vals.ref1 r
  have vw : s.heap.IsItemsView p a := by
    have z : ObjOk X.prog X.w H s.heap p (itemsO p a) := I.hok p _ hp
    exact z.1
  obtain ⟨_, hd, vs, rel, dof⟩ := dk_of I.hok ha
  obtain ⟨es, ep, raw, hsz, hent⟩ := PySem.Heap.DictOf.raw dof
  have l1 : vs.length = kvs.length := by
    have := Paired.length rel
    rw [List.length_map] at this
    exact this.symm
  have small : kvs.length ≤ sizeLine := Nat.le_trans hlen (by decide)
  refine DT.sortedI (es := es) (ep := ep) (I.ok.hd hc) vw raw (by rw [hsz, l1]; exact small) fun h' tk as kpt hlt hl mde => ?_
  have lak : as.length = kvs.length := by rw [hl, hsz, l1]
  have nod : as.Nodup := List.Pairwise.imp (fun h => Nat.ne_of_lt h) mde.rise
  have pr : ∀ (j : Nat) (b : Addr), as[j]? = some b → ∃ (e : Str × Int) (t t' : Tok), kvs[j]? = some e ∧ h'.get? b = some { cls := .type "tuple", data := .seq #[Value.str e.1 t, Value.int e.2 t'] } := fun j b ej => by
    obtain ⟨en, ee, gh⟩ := mde.pairs j b ej
    have hj2 : j < es.size := (Array.getElem?_eq_some_iff.mp ee).1
    have hj3 : j < kvs.length := by rw [← l1, ← hsz]; exact hj2
    obtain ⟨⟨k, v⟩, g1, g2, g3⟩ := kv_at rel (j := j) (p := entSI kvs[j]) (by rw [List.getElem?_map, List.getElem?_eq_getElem hj3]; rfl)
    obtain ⟨m1, m2⟩ := hent j hj2 k v g1
    have e1 : es[j] = en := (Array.getElem?_eq_some_iff.mp ee).2
    rw [e1] at m1 m2
    have g2' : k = Sum.inr kvs[j].1 := g2.symm
    subst g2'
    obtain ⟨t', ev⟩ : ∃ t', v = Value.int kvs[j].2 t' := g3
    rcases keyIs_shape (show keyIs (Sum.inr kvs[j].1) en.key = true from m1) with ⟨i, t, z, _⟩ | ⟨x, t, z, ek⟩
    · cases z
    · have ex : kvs[j].1 = x := Sum.inr.inj z
      refine ⟨kvs[j], t, t', List.getElem?_eq_getElem hj3, ?_⟩
      rw [gh, ek, m2, ev, ex]
  have gl : (h'.push { cls := .type "list", data := .seq (as.map Value.ref).toArray }).get? h'.objs.size = some (seqObj "list" (as.map Value.ref).toArray 0) := Heap.get?_push_size _ rfl
  have far : ∀ b o, h'.get? b = some o → b ≠ h'.objs.size := fun b o e => Nat.ne_of_lt (Heap.lt_size e)
  have kp : ∀ b o, h'.get? b = some o → (h'.push { cls := .type "list", data := .seq (as.map Value.ref).toArray }).get? b = some o := fun b o e => Heap.get?_push_of_some _ e
  generalize h'.push { cls := .type "list", data := .seq (as.map Value.ref).toArray } = h2 at gl kp ⊢
  have at_ : ∀ (j : Nat) (v : Value) (e : Str × Int), (as.map Value.ref)[j]? = some v → kvs[j]? = some e → ∃ b, v = .ref b ∧ as[j]? = some b := fun j v e hv _ => by
    rw [List.getElem?_map] at hv
    cases z : as[j]? with
    | none => rw [z] at hv; cases hv
    | some b => rw [z] at hv; exact ⟨b, (Option.some.inj hv).symm, rfl⟩
  refine list_sort_data (s := { s with heap := h2, toks := tk }) (R := fun v e => ∃ (j : Nat) (x : Addr), v = Value.ref x ∧ as[j]? = some x ∧ kvs[j]? = some e) (enc := encSI) (bs := kvs) gl (eachIs_of (by rw [List.length_map]; exact lak) fun j v e hv ee => ?_) (eachIs_of (by rw [List.length_map]; exact lak) fun j v e hv ee => ?_) (encSI_alike kvs) (encSI_sortable kvs) small (fun b _ => ?_) fun out ho1 ho2 => ?_
  · obtain ⟨b, e1, e2⟩ := at_ j v e hv ee
    exact ⟨j, b, e1, e2, ee⟩
  · obtain ⟨b, rfl, e2⟩ := at_ j v e hv ee
    obtain ⟨e', t, t', g1, g2⟩ := pr j b e2
    rw [ee] at g1
    cases g1
    exact ⟨[] ++ ([] ++ []), .tuple (kp _ _ g2) rfl rfl (.cons (.str _ _) (.cons (.int _ _) .nil)), by simp⟩
  · show X.A.units + 1 + 1 + 1 < cLine
    omega
  obtain ⟨ts, rfl, hts⟩ := eachIs_refs ho2
  show EP X pins σ Q (.ref h'.objs.size) { s with heap := sortedHeap h2 h'.objs.size (as.map Value.ref) (ts.map Value.ref).toArray, toks := tk }
  have kF : ∀ b o, b ≠ h'.objs.size → h2.get? b = some o → (sortedHeap h2 h'.objs.size (as.map Value.ref) (ts.map Value.ref).toArray).get? b = some o := fun b o hb e => (PyProof.Rows.sortedHeap_old hb (Heap.lt_size e)).trans e
  have kS : ∀ b o, s.heap.get? b = some o → (sortedHeap h2 h'.objs.size (as.map Value.ref) (ts.map Value.ref).toArray).get? b = some o := fun b o e => kF b o (far _ _ (kpt b o e)) (kp b o (kpt b o e))
  obtain ⟨eF, heF⟩ := PyProof.Rows.sortedHeap_at (vs := as.map Value.ref) (out := (ts.map Value.ref).toArray) gl
  generalize sortedHeap h2 h'.objs.size (as.map Value.ref) (ts.map Value.ref).toArray = hz at kF kS heF ⊢
  have free0 : H h'.objs.size = none := I.hok.fresh (Nat.le_of_lt hlt)
  have htl : (ts.map V.ref).length ≤ sizeLine := by
    rw [List.length_map] at ho1 ⊢
    rw [ho1]
    exact small
  have I2 : Inv X pins σ (upd H h'.objs.size (.lst (ts.map V.ref))) { s with heap := hz, toks := tk } :=
    (I.kept (t' := tk) kS).take (h' := hz) (t' := tk) (fun b ob _ e => e) (I.fpOk (Nat.le_of_lt hlt) free0) ⟨htl, ts.map Value.ref, eF, vals_refs ts, heF⟩
  obtain ⟨H2, I3, g, qt⟩ := takeT (P := fun b vs => ∃ (j : Nat) (e : Str × Int), as[j]? = some b ∧ kvs[j]? = some e ∧ vs = [.str e.1, .int e.2]) I as _ I2 nod fun b hb => by
    obtain ⟨j, ej⟩ := List.mem_iff_getElem?.mp hb
    obtain ⟨e, t, t', ee, gh⟩ := pr j b ej
    have big : s.heap.objs.size ≤ b := Nat.le_of_lt (mde.above b hb)
    refine ⟨big, by rw [upd_ne (far _ _ gh)]; exact I.hok.fresh big, [.str e.1, .int e.2], ⟨j, e, ej, ee, rfl⟩, fun H3 => ⟨(by show 2 ≤ sizeLine; decide), [Value.str e.1 t, Value.int e.2 t'], .cons ⟨t, rfl⟩ (.cons ⟨t', rfl⟩ .nil), ⟨_, kF _ _ (far _ _ gh) (kp _ _ gh), rfl, 0, rfl⟩⟩⟩
  refine ⟨.ref h'.objs.size, H2, I3, rfl, q H2 h'.objs.size ts (fun b o e => g b o (by rw [upd_ne (ne_of_none e free0)]; exact e)) free0 (g _ _ upd_same) (paired_imp (fun x e hx => ?_) hts)⟩
  obtain ⟨i, i1, i2⟩ := hx
  obtain ⟨vs', ⟨j, e', j1, j2, ev⟩, hH⟩ := qt x (List.mem_of_getElem? i1)
  have eqi : i = j := (List.getElem?_inj (List.getElem?_eq_some_iff.mp i1).1 nod).mp (i1.trans j1.symm)
  subst eqi
  rw [i2] at j2
  cases j2
  rw [ev] at hH
  exact hH
end
end My
namespace My
open PySem PySem.W L2 L2.DX PyProof.Rows
section
variable {X : Cx}
theorem dp_at {K : PySem.W.Frag} {H : Hp} : ∀ {ys : List V} {ds : List PyData}, DpAll K H ys ds → ∀ {j : Nat} {y : V} {d : PyData}, ys[j]? = some y → ds[j]? = some d → Dp K H y d
  | _, _, .nil, _, _, _, h, _ => by simp at h
  | _, _, .cons p _, 0, _, _, h, k => by
    cases h
    cases k
    exact p
  | _, _, .cons _ t, j + 1, _, _, h, k => dp_at t (j := j) (by simpa using h) (by simpa using k)
theorem dp_len {K : PySem.W.Frag} {H : Hp} : ∀ {ys : List V} {ds : List PyData}, DpAll K H ys ds → ys.length = ds.length
  | _, _, .nil => rfl
  | _, _, .cons _ t => congrArg Nat.succ (dp_len t)
theorem vals_at : ∀ {ys : List V} {us : List Value}, Vals ys us → ∀ {j : Nat} {u : Value}, us[j]? = some u → ∃ y, ys[j]? = some y ∧ RelV y u
  | _, _, .nil, _, _, h => by simp at h
  | _, _, .cons r _, 0, _, h => by
    cases h
    exact ⟨_, rfl, r⟩
  | _, _, .cons _ t, j + 1, _, h => by
    obtain ⟨y, h1, h2⟩ := vals_at t (j := j) (by simpa using h)
    exact ⟨y, by simpa using h1, h2⟩
theorem out_vals {ys : List V} {ds : List PyData} : ∀ {out : List Value} {cs : List PyData}, PySem.W.EachIs (fun v d => ∃ (j : Nat) (y : V), ys[j]? = some y ∧ ds[j]? = some d ∧ RelV y v) out cs →
    ∃ zs : List V, Vals zs out ∧ Paired (fun (z : V) (d : PyData) => ∃ j : Nat, ys[j]? = some z ∧ ds[j]? = some d) zs cs
  | _, _, .nil => ⟨[], .nil, .nil⟩
  | _, _, .cons h t => by
    obtain ⟨j, y, h1, h2, h3⟩ := h
    obtain ⟨zs, g1, g2⟩ := out_vals t
    exact ⟨y :: zs, .cons h3 g1, .cons ⟨j, h1, h2⟩ g2⟩
theorem vals_len : ∀ {ys : List V} {us : List Value}, Vals ys us → ys.length = us.length
  | _, _, .nil => rfl
  | _, _, .cons _ t => congrArg Nat.succ (vals_len t)
/-- sorted(xs), data of one shape: the items are set in sequence by what they are -/
def rSortD (K : PySem.W.Frag) : List V → Hp → VK → Prop := fun vs H Q => ∃ (a : Addr) (ys : List V) (ds : List PyData), vs = [.ref a] ∧ SqL K H a ys ∧ DpAll K H ys ds ∧ AllAlike ds ∧ Sortable ds ∧ (∀ d ∈ ds, d.depth ≤ 8) ∧ ys.length ≤ 100000 ∧
  ∀ (zs : List V) (p : Addr), Paired (fun (z : V) (d : PyData) => ∃ j : Nat, ys[j]? = some z ∧ ds[j]? = some d) zs (ds.mergeSort (dataLe false id)) → H p = none → Q (.ref p) (upd H p (.lst zs))
theorem cr_sortD (hu : X.A.units + 64 < cLine) : CallR X (.builtin "sorted") (rSortD X.K) := by
  intro pins s σ H xs us Q I r h
  obtain ⟨a, ys, ds, rfl, hs, hd, hal, hk, hdp, hlen, q⟩ := h
  obtain rfl := Vals.ref1 r
  obtain ⟨its, rv, pl, _⟩ := I.list hs
  have li : its.length = ds.length := by rw [← vals_len rv]; exact dp_len hd
  have small : ds.length ≤ sizeLine := by rw [← dp_len hd]; exact Nat.le_trans hlen (by decide)
  refine sorted_data (R := fun v d => ∃ (j : Nat) (y : V), ys[j]? = some y ∧ ds[j]? = some d ∧ RelV y v) (enc := id) (bs := ds) pl.isList (eachIs_of li fun j v d hv he => ?_) (eachIs_of li fun j v d hv he => ?_) (by rw [List.map_id]; exact hal) (by rw [List.map_id]; exact hk) small (fun d hdm => ?_) fun out ho1 ho2 => ?_
  · obtain ⟨y, g1, g2⟩ := vals_at rv hv
    exact ⟨j, y, g1, he, g2⟩
  · obtain ⟨y, g1, g2⟩ := vals_at rv hv
    exact Dp.reads I d y v (dp_at hd g1 he) g2
  · have := hdp d hdm
    show X.A.units + 2 + d.depth < cLine
    omega
  obtain ⟨zs, hz, hp⟩ := out_vals ho2
  obtain ⟨eF, heF⟩ := PyProof.Rows.sortedAll_at s.heap its out.toArray
  have hzl : zs.length ≤ sizeLine := by rw [vals_len hz, ho1]; exact small
  exact ⟨.ref (s.heap.objs.size + 1), upd H (s.heap.objs.size + 1) (.lst zs), I.laid (t' := s.toks) (fun _ _ => PyProof.Rows.sortedAll_old) (Nat.le_succ _) ⟨hzl, out, eF, hz, heF⟩, rfl, q zs _ hp (I.hok.fresh (Nat.le_succ _))⟩
end
end My
namespace My
open PySem L2 PyProof.Rows
theorem bl_is1 {x : Bool} {Q : VK} {H : Hp} (h : x = true) (q : Q (.bl true) H) : Q (.bl x) H := by
  rw [h]
  exact q
/-! ### a list that nobody asks for any more is forgotten -/
section
variable {X : Cx} {pins : List (Addr × Obj)} {σ : L2.St} {H1 H2 : Hp} {s : Shared} {D : Addr} {xs : List V}
theorem inv_drop (I : Inv X pins σ H1 s) (e : H1 = upd H2 D (.lst xs)) (n : H2 D = none) : Inv X pins σ H2 s := by
  subst e
  have off : ∀ b, upd H2 D (.lst xs) b = none → H2 b = none := fun b h => by
    by_cases hb : b = D
    · rw [hb]; exact n
    · rw [upd_ne hb] at h; exact h
  have back : ∀ b o, o ≠ HO.lst xs → upd H2 D (.lst xs) b = some o → H2 b = some o := fun b o ho h => by
    by_cases hb : b = D
    · subst hb
      rw [upd_same] at h
      exact absurd (Option.some.inj h).symm ho
    · rw [upd_ne hb] at h; exact h
  refine ⟨I.ok, I.os, I.bare, ?_, I.loc, I.cell, off _ I.free, fun x c h => off _ (I.freeC x c h), fun p hp => ?_, ?_, I.len⟩
  · have u := I.base
    refine ⟨u.keep, u.slot, fun b o h1 h2 h3 => off _ (u.free b o h1 h2 h3), u.there, fun b ys h => back _ _ (by intro z; cases z) (u.tups b ys h), fun b o v h => back _ _ (by intro z; cases z) (u.frzs b o v h), fun b ps h => ?_⟩
    obtain ⟨more, h⟩ := u.tbls b ps h
    exact ⟨more, back _ _ (by intro z; cases z) h⟩
  · obtain ⟨a, b, c⟩ := I.pin p hp
    exact ⟨a, off _ b, c⟩
  · intro a o h
    have ha : a ≠ D := fun z => by rw [z, n] at h; cases h
    refine (I.hok a o (by rw [upd_ne ha]; exact h)).stay (fun _ _ _ z => z) (fun b h => back _ _ (by intro z; cases z) h) (fun b ys h => back _ _ (by intro z; cases z) h)
theorem pe_drop {e : Expr} {te : TE} (he : PE X e te) : PE X e (fun σ H Q => te σ H fun v H1 => ∃ D xs H2, H1 = upd H2 D (.lst xs) ∧ H2 D = none ∧ Q v H2) := by
  refine ⟨fun pins s σ H Q I h => ?_⟩
  exact wpAny_mono (he.run pins s σ H _ I h) (fun u s1 ⟨v, H1, I1, r, D, xs, H2, e, n, q⟩ => ⟨v, H2, inv_drop I1 e n, r, q⟩) fun _ _ h => h
theorem ix_seqK {K : PySem.W.Frag} (h : X.K = K) : IxR X (rIx K) := h ▸ ix_seq
end
end My
namespace My
open PySem L2 PyProof.Rows
/-! ### contracts of defs that are called where nothing is being shown -/
structure FnG (P : Program) (w : World) (K : PySem.W.Frag) (mg : Str → Option Value) (base : Heap) (k : Nat) (f : Addr) (fd : FuncData) (ps : List Str) (sp : Sp) : Prop where
  len : ∀ vs H Q E, sp vs H Q E → vs.length = ps.length
  run : ∀ (A : Around) (outer : List Env) (s : Shared) (H : Hp) (args : Args) (us : List Value) (vs : List V) (Q : VK) (E : XK), Room k A → A.guards = some [] → Env0 P w K mg base A outer s H → BindsTo s fd args (ps.zip us) → Vals vs us → sp vs H Q E →
    codeAny (model P w) A (.call (.ref f) args) (CR CX0 outer P w H s Q E) s
section
variable {P : Program} {w : World} {K : PySem.W.Frag} {mg : Str → Option Value} {base : Heap}
theorem FnG.ofOk {k : Nat} {f : Addr} {fd : FuncData} {ps : List Str} {sp : Sp} (F : FnOk P w K mg base CX0 k f fd ps sp) : FnG P w K mg base k f fd ps sp :=
  ⟨F.len, fun A outer s H args us vs Q E hr _ he hb hv hs => F.run A outer s H args us vs Q E hr he hb hv hs⟩
theorem FnG.ofBody {x qual : Str} {st : Stmt} {f : Addr} {fd : FuncData} {N ps : List Str} {k : Nat} {sp : Sp} (F : Fun K x qual st f fd) (S : FnScope N ps (defScope st)) (len : ∀ vs H Q E, sp vs H Q E → vs.length = ps.length)
    (body : ∀ (cdv : Value) (A : Around) (outer : List Env) (s : Shared) (H : Hp) (vs : List V) (Q : VK) (E : XK), Room k (A.deeper (envOfC qual (defScope st) s.heap.objs.size f cdv)) → A.guards = some [] → sp vs H Q E →
      ∃ t, PSs (cxOf CX0 P w K mg base N qual (defScope st) f cdv A outer s H E).nox (defBody st) t ∧ t { nx := fun _ H' => Q .non H', rt := Q } (start N vs) H) : FnG P w K mg base (k + 1) f fd ps sp := by
  obtain ⟨oc, od, kV, doc, pm, an, cdv, ct, osl, rfl, lk, hcd⟩ := F.ex
  constructor
  · exact len
  intro A outer s H args us vs Q E room quiet env bound rel want
  have many := len _ _ _ _ want
  have inK : K.In s.heap := env.mod.kin.keeps (fun b o e => (env.bs b o e).1)
  have unlimited : s.heap.NoLimit := env.mod.nolimit.keeps (fun b o e => (env.bs b o e).1)
  have kinds : ∀ y ∈ ps.zip us, (defScope st).names.lookup y.1 = some .local ∨ ((defScope st).names.lookup y.1 = some .cell ∧ ((cellsFrom (s.heap.objs.size + 1) (defScope st).names []).lookup y.1).isSome = true) := by
    rintro ⟨n, v⟩ hy
    exact (S.par n (List.of_mem_zip hy).1).imp id (fun q => ⟨q, PySem.W.cellsFrom_some _ _ _ (.inl q)⟩)
  refine codeAny_call_function room.depth (inK _ _ lk) rfl S.co S.gen rfl (PySem.W.codeRec_of inK hcd) (bound _ _ _ _ (wpAny_newFunctionEnv_cells S.kind kinds ?_))
  rintro env' rfl s1 x
  obtain ⟨t, ht, hq⟩ := body cdv A outer s H vs Q E (room.deeper _) quiet want
  have I := inv_start (CX := CX0) (E := E) S room.hd env many rel x
  refine ⟨unlimited.keeps x.toInCall.keep, codeAny_func (wpAny_mono (ht.nox.run [] s1 (start N vs) H _ I hq) ?_ (fun _ _ h => h))⟩
  intro fl s' hs
  cases fl with
  | ret u =>
    obtain ⟨v, σ', H', J, rv, q⟩ := hs
    exact ⟨v, H', J.os, J.bare, J.base, J.hok, rv, q⟩
  | next =>
    obtain ⟨σ', H', J, q⟩ := hs
    exact ⟨V.non, H', J.os, J.bare, J.base, J.hok, (rfl : RelV V.non Value.none), q⟩
  | brk => exact hs.elim fun _ h => h.elim fun _ h => h.2.elim
  | cont => exact hs.elim fun _ h => h.elim fun _ h => h.2.elim
end
section
variable {X : Cx} {k : Nat} {f : Addr} {fd : FuncData} {ps ks : List Str} {sp : Sp} {ds : List Value} {x : Str} {p pos : Pos} {e : Expr} {es : List Expr} {kws : List Keyword} {t tk : TA} {g : List Value → List Value → List Value} {gV : List V → List V → List V}
theorem run_fnG {pins : List (Addr × Obj)} {σ : L2.St} {H : Hp} {s : Shared} {Q : VK} {us ws : List Value} {vs zs : List V} (F : FnG X.prog X.w X.K X.mg X.base k f fd ps sp) (hr : Room k X.A) (quiet : X.A.guards = some []) (hb : KBinds X.K fd ps ks g gV)
    (I : Inv X pins σ H s) (r : Vals vs us) (rz : Vals zs ws) (h : sp (gV vs zs) H Q E0) : wpAny (model X.prog X.w) X.A (call (.ref f) us (ks.zip ws)) (EP X pins σ Q) X.xe s := by
  have r2 := hb.rel r rz
  have many : (g us ws).length = ps.length := r2.length.symm.trans (F.len _ _ _ _ h)
  refine wpAny_call (codeAny_mono (F.run X.A X.stack s H _ _ _ Q E0 hr quiet I.env0 (hb.to s us ws I.kIn many) r2 h) ?_)
  rintro (e | fl) s' hq
  · exact False.elim hq
  cases fl with
  | ret u => exact I.after hq
  | next | brk | cont => exact hq.elim
/-- arguments by place alone -/
theorem KBinds.none {K : PySem.W.Frag} {fd : FuncData} {ps : List Str} (b : Binds K fd ps []) : KBinds K fd ps [] (fun us _ => us) (fun vs _ => vs) := by
  refine ⟨fun s us ws X hl => ?_, fun r _ => r⟩
  have := b s us X (by rw [List.append_nil]; exact hl)
  rw [List.append_nil] at this
  exact this
theorem pe_callG (F : FnG X.prog X.w X.K X.mg X.base k f fd ps sp) (hr : Room k X.A) (quiet : X.A.guards = some []) (hg : Gl X x) (hm : X.mg x = some (.ref f)) (hk : PySem.W.keepIn X.K (.ref f) = true) (hb : Binds X.K fd ps [])
    (ha : PA X (e :: es) t) (hdb : (x == ("__debug__" : Str)) = false := by decide) (he : starEach (e :: es) X.env = (false, eval e X.env) :: starEach es X.env := by rfl) (hpl : (backTo pos (starEach es X.env)).any (·.1) = false := by rfl) :
    PE X (.Call (.Name x p) (e :: es) [] pos) (tCall sp [] E0 t) := by
  constructor
  intro pins s σ H Q I h
  refine wpAny_Call_Name_kw (ld_glob I hg hm (PySem.W.callWith_K (h₀ := X.base) I.ok.mod.kin hk (thn (ha.run pos pins s σ H _ I h) ?_) he hpl) hdb)
  rintro us s1 ⟨vs, H1, I1, r, q⟩
  refine ⟨I1.kIn, ?_⟩
  have q' : sp vs H1 Q E0 := by
    have q2 : sp (vs ++ []) H1 Q E0 := q
    rwa [List.append_nil] at q2
  exact run_fnG (ws := []) (zs := []) F hr quiet (KBinds.none hb) I1 r .nil q'
end
/-! ### a law whose promise is kept where nothing is being shown -/
theorem quiet_caller : callerA.guards = some [] := rfl
/-- from an abstract heap in which at most the script is told -/
theorem law_from {P : Program} {w : World} {K : PySem.W.Frag} {mg mb : Str → Option Value} {k : Nat} {fa a : Addr} {fd : FuncData} {x : Str} {sp : Sp} {s₁ : Shared} {vs : List Value} {H : Hp}
    (inK : K.In s₁.heap) (main : s₁.heap.Ns mainGlobals mg) (bui : s₁.heap.Ns builtinsNs mb) (same : ∀ x : Str, x ≠ "__name__" → mb x = bootBuiltins x) (lim : s₁.heap.NoLimit) (gens : s₁.gens = #[])
    (at_a : s₁.heap.get? a = some { cls := .type "list", data := .seq vs.toArray }) (room : Room k callerA)
    (F : ∀ base : Heap, K.In base → base.Ns mainGlobals mg → FnG P w K mg base k fa fd [x] sp) (bound : ∀ (s : Shared) (u : Value), BindsTo s fd ⟨[u], []⟩ [(x, u)])
    (only : Only H) (hok : HOk P w H s₁.heap) (isA : ∀ b, H b ≠ none → b = a) (notK : H a ≠ none → K.lookup a = none) (want : sp [.ref a] H (fun v _ => v = .bl true) fun _ _ _ => False) :
    codeAny (model P w) callerA (.call (.ref fa) ⟨[.ref a], []⟩) (fun r s' => r = .ok (.ret (.bool true)) ∧ OldK s₁.heap s'.heap ∧ s'.os = s₁.os ∧ AllBare s'.gens) s₁ := by
  have free : ∀ b, b ≠ a → H b = none := by
    intro b hb
    cases q : H b with
    | none => rfl
    | some u => exact absurd (isA b (fun z => by rw [z] at q; cases q)) hb
  have shown : ∀ {b : Addr} {o : Obj}, s₁.heap.get? b = some o → H b = none → (hidT s₁.heap H).get? b = some o := fun e n => hidT_get e n
  have names : ∀ {b : Addr} {m : Str → Option Value}, s₁.heap.Ns b m → (hidT s₁.heap H).Ns b m := by
    rintro b m ⟨o, es, ep, e, d, r⟩
    refine ⟨o, es, ep, shown e (free b ?_), d, r⟩
    rintro rfl
    rw [at_a] at e
    cases e
    exact nomatch d
  have inHid : K.In (hidT s₁.heap H) := by
    intro b o e
    refine shown (inK b o e) ?_
    cases q : H b with
    | none => rfl
    | some u =>
      have ne : H b ≠ none := fun z => by rw [z] at q; cases q
      have eb := isA b ne
      subst eb
      rw [notK ne] at e
      cases e
  obtain ⟨mc, l1, l2⟩ := lim
  have env : Env0 P w K mg (hidT s₁.heap H) callerA [] s₁ H := {
    frames := rfl
    mod := ⟨inHid, names main, ⟨mb, names bui, same⟩, ⟨mc, names l1, l2⟩⟩
    bs := fun _ _ e => of_hidT e
    bsz := Nat.le_of_eq (hidT_size _ _)
    funs := trivial
    frf := fun b hb => nomatch (show b ∈ ([] : List Addr) from hb)
    hok := hok
    bare := .of_eq gens }
  refine codeAny_mono ((F _ inHid (names main)).run callerA [] s₁ H ⟨[.ref a], []⟩ [.ref a] [.ref a] _ _ room quiet_caller env (bound s₁ (.ref a)) (.cons rfl .nil) want) ?_
  rintro (e | fl) s' h
  · exact False.elim h
  cases fl with
  | next | brk | cont => exact False.elim h
  | ret u =>
    obtain ⟨v, H', os, bare, un, hok', rel, q⟩ := h
    cases (show v = .bl true from q)
    cases (show u = Value.bool true from rel)
    refine ⟨rfl, .of_keep ?_, os, bare⟩
    intro b o e
    rcases only b with z | ⟨ob, xs, z⟩
    · exact un.keep b o e z (fun m => nomatch (show b ∈ ([] : List Addr) from m)) (fun m => nomatch m)
    · have z2 := un.frzs b ob _ z
      have e1 := (hok b _ z).1
      rw [e] at e1
      cases e1
      exact (hok' b _ z2).1
theorem law_callG {P : Program} {w : World} {K : PySem.W.Frag} {mg mb : Str → Option Value} {k : Nat} {fa a : Addr} {fd : FuncData} {x : Str} {sp : Sp} {s₁ : Shared} {vs : List Value} {ns : List Int}
    (inK : K.In s₁.heap) (main : s₁.heap.Ns mainGlobals mg) (bui : s₁.heap.Ns builtinsNs mb) (same : ∀ x : Str, x ≠ "__name__" → mb x = bootBuiltins x) (lim : s₁.heap.NoLimit) (gens : s₁.gens = #[])
    (at_a : s₁.heap.get? a = some { cls := .type "list", data := .seq vs.toArray }) (hints : IntsAre vs ns) (short : ns.length ≤ sizeLine) (room : Room k callerA)
    (F : ∀ base : Heap, K.In base → base.Ns mainGlobals mg → FnG P w K mg base k fa fd [x] sp) (bound : ∀ (s : Shared) (u : Value), BindsTo s fd ⟨[u], []⟩ [(x, u)])
    (want : ∀ H : Hp, Only H → SqL K H a (ns.map V.int) → sp [.ref a] H (fun v _ => v = .bl true) fun _ _ _ => False) :
    codeAny (model P w) callerA (.call (.ref fa) ⟨[.ref a], []⟩) (fun r s' => r = .ok (.ret (.bool true)) ∧ OldK s₁.heap s'.heap ∧ s'.os = s₁.os ∧ AllBare s'.gens) s₁ := by
  have rel := vals_ints hints
  have many := hints.length
  have go := fun (H : Hp) (o : Only H) hok isA notK w => law_from (mb := mb) inK main bui same lim gens at_a room F bound (H := H) o hok isA notK w
  cases hk : K.lookup a with
  | some o =>
    have e := inK a o hk
    rw [at_a] at e
    cases e
    have nobody : Only (fun _ => none) := fun _ => .inl rfl
    refine go _ nobody (fun b u z => nomatch (show (none : Option HO) = some u from z)) (fun b z => absurd rfl z) (fun z => absurd rfl z) (want _ nobody (.inr ⟨_, vs.toArray, _, hk, rfl, rfl, rfl, ?_, ?_⟩))
    · rw [List.size_toArray, many]
      exact short
    · simpa using rel
  | none =>
    have key : ∃ H : Hp, H = fun b => if b = a then some (.frz { cls := .type "list", data := .seq vs.toArray } (.lst (ns.map V.int))) else none := ⟨_, rfl⟩
    obtain ⟨H, eH⟩ := key
    have there : H a = some (.frz { cls := .type "list", data := .seq vs.toArray } (.lst (ns.map V.int))) := by rw [eH]; exact if_pos rfl
    have else_ : ∀ b, b ≠ a → H b = none := fun b hb => by rw [eH]; exact if_neg hb
    have only : Only H := fun b => by
      by_cases hb : b = a
      · rw [hb]; exact .inr ⟨_, _, there⟩
      · exact .inl (else_ b hb)
    refine go H only (fun b u z => ?_) (fun b z => ?_) (fun _ => hk) (want H only (.inl (.inr ⟨_, there⟩)))
    · by_cases hb : b = a
      · subst hb
        rw [there] at z
        cases z
        exact ⟨at_a, by rw [List.length_map]; exact short, vs, _, rel, at_a⟩
      · rw [else_ b hb] at z
        cases z
    · by_cases hb : b = a
      · exact hb
      · exact absurd (else_ b hb) z
theorem walk_ofG {l : PySem.W.OpenLaw} {n k : Nat} {q : Program} {loose : List Str} {XP : (Str → Option Value) → Heap → Prop} {YP : World → Heap → Prop} {d : DefRec} {K : Params → PySem.W.Frag} {sp : World → Sp} {x : Str}
    (hn : l.most = some n) (hn2 : n ≤ sizeLine) (hdf : d.params.defaults = []) (room : Room k callerA) (hY : ∀ (w : World) (h : Heap), YP w h → (K w.params).In h)
    (F : ∀ (w : World) (mg : Str → Option Value) (fa : Addr) (h : Heap), (K w.params).In h → h.Ns mainGlobals mg → mg d.name = some (.ref fa) →
      ∃ fd : FuncData, (∀ (s : Shared) (u : Value), BindsTo s fd ⟨[u], []⟩ [(x, u)]) ∧ ∀ base : Heap, (K w.params).In base → base.Ns mainGlobals mg → FnG l.prog w (K w.params) mg base k fa fd [x] (sp w))
    (want : ∀ (w : World) (H : Hp) (a : Addr) (ns : List Int), ns.length ≤ n → Only H → SqL (K w.params) H a (ns.map V.int) → sp w [.ref a] H (fun v _ => v = .bl true) fun _ _ _ => False) :
    PySem.W.WalkO q loose XP YP l.row.toRowW d [] (fun f vs => PySem.call f vs) := by
  apply Att.attach_call hn hdf
  intro w s₀ s₁ mg mb fa o pm cd doc a vs ns G Y ho hd hcd hmg hobj hints hlen hg
  have inK := hY w _ Y
  obtain ⟨fd, bound, hF⟩ := F w mg fa _ inK G.T.g hmg
  exact law_callG inK G.T.g G.T.b G.T.builtins G.T.nolimit hg hobj hints (Nat.le_trans hlen hn2) room hF bound (fun H hO hS => want w H a ns hlen hO hS)
/-! ### repr of a list -/
section
variable {X : Cx}
theorem call_repr_data (quiet : X.A.guards = some []) (hu : X.A.units + 70 < cLine) : CallR X (.builtin "repr") (fun xs H Q => ∃ a d, xs = [.ref a] ∧ Dp X.K H (.ref a) d ∧ d.showable = true ∧ d.hasDict = false ∧ d.depth ≤ 60 ∧ d.shown.length ≤ sizeLine ∧ Q (.str d.shown) H) := by
  intro pins s σ H xs us Q I r h
  obtain ⟨a, d, rfl, hd, hs, hnd, hdp, hz, q⟩ := h
  obtain ⟨u, rfl, e⟩ := vals1 r
  cases e
  obtain ⟨as, rd⟩ := Dp.reads I d _ _ hd (rfl : RelV (.ref a) (.ref a))
  exact repr_of_reads' rd hs (PyData.noDict_hsm hnd) quiet (by omega) (fun _ _ e => e) (fun h' u tk hk => ⟨.str _, H, I.kept hk, ⟨_, rfl⟩, q⟩) hz
end
end My
namespace My
open PySem L2 PyProof.Rows
/-! ### the rules within a comprehension -/
section
variable {X : Cx} {K : PySem.W.Frag}
theorem ix_listK (h : X.K = K) : IxR X (rIxL K) := h ▸ ix_list
theorem ix_tupK (h : X.K = K) : IxR X (rIxT K) := h ▸ ix_tup
theorem pi_listK {tg l : Expr} {tl : TE} (h : X.K = K) (hl : PE X l tl) : PI X tg l (iList K tl) := h ▸ pi_list hl
theorem call_len_seqK (h : X.K = K) : CallR X (.builtin "len") (fun xs H Q => ∃ p ys, xs = [V.ref p] ∧ (SqL K H p ys ∨ SqT K H p ys) ∧ Q (.int (ys.length : Int)) H) := h ▸ call_len_seq
theorem op_in_seqK (h : X.K = K) : OpR X (compareOp .In) (rIn K false) := h ▸ op_in_seq
theorem op_notIn_seqK (h : X.K = K) : OpR X (compareOp .NotIn) (rIn K true) := h ▸ op_notIn_seq
end
theorem mt_indexK {X : Cx} {K : PySem.W.Frag} (h : X.K = K) : MtR X "list.index" (rIndex K) := h ▸ mt_index
theorem pe_bmK {X : Cx} {K : PySem.W.Frag} {o e : Expr} {es : List Expr} {to : TE} {t : TA} {name : Str} {apos cpos : Pos} {T id : String} {r : V → List V → Hp → VK → Prop} (h : X.K = K) (pa : PlainAttrs T) (slot : Slot T name id) (hty : typeOf (.builtin id) = pure (.type "method_descriptor")) (hm : MtR X id r) (ho : PE X o to) (ha : PA X (e :: es) t)
    (hbase : attributeBase o name X.env (eval o X.env) = eval o X.env := by rfl)
    (hfew : ((backTo cpos (starEach (e :: es) X.env)).all (fun x => !x.1) && (backToKw cpos (keywordEach [] X.env)).all (fun x => x.1.isSome)
      && decide ((e :: es).length + ([] : List Keyword).length + (if ([] : List Keyword).isEmpty then 0 else 1) < 30)) = true := by rfl)
    (hline : (apos.endLine == cpos.line) = true := by rfl) (hs : starEach (e :: es) X.env = (false, eval e X.env) :: starEach es X.env := by rfl) (hplain : (backTo cpos (starEach es X.env)).any (·.1) = false := by rfl) :
    PE X (.Call (.Attribute o name apos) (e :: es) [] cpos) (tBM K T r to t) := h ▸ pe_bm pa slot hty hm ho ha hbase hfew hline hs hplain
/-- a field, read within a comprehension -/
theorem pe_fldK {X : Cx} {K : PySem.W.Frag} {e : Expr} {ta : TE} {f : Str} {pos : Pos} (h : X.K = K) (he : PE X e ta) (hb : attributeBase e f X.env (eval e X.env) = eval e X.env := by rfl) : PE X (.Attribute e f pos) (tFld K ta f) := h ▸ pe_fld he hb
theorem pe_fldA {X : Cx} {e : Expr} {ta : TE} {f : Str} {pos : Pos} (he : PE X e ta) (hb : attributeBase e f X.env (eval e X.env) = eval e X.env := by rfl) : PE X (.Attribute e f pos) (tFld X.K ta f) := pe_fld he hb
/-! ### defs that may show a value (repr) -/
theorem hu70 {k : Nat} {A : Around} (h : Room k A) : A.units + 70 < cLine := by
  have := h.un
  omega
theorem u65 {k : Nat} {A : Around} (h : Room k A) : A.units + 65 < cLine := by
  have := h.un
  omega
section
variable {P : Program} {w : World} {K : PySem.W.Frag} {mg : Str → Option Value} {base : Heap}
def GoodG (P : Program) (w : World) (K : PySem.W.Frag) (mg : Str → Option Value) (base : Heap) (x : Str) (st : Stmt) (ps : List Str) (k : Nat) (sp : Sp) : Prop := ∃ (f : Addr) (fd : FuncData), FnG P w K mg base k f fd ps sp ∧ mg x = some (.ref f) ∧ PySem.W.keepIn K (.ref f) = true ∧ Binds K fd ps [] ∧ Fun K x x st f fd
theorem Def.goodG {x : Str} {st : Stmt} {ps : List Str} {k : Nat} {sp : Sp} (D : Def K mg x st ps) (h : ∀ f fd, Fun K x x st f fd → FnG P w K mg base k f fd ps sp) : GoodG P w K mg base x st ps k sp := by
  obtain ⟨f, fd, F, m, b⟩ := D
  exact ⟨f, fd, h f fd F, m, F.kp, b, F⟩
end
end My
set_option maxHeartbeats 4000000
/-! set(texts), sorted(set(texts)), len(set(texts)) -/
namespace My
open PySem PySem.Spec PyProof.Rows L2
/-- the text of an entry -/
def txtOf (e : Int × Value) : Str := match e.2 with | .str k _ => k | _ => Str.empty
def GoodT (w : World) (e : Int × Value) : Prop := ∃ k tk, e.2 = Value.str k tk ∧ e.1 = hashStr w k
/-- a set of texts: S its members, n their number -/
def SetTx (w : World) (h : Heap) (a : Addr) (S : Str → Bool) (n : Nat) : Prop :=
  ∃ o es ep t, h.get? a = some o ∧ o.ExactSet ∧ o.data = .set es ep t ∧ (∀ e ∈ es.toList, GoodT w e) ∧ (es.toList.map txtOf).Nodup ∧ (∀ k, S k = true ↔ k ∈ es.toList.map txtOf) ∧
    (es.size < scanBound ∧ t.fits es.size = true ∧ es.size = n) ∧ Ris t.place.toList ∧ (w.params.followText "set-order" = true ∨ t.led = true)
section
variable {P : Program} {w : World} {h h' : Heap} {a : Addr} {S : Str → Bool} {n : Nat}
theorem SetTx.at (R : SetTx w h a S n) (k : ∀ o, h.get? a = some o → h'.get? a = some o) : SetTx w h' a S n := by
  obtain ⟨o, es, ep, t, ho, r⟩ := R
  exact ⟨o, es, ep, t, k o ho, r⟩
theorem SetTx.congr {S' : Str → Bool} {m : Nat} (R : SetTx w h a S n) (e : ∀ k, S' k = S k) (em : n = m) : SetTx w h a S' m := by
  rw [show S' = S from funext e, ← em]
  exact R
theorem goodT_elems {l : List (Int × Value)} (g : ∀ e ∈ l, GoodT w e) : ElemsOf (PySem.strKind P w) l := fun e he => by
  obtain ⟨k, tk, g1, g2⟩ := g e he
  exact ⟨⟨k, by rw [g1]; exact strKind_is P w k tk, g2⟩, by rw [g1]; rfl⟩
theorem goodT_is {e : Int × Value} (g : GoodT w e) (k : Str) : (PySem.strKind P w).is k e.2 = true ↔ txtOf e = k := by
  obtain ⟨k0, tk, g1, _⟩ := g
  unfold txtOf
  rw [g1]
  constructor
  · intro q
    exact (PySem.strKind P w).inj _ _ _ (strKind_is P w k0 tk) q
  · intro q
    show (PySem.strKind P w).is k (.str k0 tk) = true
    rw [show k0 = k from q]
    exact strKind_is P w k tk
theorem goodT_mem {l : List (Int × Value)} (g : ∀ e ∈ l, GoodT w e) (k : Str) : k ∈ l.map txtOf ↔ ∃ e ∈ l, (PySem.strKind P w).is k e.2 = true := by
  rw [List.mem_map]
  exact ⟨fun ⟨e, he, q⟩ => ⟨e, he, (goodT_is (g e he) k).2 q⟩, fun ⟨e, he, q⟩ => ⟨e, he, (goodT_is (P := P) (g e he) k).1 q⟩⟩
theorem SetTx.setOf (R : SetTx w h a S n) : h.SetOf (PySem.strKind P w) a S n := by
  obtain ⟨o, es, ep, t, ho, hx, hd, g, nd, hm, ⟨hb, hf, hn⟩, _⟩ := R
  exact ⟨o, es, ep, t, ho, hx, hd, goodT_elems g, fun k => (hm k).trans (goodT_mem g k), hb, hf, hn⟩
end
section
variable {P : Program} {w : World} {A : Around} {E : Value → Shared → Prop} {s : Shared} {a : Addr} {S : Str → Bool} {n : Nat}
theorem tx_tail {g : Bool → Sem Unit} (hg : ∀ (b : Bool) (s₁ : Shared) (Q' : Unit → Shared → Prop), Q' () s₁ → wpAny (model P w) A (g b) Q' E s₁)
    {o : Obj} {es : Array (Int × Value)} {ep : Nat} {t : SetTable} (ho : s.heap.get? a = some o) (hex : o.ExactSet) (hd : o.data = .set es ep t)
    {es1 : Array (Int × Value)} {t2 : SetTable} {S' : Str → Bool} (g1 : ∀ e ∈ es1.toList, GoodT w e) (nd1 : (es1.toList.map txtOf).Nodup) (m1 : ∀ k, S' k = true ↔ k ∈ es1.toList.map txtOf)
    (room : es1.size < scanBound) (fit : t2.fits es1.size = true) (ris : Ris t2.place.toList) (led : w.params.followText "set-order" = true ∨ t2.led = true) {wasDummy : Bool} {R : Option Bool → Shared → Prop}
    (hR : ∀ h', Heap.SameBut a s.heap h' → SetTx w h' a S' es1.size → R (some true) { s with heap := h' }) :
    wpAny (model P w) A (do
        storeSet a es1 t2
        if (!wasDummy && t2.tooFull) = true then do
            g (relayAll t2 es1 (SetTable.grown es1.size)).2.2
            storeSet a (relayAll t2 es1 (SetTable.grown es1.size)).1 (relayAll t2 es1 (SetTable.grown es1.size)).2.1
            pure (some true)
          else pure (some true)) R E s := by
  refine wpAny_bind (wpAny_storeSet_of ho hd ?_ (fits_of_scanBound room))
  have st1 := store_at (es' := es1) (t' := t2) ho hd
  have same1 := Heap.SameBut.update s.heap a (Obj.putSet es1 t2)
  split
  · have p3 := relayAll_perm t2 es1 (SetTable.grown es1.size)
    have f3 := relayAll_fits t2 es1 (SetTable.grown es1.size)
    have r3 := relayAll_ris t2 es1 (SetTable.grown es1.size)
    have l3 := relayAll_led t2 es1 (SetTable.grown es1.size)
    generalize relayAll t2 es1 (SetTable.grown es1.size) = Z at p3 f3 r3 l3 ⊢
    obtain ⟨es2, t3, gave⟩ := Z
    dsimp only at p3 f3 r3 l3 ⊢
    have z2 : es2.size = es1.size := by rw [← Array.length_toList, p3.length_eq, Array.length_toList]
    have b2 : es2.size < scanBound := by rw [z2]; exact room
    refine wpAny_bind (hg _ _ _ (wpAny_bind (wpAny_storeSet_of st1 rfl ?_ (fits_of_scanBound b2))))
    have st2 := store_at (es' := es2) (t' := t3) st1 rfl
    exact wpAny_pure (hR _ (same1.trans (Heap.SameBut.update _ a _)) ⟨_, es2, _, t3, st2, hex, rfl, fun e he => g1 e (p3.mem_iff.mp he), (p3.map txtOf).nodup_iff.mpr nd1, fun k => (m1 k).trans (p3.map txtOf).mem_iff.symm, ⟨b2, f3, z2⟩, r3, led.imp id fun z => by rw [l3]; exact z⟩)
  · exact wpAny_pure (hR _ same1 ⟨_, es1, _, t2, st1, hex, rfl, g1, nd1, m1, ⟨room, fit, rfl⟩, ris, led⟩)
theorem tx_add {k : Str} {tk : Tok} {Q : Bool → Shared → Prop} (R : SetTx w s.heap a S n) (room : n + 1 < scanBound)
    (hQ : ∀ h', Heap.SameBut a s.heap h' → SetTx w h' a (fun j => S j || decide (j = k)) (if S k = true then n else n + 1) → Q (!S k) { s with heap := h' }) :
    wpAny (model P w) A (setAddHashed a (.str k tk) ((PySem.strKind P w).hash k)) Q E s := by
  obtain ⟨o, es, ep, t, ho, hex, hd, g, nd, hm, ⟨hb, hf, hn⟩, hr, hl⟩ := R
  have is_k : (PySem.strKind P w).is k (.str k tk) = true := strKind_is P w k tk
  have scan : (Value.str k tk).scannable = true := rfl
  have elems : ElemsOf (PySem.strKind P w) es.toList := goodT_elems g
  unfold setAddHashed setAddHashedIn
  refine wpAny_holding (wpAny_bind (wpAny_setState_of ho hd hf ?_))
  dsimp only
  rw [byScan_of scan hb elems]
  simp only [↓reduceIte]
  unfold setAddByScan
  refine wpAny_bind (wpAny_bind (wpAny_rule ?_))
  refine wpAny_bind (wpAny_setScan_of is_k ho hd hf elems ?_)
  cases at_ : List.findIdx? (fun e => (PySem.strKind P w).is k e.2) es.toList with
  | some j =>
    dsimp only
    obtain ⟨hj, pj, _⟩ := List.findIdx?_eq_some_iff_getElem.mp at_
    have inS : S k = true := (hm k).2 ((goodT_mem (P := P) g k).2 ⟨es.toList[j], List.getElem_mem hj, pj⟩)
    refine wpAny_pure (wpAny_pure ?_)
    have q := hQ s.heap (Heap.SameBut.refl a s.heap) ⟨o, es, ep, t, ho, hex, hd, g, nd, fun i => by
      rw [Bool.or_eq_true, decide_eq_true_eq, ← hm i]
      exact ⟨fun z => z.elim id (fun e => e ▸ inS), .inl⟩, ⟨hb, hf, by rw [if_pos inS]; exact hn⟩, hr, hl⟩
    rw [inS] at q
    exact q
  | none =>
    dsimp only
    have out : k ∉ es.toList.map txtOf := fun z => by
      obtain ⟨e, he, q⟩ := (goodT_mem (P := P) g k).1 z
      have c := List.findIdx?_eq_none_iff.mp at_ e he
      rw [q] at c
      cases c
    have noS : S k = false := by
      cases q : S k with
      | false => rfl
      | true => exact absurd ((hm k).1 q) out
    have gave_ : ∀ (b : Bool) {s₁ : Shared} {Q' : Unit → Shared → Prop}, Q' () s₁ → wpAny (model P w) A (match b with | true => rule "set.scan.the-table-gave-way" | false => pure ()) Q' E s₁ :=
      fun b s₁ Q' q => by cases b <;> first | exact wpAny_pure q | exact wpAny_rule q
    have p1 := layNew_perm t es ((PySem.strKind P w).hash k) (.str k tk)
    have f1 := layNew_fits t es ((PySem.strKind P w).hash k) (.str k tk)
    have r1 := layNew_ris t es ((PySem.strKind P w).hash k) (.str k tk) hr
    have l1 := layNew_led t es ((PySem.strKind P w).hash k) (.str k tk)
    generalize layNew t es ((PySem.strKind P w).hash k) (.str k tk) = Z at p1 f1 r1 l1 ⊢
    obtain ⟨es1, t1, wasDummy, gave⟩ := Z
    dsimp only at p1 f1 r1 l1 ⊢
    rw [Array.toList_push] at p1
    have pc : es1.toList.Perm (((PySem.strKind P w).hash k, Value.str k tk) :: es.toList) := p1.trans (List.perm_append_singleton _ _)
    have pk : (es1.toList.map txtOf).Perm (k :: es.toList.map txtOf) := pc.map txtOf
    have g1 : ∀ e ∈ es1.toList, GoodT w e := fun e he => by
      rcases List.mem_cons.mp (pc.mem_iff.mp he) with z | z
      · rw [z]; exact ⟨k, tk, rfl, rfl⟩
      · exact g e z
    have nd1 : (es1.toList.map txtOf).Nodup := pk.nodup_iff.mpr (List.nodup_cons.mpr ⟨out, nd⟩)
    have m1 : ∀ i, (S i || decide (i = k)) = true ↔ i ∈ es1.toList.map txtOf := fun i => by
      rw [Bool.or_eq_true, decide_eq_true_eq, hm i, pk.mem_iff, List.mem_cons]
      exact Or.comm
    have z1 : es1.size = n + 1 := by rw [← Array.length_toList, pc.length_eq, List.length_cons, Array.length_toList, hn]
    have b1 : es1.size < scanBound := by rw [z1]; exact room
    have led1 : w.params.followText "set-order" = true ∨ t1.led = true := hl.imp id fun z => by rw [l1]; exact z
    have fin : ∀ h', Heap.SameBut a s.heap h' → SetTx w h' a (fun j => S j || decide (j = k)) es1.size → Q true { s with heap := h' } := fun h' sb r => by
      have q := hQ h' sb
      rw [noS] at q
      rw [z1] at r
      exact q r
    refine wpAny_bind (gave_ _ ?_)
    split
    · refine wpAny_bind ?_
      rw [hashByValue_scannable 8 scan]
      refine wpAny_pure ?_
      refine tx_tail ?_ ho hex hd g1 nd1 m1 b1 ?_ ?_ ?_ ?_
      · intro b s₁ Q' q; cases b <;> first | exact wpAny_pure q | exact wpAny_rule q
      · first | (split <;> first | exact f1 | exact SetTable.fits_plain_off f1) | exact f1
      · first | (split <;> exact r1) | exact r1
      · first | (split <;> exact led1) | exact led1
      · intro h' sb r; dsimp only; exact wpAny_pure (fin h' sb r)
    · refine wpAny_bind (wpAny_pure ?_)
      simp only [↓reduceIte]
      refine tx_tail ?_ ho hex hd g1 nd1 m1 b1 f1 r1 led1 ?_
      · intro b s₁ Q' q; cases b <;> first | exact wpAny_pure q | exact wpAny_rule q
      · intro h' sb r; dsimp only; exact wpAny_pure (fin h' sb r)
end
end My
set_option maxHeartbeats 4000000
namespace My
open PySem PySem.Spec PyProof.Rows L2
abbrev hasT (xs : List Str) : Str → Bool := fun k => decide (k ∈ xs)
theorem hasT_snoc (xs : List Str) (x : Str) (k : Str) : hasT (xs ++ [x]) k = (hasT xs k || decide (k = x)) := by
  unfold hasT
  by_cases c : k = x
  · simp [c]
  · simp [c]
section
variable {prog : Program} {w : World} {A : Around} {R : Result → Shared → Prop} {I : Addr} {fp wr : List Addr} {G : Array GenState → Array GenState → Prop} {n : Nat} {Pw : Nat → Value → Prop} {St : Nat → Shared → Prop}
/-- the texts of an iterator put into a set -/
theorem put_texts (W : WalksS prog w A.in1 I fp wr G n Pw St) (a : Addr) (away : a ∉ fp) (xs : List Str) (size : xs.length = n) (few : n + 1 < scanBound)
    (reads : ∀ i v, Pw i v → ∃ t x, xs[i]? = some x ∧ v = .str x t) :
    ∀ (k i m : Nat) (s : Shared), n - i = k → i ≤ n → m ≤ i → St i s → SetTx w s.heap a (hasT (xs.take i)) m →
      (∀ s' m', Moved (a :: wr) G s s' → m' ≤ n → SetTx w s'.heap a (hasT xs) m' → R (.ok (.ret .none)) s') →
      codeAny (model prog w) A (.builtin "set.update.loop" ⟨[.ref a, .ref I], []⟩) R s := by
  have apart : a ∉ wr := fun z => away (W.sub _ z)
  have wider : ∀ b ∈ wr, b ∈ a :: wr := fun b hb => List.mem_cons_of_mem _ hb
  intro k
  induction k with
  | zero =>
    intro i m s hk hi hm hst hS hR
    obtain rfl : i = n := by omega
    rw [← size, List.take_length] at hS
    refine codeAny_builtin PyProof.Rows.F.entry_set_update_loop ?_
    rw [Around.under_plainId PyProof.Rows.F.plain_set_update_loop _]
    show wpAny _ A.in1 (pyNext (.ref I) >>= _) _ _ s
    refine wpAny_bind (W.done s _ _ hst fun s' hm' => ?_)
    show wpAny _ A.in1 (ret Value.none) _ _ s'
    exact wpAny_pure (hR s' m (hm'.mono wider) hm (hS.at fun o e => hm'.heap a _ apart e))
  | succ k ih =>
    intro i m s hk hi hm hst hS hR
    have hlt : i < n := by omega
    refine codeAny_builtin PyProof.Rows.F.entry_set_update_loop ?_
    rw [Around.under_plainId PyProof.Rows.F.plain_set_update_loop _]
    show wpAny _ A.in1 (pyNext (.ref I) >>= _) _ _ s
    refine wpAny_bind (W.item i s _ _ hlt hst fun v s' hPv hst' hm' => ?_)
    obtain ⟨t, x, hx, rfl⟩ := reads i v hPv
    have hS' : SetTx w s'.heap a (hasT (xs.take i)) m := hS.at fun o e => hm'.heap a _ apart e
    show wpAny _ A.in1 (holding [Value.str x t] (setAdd a (.str x t)) >>= _) _ _ s'
    refine wpAny_bind (wpAny_holding ?_)
    unfold setAdd
    refine wpAny_holding (wpAny_bind ((PySem.strKind prog w).pyHash (k := x) (strKind_is _ _ _ _) ?_))
    refine tx_add (P := prog) (s := { s' with toks := s'.toks + 1 }) hS' (by omega) fun h' sb hS2 => ?_
    have hS3 : SetTx w h' a (hasT (xs.take (i + 1))) (if hasT (xs.take i) x = true then m else m + 1) := by
      refine hS2.congr (fun k' => ?_) rfl
      rw [show xs.take (i + 1) = xs.take i ++ [x] by rw [List.take_succ, hx]; rfl, hasT_snoc]
    refine wpAny_pure ⟨plainId_quiet PyProof.Rows.F.plain_set_update_loop _, ih (i + 1) _ _ (by omega) hlt (by split <;> omega) (W.frame _ s' _ _ hst' (Nat.le_succ _) fun b hb o e => ?_) hS3 fun s'' m'' hm'' hle hS'' => ?_⟩
    · rw [sb.2 b (fun z : b = a => away (by rw [← z]; exact hb))]; exact e
    · refine hR s'' m'' (Moved.trans W.gtrans ((hm'.mono wider).then_heap (Nat.le_succ _) fun b o hb e => ?_) hm'') hle hS''
      rw [sb.2 b (fun z : b = a => hb (by rw [z]; exact List.mem_cons_self))]; exact e
end
def newSet (w : World) : Obj := { cls := .type "set", dict := none, data := .set #[] 0 (.fresh 0 0 (!w.params.followText "set-order")) }
theorem newSet_tx (w : World) {h : Heap} : SetTx w (h.push (newSet w)) h.objs.size (fun _ => false) 0 :=
  ⟨_, #[], 0, _, Heap.get?_push_size _ rfl, ⟨rfl, rfl, rfl⟩, rfl, (fun e he => by simp at he), (by simp), (fun k => by simp), ⟨(by decide), (by rfl), rfl⟩, List.Pairwise.nil, by
    show _ ∨ (!w.params.followText "set-order") = true
    cases w.params.followText "set-order"
    · exact Or.inr rfl
    · exact Or.inl rfl⟩
section
variable {prog : Program} {w : World} {A : Around} {E : Value → Shared → Prop} {s : Shared}
theorem set_made (a : Value) {Q₁ : Value → Shared → Prop} (h : Q₁ (.ref s.heap.objs.size) { s with heap := s.heap.push (newSet w) }) :
    codeAny (model prog w) A (.call (.builtin "set.__new__") ⟨[.type "set", a], []⟩) (wants Q₁ E) s := by
  refine codeAny_of_tree ?_
  show wpAny _ A.in1 (do checkBuiltinCall "set.__new__" ⟨[.type "set", a], []⟩; again (.builtin "set.__new__" ⟨[.type "set", a], []⟩)) _ _ s
  refine wpAny_bind (wpAny_of_eq (PySem.F.newCall_set_1 a) (wpAny_pure ⟨plainId_quiet PySem.F.plain_set_new _, codeAny_builtin PySem.F.entry_set_new ?_⟩))
  rw [Around.under_plainId PySem.F.plain_set_new _]
  unfold Builtin.«set.__new__» Builtin.Frozenset.newClass
  have hsub := sub_set_self
  obtain ⟨hp, g, d, tk, os⟩ := s
  dsimp only
  wp_walk
  refine wpAny_askSetting (wpAny_pure ?_)
  dsimp only
  simp only [newObj]
  exact wpAny_bind (wpAny_alloc (wpAny_pure (wpAny_pure h)))
set_option maxHeartbeats 3200000 in
theorem set_of_list {q : Addr} {ys : Array Value} {xs : List Str} {Q : Value → Shared → Prop}
    (calm : A.handled = none) (hq : s.heap.IsList q ys) (hx : PyProof.Rows.StrsAre ys.toList xs) (few : xs.length + 1 < scanBound)
    (k : ∀ (h' : Heap) (tk m : Nat), m ≤ xs.length → SetTx w h' s.heap.objs.size (hasT xs) m →
      (∀ b o, b < s.heap.objs.size → s.heap.get? b = some o → h'.get? b = some o) → Q (.ref s.heap.objs.size) { s with heap := h', toks := tk }) :
    wpAny (model prog w) A (call (.type "set") [.ref q]) Q E s := by
  obtain ⟨c, tl, hmro⟩ := PySem.F.called_set.mro
  have hmade := PySem.F.called_set.made
  have hsub := PySem.F.called_set.sub
  refine wpAny_call (codeAny_of_tree ?_)
  show wpAny _ _ (callAny (.type "set") _) _ _ _
  refine wpAny_pure ⟨Code.quiet_builtin _ (by decide +kernel), codeAny_builtin PySem.F.entry_type_call ?_⟩
  rw [Around.under_plain (weight_type_call_type "set" [.ref q] []) rfl]
  have h1 := PySem.F.called_set.notType
  have h2 := PySem.F.called_set.canCreate
  have hct := PySem.F.typeCall_set_1 (.ref q)
  repeat (any_goals (first | assumption | wp_step))
  refine codeAny_mono (set_made (w := w) (.ref q) (E := E) (Q₁ := fun obj s₁ => obj = .ref s.heap.objs.size ∧ s₁ = { s with heap := s.heap.push (newSet w) }) ⟨rfl, rfl⟩) fun r s₁ hr => ?_
  cases r with
  | error e => exact hr
  | ok fl =>
    cases fl with
    | ret obj =>
      obtain ⟨rfl, rfl⟩ := hr
      have hS : (s.heap.push (newSet w)).get? s.heap.objs.size = some (newSet w) := Heap.get?_push_size _ rfl
      have hT : Shared.TypeIs { s with heap := s.heap.push (newSet w) } (.ref s.heap.objs.size) "set" := ⟨_, hS, rfl⟩
      have hli := PySem.F.called_set.init.lookup
      have hbi := PySem.F.called_set.init.bind (.ref s.heap.objs.size)
      repeat (any_goals (first | assumption | wp_step))
      refine codeAny_mono (codeAny_call_builtin (R := wants (fun r s₂ => r = .none ∧ ∃ h' tk m, s₂ = { s with heap := h', toks := tk } ∧ m ≤ xs.length ∧
          SetTx w h' s.heap.objs.size (hasT xs) m ∧
          (∀ b o, b < s.heap.objs.size → s.heap.get? b = some o → h'.get? b = some o)) E) PySem.F.called_set.init.plain PySem.F.entry_set_init (check_set_init_1 hT ?_)) fun r₂ s₂ hr₂ => ?_
      · obtain ⟨ol, hol, hcl, nl, hdl⟩ := hq
        obtain ⟨ocls, odict, odata, oslots⟩ := ol
        simp only at hcl hdl
        subst hcl; subst hdl
        have hol' : (s.heap.push (newSet w)).get? q = some { cls := .type "list", dict := odict, data := .seq ys nl, slots := oslots } := Heap.get?_push_of_some _ hol
        have hsls := PySem.F.sub_list_set
        have hslf := PySem.F.sub_list_frozenset
        have hne : (Value.type "list" == Value.type "dict") = false := by decide
        have hl1 : (s.heap.push (newSet w)).IsList q ys := ⟨_, hol', rfl, nl, rfl⟩
        unfold Builtin.«set.__init__» noKeywords Builtin.Frozenset.updateFrom
        generalize hPI : pyIter = PI
        wp_walk
        subst hPI
        refine wpAny_pyIter_list hl1 (wpAny_bind (wpAny_runValue ?_))
        have qS : q < s.heap.objs.size := Heap.lt_size hol
        have calm3 : A.in1.in1.in1.handled = none := by simp [calm]
        have z1 : (s.heap.push (newSet w)).objs.size = s.heap.objs.size + 1 := Heap.size_push ..
        have qI : q ≠ (s.heap.push (newSet w)).objs.size := by
          rw [z1]; exact Nat.ne_of_lt (Nat.lt_succ_of_lt qS)
        have away : s.heap.objs.size ∉ [(s.heap.push (newSet w)).objs.size, q] := by
          rw [z1]; simp only [List.mem_cons, List.mem_singleton, List.not_mem_nil, or_false, not_or]
          exact ⟨Nat.ne_of_lt (Nat.lt_succ_self _), Nat.ne_of_gt qS⟩
        have sz : xs.length = ys.size := by rw [← StrsAre.len_eq hx, Array.length_toList]
        have rd : ∀ (i : Nat) (v : Value), ys[i]? = some v → ∃ t x, xs[i]? = some x ∧ v = .str x t := fun i v hv => by
          obtain ⟨t, e⟩ := SS.strs_at hx i v (by rw [Array.getElem?_toList]; exact hv)
          have hi : i < xs.length := by rw [sz]; exact (Array.getElem?_eq_some_iff.mp hv).1
          exact ⟨t, xs[i], List.getElem?_eq_getElem hi, by rw [e, List.getD_eq_getElem?_getD, List.getElem?_eq_getElem hi]; rfl⟩
        refine put_texts ((Walks.list calm3 _ q qI ys).toS) s.heap.objs.size
          away xs sz (by omega) rd (ys.size - 0) 0 0 _ rfl (Nat.zero_le _) (Nat.zero_le _)
          ⟨⟨_, Heap.get?_push_size _ rfl, rfl, rfl⟩, (hl1.push _)⟩ ?start ?end_
        case start =>
          exact (SetTx.congr (newSet_tx w) (fun k => by simp [hasT]) rfl).at fun o e => Heap.get?_push_of_some _ e
        case end_ =>
          intro s' m hm hle hS'
          obtain ⟨h', g', d', tk', os'⟩ := s'
          cases (show g' = s.gens from hm.gens)
          cases (show d' = s.drawn from hm.drawn)
          cases (show os' = s.os from hm.os)
          show wpAny _ _ _ _ _ _
          refine wpAny_pure ?_
          show wpAny _ _ (ret Value.none) _ _ _
          refine wpAny_pure ⟨rfl, h', tk', m, rfl, by rw [sz]; exact hle, hS', fun b o hb e => ?_⟩
          have b1 : b ≠ s.heap.objs.size := Nat.ne_of_lt hb
          have b2 : b ≠ (s.heap.push (newSet w)).objs.size := by
            rw [z1]; exact Nat.ne_of_lt (Nat.lt_succ_of_lt hb)
          exact hm.heap b o (by simp only [List.mem_cons, List.mem_singleton, List.not_mem_nil, or_false, not_or]; exact ⟨b1, b2⟩) (Heap.get?_push_of_some _ (Heap.get?_push_of_some _ e))
      · cases r₂ with
        | error e => exact hr₂
        | ok fl₂ =>
          cases fl₂ with
          | ret r =>
            obtain ⟨rfl, h', tk, m, rfl, hle, hS', keep⟩ := hr₂
            repeat (any_goals (first | assumption | wp_step))
            exact k _ _ m hle hS' keep
          | _ => exact hr₂.elim
    | _ => exact hr.elim
set_option maxHeartbeats 3200000 in
theorem set_of_tuple {q : Addr} {ys : Array Value} {xs : List Str} {Q : Value → Shared → Prop}
    (calm : A.handled = none) (hq : s.heap.IsTuple q ys) (hx : PyProof.Rows.StrsAre ys.toList xs) (few : xs.length + 1 < scanBound)
    (k : ∀ (h' : Heap) (tk m : Nat), m ≤ xs.length → SetTx w h' s.heap.objs.size (hasT xs) m →
      (∀ b o, b < s.heap.objs.size → s.heap.get? b = some o → h'.get? b = some o) → Q (.ref s.heap.objs.size) { s with heap := h', toks := tk }) :
    wpAny (model prog w) A (call (.type "set") [.ref q]) Q E s := by
  obtain ⟨c, tl, hmro⟩ := PySem.F.called_set.mro
  have hmade := PySem.F.called_set.made
  have hsub := PySem.F.called_set.sub
  refine wpAny_call (codeAny_of_tree ?_)
  show wpAny _ _ (callAny (.type "set") _) _ _ _
  refine wpAny_pure ⟨Code.quiet_builtin _ (by decide +kernel), codeAny_builtin PySem.F.entry_type_call ?_⟩
  rw [Around.under_plain (weight_type_call_type "set" [.ref q] []) rfl]
  have h1 := PySem.F.called_set.notType
  have h2 := PySem.F.called_set.canCreate
  have hct := PySem.F.typeCall_set_1 (.ref q)
  repeat (any_goals (first | assumption | wp_step))
  refine codeAny_mono (set_made (w := w) (.ref q) (E := E) (Q₁ := fun obj s₁ => obj = .ref s.heap.objs.size ∧ s₁ = { s with heap := s.heap.push (newSet w) }) ⟨rfl, rfl⟩) fun r s₁ hr => ?_
  cases r with
  | error e => exact hr
  | ok fl =>
    cases fl with
    | ret obj =>
      obtain ⟨rfl, rfl⟩ := hr
      have hS : (s.heap.push (newSet w)).get? s.heap.objs.size = some (newSet w) := Heap.get?_push_size _ rfl
      have hT : Shared.TypeIs { s with heap := s.heap.push (newSet w) } (.ref s.heap.objs.size) "set" := ⟨_, hS, rfl⟩
      have hli := PySem.F.called_set.init.lookup
      have hbi := PySem.F.called_set.init.bind (.ref s.heap.objs.size)
      repeat (any_goals (first | assumption | wp_step))
      refine codeAny_mono (codeAny_call_builtin (R := wants (fun r s₂ => r = .none ∧ ∃ h' tk m, s₂ = { s with heap := h', toks := tk } ∧ m ≤ xs.length ∧
          SetTx w h' s.heap.objs.size (hasT xs) m ∧
          (∀ b o, b < s.heap.objs.size → s.heap.get? b = some o → h'.get? b = some o)) E) PySem.F.called_set.init.plain PySem.F.entry_set_init (check_set_init_1 hT ?_)) fun r₂ s₂ hr₂ => ?_
      · obtain ⟨ol, hol, hcl, nl, hdl⟩ := hq
        obtain ⟨ocls, odict, odata, oslots⟩ := ol
        simp only at hcl hdl
        subst hcl; subst hdl
        have hol' : (s.heap.push (newSet w)).get? q = some { cls := .type "tuple", dict := odict, data := .seq ys nl, slots := oslots } := Heap.get?_push_of_some _ hol
        have hsls := PySem.F.sub_tuple_set
        have hslf := PySem.F.sub_tuple_frozenset
        have hne : (Value.type "tuple" == Value.type "dict") = false := by decide
        have hl1 : (s.heap.push (newSet w)).IsTuple q ys := ⟨_, hol', rfl, nl, rfl⟩
        unfold Builtin.«set.__init__» noKeywords Builtin.Frozenset.updateFrom
        generalize hPI : pyIter = PI
        wp_walk
        subst hPI
        refine wpAny_pyIter_tuple hl1 (wpAny_bind (wpAny_runValue ?_))
        have qS : q < s.heap.objs.size := Heap.lt_size hol
        have calm3 : A.in1.in1.in1.handled = none := by simp [calm]
        have z1 : (s.heap.push (newSet w)).objs.size = s.heap.objs.size + 1 := Heap.size_push ..
        have qI : q ≠ (s.heap.push (newSet w)).objs.size := by
          rw [z1]; exact Nat.ne_of_lt (Nat.lt_succ_of_lt qS)
        have away : s.heap.objs.size ∉ [(s.heap.push (newSet w)).objs.size, q] := by
          rw [z1]; simp only [List.mem_cons, List.mem_singleton, List.not_mem_nil, or_false, not_or]
          exact ⟨Nat.ne_of_lt (Nat.lt_succ_self _), Nat.ne_of_gt qS⟩
        have sz : xs.length = ys.size := by rw [← StrsAre.len_eq hx, Array.length_toList]
        have rd : ∀ (i : Nat) (v : Value), ys[i]? = some v → ∃ t x, xs[i]? = some x ∧ v = .str x t := fun i v hv => by
          obtain ⟨t, e⟩ := SS.strs_at hx i v (by rw [Array.getElem?_toList]; exact hv)
          have hi : i < xs.length := by rw [sz]; exact (Array.getElem?_eq_some_iff.mp hv).1
          exact ⟨t, xs[i], List.getElem?_eq_getElem hi, by rw [e, List.getD_eq_getElem?_getD, List.getElem?_eq_getElem hi]; rfl⟩
        refine put_texts ((Walks.tuple calm3 _ q qI ys).toS) s.heap.objs.size
          away xs sz (by omega) rd (ys.size - 0) 0 0 _ rfl (Nat.zero_le _) (Nat.zero_le _)
          ⟨⟨_, Heap.get?_push_size _ rfl, rfl, rfl⟩, (hl1.push _)⟩ ?start ?end_
        case start =>
          exact (SetTx.congr (newSet_tx w) (fun k => by simp [hasT]) rfl).at fun o e => Heap.get?_push_of_some _ e
        case end_ =>
          intro s' m hm hle hS'
          obtain ⟨h', g', d', tk', os'⟩ := s'
          cases (show g' = s.gens from hm.gens)
          cases (show d' = s.drawn from hm.drawn)
          cases (show os' = s.os from hm.os)
          show wpAny _ _ _ _ _ _
          refine wpAny_pure ?_
          show wpAny _ _ (ret Value.none) _ _ _
          refine wpAny_pure ⟨rfl, h', tk', m, rfl, by rw [sz]; exact hle, hS', fun b o hb e => ?_⟩
          have b1 : b ≠ s.heap.objs.size := Nat.ne_of_lt hb
          have b2 : b ≠ (s.heap.push (newSet w)).objs.size := by
            rw [z1]; exact Nat.ne_of_lt (Nat.lt_succ_of_lt hb)
          exact hm.heap b o (by simp only [List.mem_cons, List.mem_singleton, List.not_mem_nil, or_false, not_or]; exact ⟨b1, b2⟩) (Heap.get?_push_of_some _ (Heap.get?_push_of_some _ e))
      · cases r₂ with
        | error e => exact hr₂
        | ok fl₂ =>
          cases fl₂ with
          | ret r =>
            obtain ⟨rfl, h', tk, m, rfl, hle, hS', keep⟩ := hr₂
            repeat (any_goals (first | assumption | wp_step))
            exact k _ _ m hle hS' keep
          | _ => exact hr₂.elim
    | _ => exact hr.elim
end
end My
namespace My
open PySem PySem.W L2 PyProof.Rows
/-! ### told lists: texts with numbers, rising by the texts -/
theorem strict_ext {α : Type} {r : α → α → Prop} (irr : ∀ a, ¬ r a a) (tr : ∀ a b c, r a b → r b c → r a c) : ∀ {a b : List α}, a.Pairwise r → b.Pairwise r → (∀ x, x ∈ a ↔ x ∈ b) → a = b
  | [], [], _, _, _ => rfl
  | [], y :: ys, _, _, h => absurd ((h y).mpr List.mem_cons_self) (by simp)
  | x :: xs, [], _, _, h => absurd ((h x).mp List.mem_cons_self) (by simp)
  | x :: xs, y :: ys, hx, hy, h => by
    have hx' := List.pairwise_cons.mp hx
    have hy' := List.pairwise_cons.mp hy
    have e : x = y := by
      rcases List.mem_cons.mp ((h x).mp List.mem_cons_self) with z | z
      · exact z
      · rcases List.mem_cons.mp ((h y).mpr List.mem_cons_self) with z2 | z2
        · exact z2.symm
        · exact absurd (tr _ _ _ (hx'.1 y z2) (hy'.1 x z)) (irr x)
    subst e
    refine congrArg (x :: ·) (strict_ext irr tr hx'.2 hy'.2 fun z => ?_)
    constructor
    · intro hz
      rcases List.mem_cons.mp ((h z).mp (List.mem_cons_of_mem _ hz)) with q | q
      · exact absurd (by rw [q] at hz; exact hx'.1 x hz) (irr x)
      · exact q
    · intro hz
      rcases List.mem_cons.mp ((h z).mpr (List.mem_cons_of_mem _ hz)) with q | q
      · exact absurd (by rw [q] at hz; exact hy'.1 x hz) (irr x)
      · exact q
def sLt (x y : Str) : Prop := x.cps.toList < y.cps.toList
instance (x y : Str) : Decidable (sLt x y) := by unfold sLt; exact inferInstance
theorem sLt_irr (x : Str) : ¬ sLt x x := List.lt_irrefl _
theorem sLt_trans {x y z : Str} (h : sLt x y) (k : sLt y z) : sLt x z := List.lt_trans h k
theorem sLt_total (x y : Str) : sLt x y ∨ x = y ∨ sLt y x := by
  by_cases h : sLt x y
  · exact .inl h
  · by_cases k : sLt y x
    · exact .inr (.inr k)
    · exact .inr (.inl (str_of_cps (List.le_antisymm (List.not_lt.mp k) (List.not_lt.mp h))))
theorem dataLt_si (x x' : Str) (y y' : Int) : dataLt (.tuple [.str x, .int y]) (.tuple [.str x', .int y']) = decide (sLt x x' ∨ (x = x' ∧ y < y')) := by
  rw [dataLt_pair (by simp [alike]) (by simp [alike]), dataLt_str, dataLt_int]
  have e1 : PyData.eqv (.str x) (.str x') = decide (x = x') := by
    by_cases h : x = x'
    · subst h; simp [PyData.eqv]
    · simp [PyData.eqv, h]
  have e2 : PyData.eqv (.int y) (.int y') = decide (y = y') := by
    by_cases h : y = y'
    · subst h; simp [PyData.eqv]
    · simp [PyData.eqv, h]
  rw [e1, e2]
  by_cases h : x = x'
  · subst h
    have n := sLt_irr x
    by_cases h2 : y = y'
    · subst h2
      simp [n]
    · simp [h2, n]
  · by_cases h3 : sLt x x'
    · have h4 := h3
      unfold sLt at h4
      simp [h, h3, h4]
    · have h4 := h3
      unfold sLt at h4
      simp [h, h3, h4]
abbrev leSI (e f : Str × Int) : Bool := decide (sLt e.1 f.1 ∨ (e.1 = f.1 ∧ e.2 ≤ f.2))
theorem dataLe_si : dataLe false encSI = leSI := by
  funext e f
  show (!dataLt (.tuple [.str f.1, .int f.2]) (.tuple [.str e.1, .int e.2])) = _
  rw [dataLt_si]
  by_cases h : sLt f.1 e.1 ∨ (f.1 = e.1 ∧ f.2 < e.2)
  · have h' : ¬ (sLt e.1 f.1 ∨ (e.1 = f.1 ∧ e.2 ≤ f.2)) := by
      rintro (z | ⟨z, z2⟩)
      · rcases h with k | ⟨k, k2⟩
        · exact sLt_irr _ (sLt_trans z k)
        · rw [k] at z; exact sLt_irr _ z
      · rcases h with k | ⟨k, k2⟩
        · rw [z] at k; exact sLt_irr _ k
        · omega
    simp [h, leSI, h']
  · have h' : sLt e.1 f.1 ∨ (e.1 = f.1 ∧ e.2 ≤ f.2) := by
      rcases sLt_total e.1 f.1 with z | z | z
      · exact .inl z
      · refine .inr ⟨z, ?_⟩
        rcases Int.lt_or_le f.2 e.2 with k | k
        · exact absurd (.inr ⟨z.symm, k⟩) h
        · exact k
      · exact absurd (.inl z) h
    simp only [decide_eq_true h', leSI, decide_eq_false h, Bool.not_false]
theorem leSI_trans (a b c : Str × Int) (h : leSI a b = true) (k : leSI b c = true) : leSI a c = true := by
  have h1 := of_decide_eq_true h
  have k1 := of_decide_eq_true k
  refine decide_eq_true ?_
  rcases h1 with z | ⟨z, z2⟩
  · rcases k1 with w | ⟨w, w2⟩
    · exact .inl (sLt_trans z w)
    · rw [w] at z; exact .inl z
  · rcases k1 with w | ⟨w, w2⟩
    · rw [← z] at w; exact .inl w
    · exact .inr ⟨z.trans w, by omega⟩
theorem leSI_total (a b : Str × Int) : (leSI a b || leSI b a) = true := by
  rw [Bool.or_eq_true]
  rcases sLt_total a.1 b.1 with z | z | z
  · exact .inl (decide_eq_true (.inl z))
  · rcases Int.le_total a.2 b.2 with k | k
    · exact .inl (decide_eq_true (.inr ⟨z, k⟩))
    · exact .inr (decide_eq_true (.inr ⟨z.symm, k⟩))
  · exact .inr (decide_eq_true (.inl z))
/-- rising by the texts -/
def Told (M : List (Str × Int)) : Prop := M.Pairwise fun e f => sLt e.1 f.1
theorem told_of {L : List (Str × Int)} (hn : (L.map Prod.fst).Nodup) : Told (L.mergeSort (dataLe false encSI)) := by
  rw [dataLe_si]
  have hp : (L.mergeSort leSI).Perm L := List.mergeSort_perm _ _
  have hs := List.pairwise_mergeSort (le := leSI) leSI_trans leSI_total L
  have hn2 : ((L.mergeSort leSI).map Prod.fst).Nodup := ((hp.map Prod.fst).nodup_iff).mpr hn
  rw [List.Nodup, List.pairwise_map] at hn2
  refine (hs.and hn2).imp fun {e f} h => ?_
  rcases of_decide_eq_true h.1 with z | z
  · exact z
  · exact absurd z.1 h.2
theorem Told.unique {M N : List (Str × Int)} (h : Told M) (k : Told N) (e : ∀ x, x ∈ M ↔ x ∈ N) : M = N :=
  strict_ext (r := fun e f : Str × Int => sLt e.1 f.1) (fun a => sLt_irr _) (fun _ _ _ => sLt_trans) h k e
/-- texts alone -/
abbrev leS (x y : Str) : Bool := decide (x.cps.toList ≤ y.cps.toList)
theorem dataLe_s : dataLe false (fun x : Str => PyData.str x) = leS := dataLe_str fun x => x
theorem leS_trans (a b c : Str) (h : leS a b = true) (k : leS b c = true) : leS a c = true := decide_eq_true (List.le_trans (of_decide_eq_true h) (of_decide_eq_true k))
theorem leS_total (a b : Str) : (leS a b || leS b a) = true := by
  rw [Bool.or_eq_true]
  rcases List.le_total a.cps.toList b.cps.toList with z | z
  · exact .inl (decide_eq_true z)
  · exact .inr (decide_eq_true z)
theorem texts_of {L : List Str} (hn : L.Nodup) : (L.mergeSort leS).Pairwise sLt := by
  have hp : (L.mergeSort leS).Perm L := List.mergeSort_perm _ _
  have hs := List.pairwise_mergeSort (le := leS) leS_trans leS_total L
  refine (hs.and ((hp.nodup_iff).mpr hn)).imp fun {x y} h => ?_
  rcases sLt_total x y with z | z | z
  · exact z
  · exact absurd z h.2
  · exact absurd z (List.not_lt.mpr (of_decide_eq_true h.1))
end My
set_option maxHeartbeats 4000000
namespace My
open PySem PySem.Spec PyProof.Rows L2
/-! ### sorted(a set of texts), len of it -/
def textIn : Value → Str | .str x _ => x | _ => Str.empty
theorem each_text : ∀ l : List Value, (∀ v ∈ l, ∃ k tk, v = Value.str k tk) → PySem.W.EachIs (fun v b => ∃ t, v = Value.str b t) l (l.map textIn)
  | [], _ => .nil
  | v :: l, h => by
    obtain ⟨k, tk, rfl⟩ := h v List.mem_cons_self
    exact .cons ⟨tk, rfl⟩ (each_text l fun u hu => h u (List.mem_cons_of_mem _ hu))
theorem vals_text : ∀ {out : List Value} {M : List Str}, PySem.W.EachIs (fun v b => ∃ t, v = Value.str b t) out M → Vals (M.map V.str) out
  | _, _, .nil => .nil
  | _, _, .cons h t => .cons (show RelV _ _ from h) (vals_text t)
section
variable {P : Program} {w : World} {A : Around} {E : Value → Shared → Prop} {s : Shared} {a : Addr} {S : Str → Bool} {n : Nat}
theorem sorted_texts {Q : Value → Shared → Prop} (R : SetTx w s.heap a S n) (calm : A.handled = none) (small : n ≤ 100000) (hu : A.units + 64 < cLine)
    (hQ : ∀ s' p (out : Array Value) (c : Nat) (M : List Str), (∀ b o, s.heap.get? b = some o → s'.heap.get? b = some o) → s'.gens = s.gens → s'.os = s.os → s.heap.objs.size ≤ p →
      s'.heap.get? p = some (seqObj "list" out c) → Vals (M.map V.str) out.toList → M.Pairwise sLt → (∀ k, k ∈ M ↔ S k = true) → M.length = n → Q (.ref p) s') :
    wpAny (model P w) A (call (.builtin "sorted") [.ref a]) Q E s := by
  obtain ⟨o, es, ep, t, ho, hex, hd, g, nd, hm, ⟨hb, hf, hn⟩, hr, hl⟩ := R
  have line : n ≤ sizeLine := Nat.le_trans small (by decide)
  refine Calls.call_function_entry kind_sorted plain_sorted entry_sorted (args_sorted1 _) ?_
  unfold Builtin.«sorted»
  refine wpAny_bind (m := checkCount "sorted" 1 1 _) (wpAny_pure ?_)
  refine wpAny_bind (collect_set (A := A.in1) calm ⟨o, ho, hex.1, hd⟩ hf hb hr hl fun s1 vs k1 hz g1 o1 pm => ?_)
  have many : vs.length = n := by rw [pm.length_eq, List.length_map, Array.length_toList]; exact hn
  have each := each_text vs fun v hv => by
    obtain ⟨e, he, q⟩ := List.mem_map.mp (pm.mem_iff.mp hv)
    obtain ⟨k, tk, h1, _⟩ := g e he
    exact ⟨k, tk, by rw [← q]; exact h1⟩
  have pk : (vs.map textIn).Perm (es.toList.map txtOf) := by
    have q := pm.map textIn
    rw [List.map_map] at q
    exact q
  have nd2 : (vs.map textIn).Nodup := pk.nodup_iff.mpr nd
  refine wpAny_bind (wpAny_newList ?_ (by rw [many]; exact line))
  have laid : (s1.heap.push (seqObj "list" vs.toArray 0)).get? s1.heap.objs.size = some (seqObj "list" vs.toArray 0) := Heap.get?_push_size _ rfl
  refine wpAny_bind (wpAny_holding (PySem.W.list_sort_data (s := { s1 with heap := s1.heap.push (seqObj "list" vs.toArray 0) }) (enc := PyData.str) (bs := vs.map textIn) laid each (each.mono fun v b ⟨t, e⟩ => ⟨[], by rw [e]; exact .str _ _, by simp⟩) ?_ ?_ ?_ ?_ fun out len outs => ?_))
  · intro d hd d' hd'
    obtain ⟨x, _, rfl⟩ := List.mem_map.mp hd
    obtain ⟨y, _, rfl⟩ := List.mem_map.mp hd'
    rfl
  · exact .others (enc := PyData.str) fun b => ⟨fun z => (by cases z), fun xs z => (by cases z)⟩
  · rw [List.length_map, many]; exact line
  · intro b _
    show A.units + 1 + 1 + 0 < cLine
    omega
  · obtain ⟨c, hc⟩ := sortedHeap_at (vs := vs) (out := out.toArray) laid
    rw [show PySem.W.dataLe false PyData.str = leS from dataLe_s] at outs
    have pn : ((vs.map textIn).mergeSort leS).Perm (es.toList.map txtOf) := (List.mergeSort_perm _ _).trans pk
    refine wpAny_pure ⟨_, rfl, hQ _ s1.heap.objs.size out.toArray c ((vs.map textIn).mergeSort leS) (fun b u e => ?_) g1 o1 hz hc (by simpa using vals_text outs) (texts_of nd2) (fun k => by rw [pn.mem_iff, ← hm k]) ?_⟩
    · have q := k1 b u e
      have hlt := Heap.lt_size q
      show (sortedHeap (s1.heap.push (seqObj "list" vs.toArray 0)) s1.heap.objs.size vs out.toArray).get? b = some u
      rw [sortedHeap_old (Nat.ne_of_lt hlt) (by rw [size_push']; exact Nat.lt_succ_of_lt hlt)]
      exact Heap.get?_push_of_some _ q
    · rw [pn.length_eq, List.length_map, Array.length_toList]; exact hn
end
/-- a set of texts in the heap -/
def TxO (w : World) (a : Addr) (S : Str → Bool) (n : Nat) : HO := .ext fun h => SetTx w h a S n
section
variable {X : Cx}
theorem txO_new {w : World} {P : Program} {H : Hp} {h : Heap} {a : Addr} {S : Str → Bool} {n : Nat} (R : SetTx w h a S n) : ObjOk P w H h a (TxO w a S n) := by
  have ⟨o, _, _, _, ho, _⟩ := R
  exact ⟨R, ⟨o, ho⟩, fun _ _ p k => SetTx.at p k⟩
theorem txO_get {pins : List (Addr × Obj)} {σ : L2.St} {H : Hp} {s : Shared} {a : Addr} {S : Str → Bool} {n : Nat} (I : Inv X pins σ H s) (ha : H a = some (TxO X.w a S n)) : SetTx X.w s.heap a S n := (I.hok a _ ha).1
/-- sorted(found) -/
def rSortTx (w : World) : List V → Hp → VK → Prop := fun vs H Q => ∃ (a : Addr) (S : Str → Bool) (n : Nat), vs = [V.ref a] ∧ H a = some (TxO w a S n) ∧ n ≤ 100000 ∧
  ∀ (M : List Str) (p : Addr), M.Pairwise sLt → (∀ k : Str, k ∈ M ↔ S k = true) → M.length = n → H p = none → Q (.ref p) (upd H p (.lst (M.map V.str)))
theorem cr_sortTx (hc : X.calm = true) (hu : X.A.units + 64 < cLine) : CallR X (.builtin "sorted") (rSortTx X.w) := by
  intro pins s σ H vs us Q I r h
  obtain ⟨a, S, n, rfl, ha, small, q⟩ := h
  have R := txO_get I ha
  rw [Vals.ref1 r]
  refine sorted_texts R (I.ok.hd hc) small hu fun s' p out c M k g o hp hg hv hs hm hl => ?_
  have line : (M.map V.str).length ≤ sizeLine := by rw [List.length_map, hl]; exact Nat.le_trans small (by decide)
  have free : H p = none := I.hok.fresh hp
  have J : Inv X pins σ (upd H p (.lst (M.map V.str))) { s with heap := s'.heap, gens := s'.gens, drawn := s'.drawn, toks := s'.toks } :=
    I.call (ch := []) (Un.laid k hp free) (I.hok.laid k hp ⟨line, out.toList, c, hv, hg⟩) (by rw [g]; exact I.bare) (fun _ z => nomatch z)
  have same : s' = { s with heap := s'.heap, gens := s'.gens, drawn := s'.drawn, toks := s'.toks } := by
    cases s'
    cases s
    cases o
    rfl
  rw [same]
  exact ⟨.ref p, _, J, rfl, q M p hs hm hl free⟩
/-- len(found) -/
theorem cr_lenTx : CallR X (.builtin "len") (fun vs H Q => ∃ (a : Addr) (S : Str → Bool) (n : Nat), vs = [V.ref a] ∧ H a = some (TxO X.w a S n) ∧ n ≤ 100000 ∧ Q (.int (n : Int)) H) := by
  intro pins s σ H vs us Q I r h
  obtain ⟨a, S, n, rfl, ha, small, q⟩ := h
  obtain ⟨o, es, ep, t, ho, hex, hd, _, _, _, ⟨_, hf, hn⟩, _⟩ := txO_get I ha
  rw [Vals.ref1 r]
  exact call_len_set ho hex hd hf (by rw [hn]; omega) ⟨.int (n : Int), H, I.tok _, ⟨_, by rw [hn]⟩, q⟩
end
end My
set_option maxHeartbeats 4000000
namespace My
open PySem PySem.Spec PyProof.Rows L2
/-! ### sets of whole numbers -/
def inI (xs : List Int) : Int → Bool := fun j => decide (j ∈ xs)
section
variable {prog : Program} {w : World} {A : Around} {E : Value → Shared → Prop} {s : Shared}
theorem set_of_ints {q : Addr} {ys : Array Value} {xs : List Int} {Q : Value → Shared → Prop}
    (calm : A.handled = none) (hq : s.heap.IsList q ys) (hx : PyProof.Rows.IntsAre ys.toList xs) (few : xs.length + 1 < scanBound)
    (k : ∀ (h' : Heap) (tk m : Nat), m ≤ xs.length → SetR w h' s.heap.objs.size (inI xs) m →
      (∀ b o, b < s.heap.objs.size → s.heap.get? b = some o → h'.get? b = some o) → Q (.ref s.heap.objs.size) { s with heap := h', toks := tk }) :
    wpAny (model prog w) A (call (.type "set") [.ref q]) Q E s := by
  obtain ⟨c, tl, hmro⟩ := PySem.F.called_set.mro
  have hmade := PySem.F.called_set.made
  have hsub := PySem.F.called_set.sub
  refine wpAny_call (codeAny_of_tree ?_)
  show wpAny _ _ (callAny (.type "set") _) _ _ _
  refine wpAny_pure ⟨Code.quiet_builtin _ (by decide +kernel), codeAny_builtin PySem.F.entry_type_call ?_⟩
  rw [Around.under_plain (weight_type_call_type "set" [.ref q] []) rfl]
  have h1 := PySem.F.called_set.notType
  have h2 := PySem.F.called_set.canCreate
  have hct := PySem.F.typeCall_set_1 (.ref q)
  repeat (any_goals (first | assumption | wp_step))
  refine codeAny_mono (set_made (w := w) (.ref q) (E := E) (Q₁ := fun obj s₁ => obj = .ref s.heap.objs.size ∧ s₁ = { s with heap := s.heap.push (newSet w) }) ⟨rfl, rfl⟩) fun r s₁ hr => ?_
  cases r with
  | error e => exact hr
  | ok fl =>
    cases fl with
    | ret obj =>
      obtain ⟨rfl, rfl⟩ := hr
      have hS : (s.heap.push (newSet w)).get? s.heap.objs.size = some (newSet w) := Heap.get?_push_size _ rfl
      have hT : Shared.TypeIs { s with heap := s.heap.push (newSet w) } (.ref s.heap.objs.size) "set" := ⟨_, hS, rfl⟩
      have hli := PySem.F.called_set.init.lookup
      have hbi := PySem.F.called_set.init.bind (.ref s.heap.objs.size)
      repeat (any_goals (first | assumption | wp_step))
      refine codeAny_mono (codeAny_call_builtin (R := wants (fun r s₂ => r = .none ∧ ∃ h' tk m, s₂ = { s with heap := h', toks := tk } ∧ m ≤ xs.length ∧
          SetR w h' s.heap.objs.size (inI xs) m ∧
          (∀ b o, b < s.heap.objs.size → s.heap.get? b = some o → h'.get? b = some o)) E) PySem.F.called_set.init.plain PySem.F.entry_set_init (check_set_init_1 hT ?_)) fun r₂ s₂ hr₂ => ?_
      · obtain ⟨ol, hol, hcl, nl, hdl⟩ := hq
        obtain ⟨ocls, odict, odata, oslots⟩ := ol
        simp only at hcl hdl
        subst hcl; subst hdl
        have hol' : (s.heap.push (newSet w)).get? q = some { cls := .type "list", dict := odict, data := .seq ys nl, slots := oslots } := Heap.get?_push_of_some _ hol
        have hsls := PySem.F.sub_list_set
        have hslf := PySem.F.sub_list_frozenset
        have hne : (Value.type "list" == Value.type "dict") = false := by decide
        have hl1 : (s.heap.push (newSet w)).IsList q ys := ⟨_, hol', rfl, nl, rfl⟩
        unfold Builtin.«set.__init__» noKeywords Builtin.Frozenset.updateFrom
        generalize hPI : pyIter = PI
        wp_walk
        subst hPI
        refine wpAny_pyIter_list hl1 (wpAny_bind (wpAny_runValue ?_))
        have qS : q < s.heap.objs.size := Heap.lt_size hol
        have calm3 : A.in1.in1.in1.handled = none := by simp [calm]
        have z1 : (s.heap.push (newSet w)).objs.size = s.heap.objs.size + 1 := Heap.size_push ..
        have qI : q ≠ (s.heap.push (newSet w)).objs.size := by
          rw [z1]; exact Nat.ne_of_lt (Nat.lt_succ_of_lt qS)
        have away : s.heap.objs.size ∉ [(s.heap.push (newSet w)).objs.size, q] := by
          rw [z1]; simp only [List.mem_cons, List.mem_singleton, List.not_mem_nil, or_false, not_or]
          exact ⟨Nat.ne_of_lt (Nat.lt_succ_self _), Nat.ne_of_gt qS⟩
        have sz : ys.size = xs.length := by
          have q := PyProof.Rows.IntsAre.length hx
          rw [Array.length_toList] at q
          exact q
        have rd : ∀ (i : Nat) (v : Value), ys[i]? = some v → ∃ k t, xs[i]? = some k ∧ v = .int k t := fun i v hv => by
          have hi : i < xs.length := by rw [← sz]; exact (Array.getElem?_eq_some_iff.mp hv).1
          obtain ⟨t, e⟩ := PyProof.Rows.IntsAre.int_at hx i v (by rw [Array.getElem?_toList]; exact hv)
          refine ⟨xs[i], t, List.getElem?_eq_getElem hi, ?_⟩
          rw [e, List.getD_eq_getElem?_getD, List.getElem?_eq_getElem hi] <;> rfl
        refine L2.set_update_ints ((Walks.list calm3 _ q qI ys).toS) s.heap.objs.size
          away xs sz few rd (ys.size - 0) 0 _ (by omega) (Nat.zero_le _)
          ⟨⟨_, Heap.get?_push_size _ rfl, rfl, rfl⟩, (hl1.push _)⟩ ?start ?end_
        case start =>
          exact ⟨0, Nat.le_refl 0, setR_new_at (Heap.get?_push_of_some _ hS)⟩
        case end_ =>
          intro s' m hm hle hS'
          obtain ⟨h', g', d', tk', os'⟩ := s'
          cases (show g' = s.gens from hm.gens)
          cases (show d' = s.drawn from hm.drawn)
          cases (show os' = s.os from hm.os)
          show wpAny _ _ _ _ _ _
          refine wpAny_pure ?_
          show wpAny _ _ (ret Value.none) _ _ _
          refine wpAny_pure ⟨rfl, h', tk', m, rfl, by rw [← sz]; exact hle, hS', fun b o hb e => ?_⟩
          have b1 : b ≠ s.heap.objs.size := Nat.ne_of_lt hb
          have b2 : b ≠ (s.heap.push (newSet w)).objs.size := by
            rw [z1]; exact Nat.ne_of_lt (Nat.lt_succ_of_lt hb)
          exact hm.heap b o (by simp only [List.mem_cons, List.mem_singleton, List.not_mem_nil, or_false, not_or]; exact ⟨b1, b2⟩) (Heap.get?_push_of_some _ (Heap.get?_push_of_some _ e))
      · cases r₂ with
        | error e => exact hr₂
        | ok fl₂ =>
          cases fl₂ with
          | ret r =>
            obtain ⟨rfl, h', tk, m, rfl, hle, hS', keep⟩ := hr₂
            repeat (any_goals (first | assumption | wp_step))
            exact k _ _ m hle hS' keep
          | _ => exact hr₂.elim
    | _ => exact hr.elim
set_option maxHeartbeats 3200000 in

theorem ints_many {w : World} {h : Heap} {a : Addr} {xs : List Int} {n : Nat} (R : SetR w h a (inI xs) n) (D : List Int) (hD : D.Nodup) (hm : ∀ k, k ∈ D ↔ k ∈ xs) : D.length = n := by
  obtain ⟨o, es, ep, t, _, _, _, _, nd, hS, _, _, hn, _⟩ := R
  have p : D.Perm (es.toList.map keyOf) := (List.perm_ext_iff_of_nodup hD nd).mpr fun k => by
    rw [hm, ← hS k]
    unfold inI
    rw [decide_eq_true_iff]
  rw [p.length_eq, List.length_map, Array.length_toList, hn]
end
def InO (w : World) (a : Addr) (S : Int → Bool) (n : Nat) : HO := .ext fun h => SetR w h a S n
section
variable {X : Cx}
theorem inO_new {w : World} {P : Program} {H : Hp} {h : Heap} {a : Addr} {S : Int → Bool} {n : Nat} (R : SetR w h a S n) : ObjOk P w H h a (InO w a S n) := by
  have ⟨o, _, _, _, ho, _⟩ := R
  exact ⟨R, ⟨o, ho⟩, fun _ _ p k => SetR.at p k⟩
theorem inO_get {pins : List (Addr × Obj)} {σ : L2.St} {H : Hp} {s : Shared} {a : Addr} {S : Int → Bool} {n : Nat} (I : Inv X pins σ H s) (ha : H a = some (InO X.w a S n)) : SetR X.w s.heap a S n := (I.hok a _ ha).1
def rSetIn (K : PySem.W.Frag) (w : World) : List V → Hp → VK → Prop := fun vs H Q => ∃ (l : Addr) (xs : List Int), vs = [V.ref l] ∧ SqL K H l (xs.map V.int) ∧ xs.length ≤ 1000 ∧
  ∀ (p : Addr) (n : Nat), (∀ D : List Int, D.Nodup → (∀ k, k ∈ D ↔ k ∈ xs) → D.length = n) → n ≤ xs.length → H p = none → Q (.ref p) (upd H p (InO w p (inI xs) n))
theorem cr_setIn (hc : X.calm = true) : CallR X (.type "set") (rSetIn X.K X.w) := by
  intro pins s σ H vs us Q I r h
  obtain ⟨l, xs, rfl, hq, small, q⟩ := h
  rw [Vals.ref1 r]
  have few : xs.length + 1 < scanBound := by unfold scanBound; omega
  obtain ⟨its, rv, pl, hz⟩ := I.list hq
  exact set_of_ints (I.ok.hd hc) pl.isList (by simpa using ints_of_vals rv) few fun h' tk m hle R keep =>
    ⟨.ref _, upd H s.heap.objs.size (InO X.w s.heap.objs.size (inI xs) m), I.laid (t' := tk) (fun b u e => keep b u (Heap.lt_size e) e) (Nat.le_refl _) (inO_new R), rfl, q _ m (ints_many R) hle (I.hok.fresh (Nat.le_refl _))⟩
def rSortIn (w : World) : List V → Hp → VK → Prop := fun vs H Q => ∃ (a : Addr) (S : Int → Bool) (n : Nat), vs = [V.ref a] ∧ H a = some (InO w a S n) ∧ n < 64 ∧
  ∀ (M : List Int) (p : Addr), M.Pairwise (· < ·) → (∀ k : Int, k ∈ M ↔ S k = true) → M.length = n → H p = none → Q (.ref p) (upd H p (.lst (M.map V.int)))
theorem cr_sortIn (hc : X.calm = true) : CallR X (.builtin "sorted") (rSortIn X.w) := by
  intro pins s σ H vs us Q I r h
  obtain ⟨a, S, n, rfl, ha, small, q⟩ := h
  have R := inO_get I ha
  rw [Vals.ref1 r]
  refine L2.sorted_set R (I.ok.hd hc) small fun s' p out c M k g o hp hg hv hs hm hl => ?_
  have line : (M.map V.int).length ≤ sizeLine := by rw [List.length_map, hl]; exact Nat.le_trans (Nat.le_of_lt small) (by decide)
  have free : H p = none := I.hok.fresh hp
  have J : Inv X pins σ (upd H p (.lst (M.map V.int))) { s with heap := s'.heap, gens := s'.gens, drawn := s'.drawn, toks := s'.toks } :=
    I.call (ch := []) (Un.laid k hp free) (I.hok.laid k hp ⟨line, out.toList, c, vals_of_ints hv, hg⟩) (by rw [g]; exact I.bare) (fun _ z => nomatch z)
  have same : s' = { s with heap := s'.heap, gens := s'.gens, drawn := s'.drawn, toks := s'.toks } := by
    cases s'
    cases s
    cases o
    rfl
  rw [same]
  exact ⟨.ref p, _, J, rfl, q M p hs hm hl free⟩
theorem cr_lenIn : CallR X (.builtin "len") (fun vs H Q => ∃ (a : Addr) (S : Int → Bool) (n : Nat), vs = [V.ref a] ∧ H a = some (InO X.w a S n) ∧ n ≤ 100000 ∧ Q (.int (n : Int)) H) := by
  intro pins s σ H vs us Q I r h
  obtain ⟨a, S, n, rfl, ha, small, q⟩ := h
  obtain ⟨o, es, ep, t, ho, hex, hd, _, _, _, _, hf, hn, _⟩ := inO_get I ha
  rw [Vals.ref1 r]
  exact call_len_set ho hex hd hf (by rw [hn]; omega) ⟨.int (n : Int), H, I.tok _, ⟨_, by rw [hn]⟩, q⟩
end
end My
/-! repr of whatever reads as data, and of a dict without items -/
namespace My
open PySem PySem.Spec PyProof.Rows L2
def Shows (K : PySem.W.Frag) (H : Hp) (v : V) (d : PyData) : Prop := Dp K H v d ∨ (d = .dict [] ∧ ∃ a, v = .ref a ∧ H a = some (.dK []))
section
variable {X : Cx}
theorem call_repr_any (quiet : X.A.guards = some []) (hu : X.A.units + 70 < cLine) : CallR X (.builtin "repr") (fun xs H Q => ∃ v d, xs = [v] ∧ Shows X.K H v d ∧ d.showable = true ∧ (d.hasDict = true → d = .dict []) ∧ d.depth ≤ 60 ∧ d.shown.length ≤ sizeLine ∧ Q (.str d.shown) H) := by
  intro pins s σ H xs us Q I r h
  obtain ⟨v, d, rfl, hd, hs, hnd, hdp, hz, q⟩ := h
  obtain ⟨u, rfl, e⟩ := vals1 r
  rcases hd with hd | ⟨rfl, a, rfl, ha⟩
  · have hn : d.hasDict = false := by
      cases c : d.hasDict with
      | false => rfl
      | true =>
        have := hnd c
        subst this
        cases hd
    cases v with
    | ref a =>
      cases e
      obtain ⟨as, rd⟩ := Dp.reads I d _ _ hd (rfl : RelV (.ref a) (.ref a))
      exact repr_of_reads' rd hs (PyData.noDict_hsm hn) quiet (by omega) (fun _ _ e => e) (fun h' u tk hk => ⟨.str _, H, I.kept hk, ⟨_, rfl⟩, q⟩) hz
    | non =>
      cases e
      cases hd
      exact PySem.P.repr_of_none ⟨.str _, H, I.tok _, ⟨_, rfl⟩, q⟩
    | bl b =>
      cases e
      cases hd
      have e2 : PyData.shown (.bool b) = (if b = true then Str.ofString "True" else Str.ofString "False") := by cases b <;> rfl
      rw [e2] at q
      exact PySem.P.repr_of_bool ⟨.str _, H, I.tok _, ⟨_, rfl⟩, q⟩
    | int i =>
      obtain ⟨t, rfl⟩ := e
      cases hd
      exact PySem.P.repr_of_int (by simpa [PyData.showable] using hs) ⟨.str _, H, I.tok _, ⟨_, rfl⟩, q⟩
    | str x =>
      obtain ⟨t, rfl⟩ := e
      cases hd
      exact PySem.P.repr_of_str ⟨.str _, H, I.tok _, ⟨_, rfl⟩, q⟩ (by simpa only [PyData.shown] using hz)
    | _ => cases hd
  · cases e
    obtain ⟨_, lo, vs, kv, o, es, ep, h1, h2, h3, _, h5, _⟩ := dk_of I.hok ha
    cases kv
    have hes : es.toList = [] := by
      cases hh : es.toList with
      | nil => rfl
      | cons a b =>
        rw [hh] at h5
        cases h5
    have rd : Reads s.heap (.ref a) (.dict []) (a :: [] ++ []) := .dict h1 h2.1 h3 (by rw [hes]; exact .nil) (by rw [hes]; exact .nil)
    refine repr_of_reads' rd hs (fun _ hm => ?_) quiet (by omega) (fun _ _ e => e) (fun h' u tk hk => ⟨.str _, H, I.kept hk, ⟨_, rfl⟩, q⟩) hz
    have := List.mem_singleton.mp hm
    rw [← this] at lo
    simp at lo
end
end My
namespace My
/-! ### webs: ties, walks by their lengths -/
def Edge (ts : List (Nat × Nat)) (W : List Nat) (u v : Nat) : Prop := ∃ i, ts[i]? = some (u, v) ∧ i ∉ W
inductive Wk (E : Nat → Nat → Prop) : Nat → Nat → Nat → Prop where
  | nil (u : Nat) : Wk E 0 u u
  | snoc {k u x v : Nat} : Wk E k u x → E x v → Wk E (k + 1) u v
theorem wk_zero {E : Nat → Nat → Prop} {u v : Nat} (h : Wk E 0 u v) : v = u := by cases h; rfl
theorem wk_succ {E : Nat → Nat → Prop} {k u v : Nat} (h : Wk E (k + 1) u v) : ∃ x, Wk E k u x ∧ E x v := by
  cases h with
  | snoc a b => exact ⟨_, a, b⟩
theorem wk_append {E : Nat → Nat → Prop} {j k u x v : Nat} (a : Wk E j u x) (b : Wk E k x v) : Wk E (j + k) u v := by
  induction b with
  | nil => exact a
  | snoc _ e ih => exact .snoc (ih a) e
theorem wk_split {E : Nat → Nat → Prop} {u v : Nat} : ∀ (k j : Nat), Wk E (j + k) u v → ∃ x, Wk E j u x ∧ Wk E k x v
  | 0, j, h => ⟨v, h, .nil v⟩
  | k + 1, j, h => by
    obtain ⟨y, h1, h2⟩ := wk_succ (show Wk E ((j + k) + 1) u v from h)
    obtain ⟨x, h3, h4⟩ := wk_split k j h1
    exact ⟨x, h3, .snoc h4 h2⟩
def Rch (E : Nat → Nat → Prop) (u v : Nat) : Prop := ∃ k, Wk E k u v
/-- few numbers below N -/
theorem few {N : Nat} : ∀ {L : List Nat}, L.Nodup → (∀ x ∈ L, x < N) → L.length ≤ N := by
  induction N with
  | zero =>
    intro L _ h
    cases L with
    | nil => simp
    | cons a r => exact absurd (h a List.mem_cons_self) (by omega)
  | succ N ih =>
    intro L hn h
    by_cases c : N ∈ L
    · have h1 := ih (L := L.erase N) (hn.erase N) fun x hx => by
        have h2 := (List.Nodup.mem_erase_iff hn).mp hx
        have := h x h2.2
        have := h2.1
        omega
      rw [List.length_erase_of_mem c] at h1
      omega
    · have h1 := ih hn fun x hx => by
        have := h x hx
        have : x ≠ N := fun z => c (by rw [← z]; exact hx)
        omega
      omega
/-! ### coming to -/
structure RInv (E : Nat → Nat → Prop) (s : Nat) (seen waiting : List Nat) : Prop where
  nd : seen.Nodup
  st : s ∈ seen
  sub : ∀ x ∈ waiting, x ∈ seen
  ok : ∀ x ∈ seen, Rch E s x
  cl : ∀ u ∈ seen, u ∉ waiting → ∀ v, E u v → v ∈ seen
/-- while the ties from one place are gone through; D: those that were -/
structure RMid (E : Nat → Nat → Prop) (s here : Nat) (D : Nat → Prop) (seen waiting : List Nat) : Prop where
  nd : seen.Nodup
  st : s ∈ seen
  hh : here ∈ seen
  sub : ∀ x ∈ waiting, x ∈ seen
  ok : ∀ x ∈ seen, Rch E s x
  cl : ∀ u ∈ seen, u ∉ waiting → u ≠ here → ∀ v, E u v → v ∈ seen
  dn : ∀ v, D v → v ∈ seen
theorem r_start {E : Nat → Nat → Prop} (s : Nat) : RInv E s [s] [s] := by
  refine ⟨by simp, by simp, fun x h => h, fun x h => ?_, fun u h hn => absurd h hn⟩
  rw [List.mem_singleton.mp h]
  exact ⟨0, .nil s⟩
theorem r_pop {E : Nat → Nat → Prop} {s : Nat} {seen w : List Nat} {here : Nat} (h : RInv E s seen (w ++ [here])) : RMid E s here (fun _ => False) seen w := by
  refine ⟨h.nd, h.st, h.sub here (by simp), fun x hx => h.sub x (by simp [hx]), h.ok, fun u hu hn hne v hv => ?_, fun v hv => hv.elim⟩
  refine h.cl u hu (fun hm => ?_) v hv
  rcases List.mem_append.mp hm with z | z
  · exact hn z
  · exact hne (List.mem_singleton.mp z)
theorem r_new {E : Nat → Nat → Prop} {s here v : Nat} {D D' : Nat → Prop} {seen w : List Nat} (h : RMid E s here D seen w) (e : E here v) (hv : v ∉ seen) (hD : ∀ x, D' x → D x ∨ x = v) : RMid E s here D' (seen ++ [v]) (w ++ [v]) := by
  refine ⟨?_, by simp [h.st], by simp [h.hh], fun x hx => ?_, fun x hx => ?_, fun u hu hn hne x hx => ?_, fun x hx => ?_⟩
  · rw [List.nodup_append]
    exact ⟨h.nd, by simp, fun a ha b hb => by rw [List.mem_singleton.mp hb]; rintro rfl; exact hv ha⟩
  · rcases List.mem_append.mp hx with z | z
    · exact List.mem_append_left _ (h.sub x z)
    · exact List.mem_append_right _ z
  · rcases List.mem_append.mp hx with z | z
    · exact h.ok x z
    · rw [List.mem_singleton.mp z]
      obtain ⟨k, hk⟩ := h.ok here h.hh
      exact ⟨k + 1, .snoc hk e⟩
  · rcases List.mem_append.mp hu with z | z
    · exact List.mem_append_left _ (h.cl u z (fun m => hn (List.mem_append_left _ m)) hne x hx)
    · exact absurd (List.mem_append_right _ z) hn
  · rcases hD x hx with z | z
    · exact List.mem_append_left _ (h.dn x z)
    · rw [z]; simp
theorem r_old {E : Nat → Nat → Prop} {s here : Nat} {D D' : Nat → Prop} {seen w : List Nat} (h : RMid E s here D seen w) (hD : ∀ x, D' x → D x ∨ x ∈ seen) : RMid E s here D' seen w :=
  ⟨h.nd, h.st, h.hh, h.sub, h.ok, h.cl, fun x hx => (hD x hx).elim (h.dn x) id⟩
theorem r_done {E : Nat → Nat → Prop} {s here : Nat} {D : Nat → Prop} {seen w : List Nat} (h : RMid E s here D seen w) (hD : ∀ v, E here v → D v) : RInv E s seen w := by
  refine ⟨h.nd, h.st, h.sub, h.ok, fun u hu hn v hv => ?_⟩
  by_cases c : u = here
  · subst c
    exact h.dn v (hD v hv)
  · exact h.cl u hu hn c v hv
theorem r_end {E : Nat → Nat → Prop} {s : Nat} {seen : List Nat} (h : RInv E s seen []) (x : Nat) : x ∈ seen ↔ Rch E s x := by
  refine ⟨h.ok x, ?_⟩
  rintro ⟨k, hk⟩
  induction k generalizing x with
  | zero => rw [wk_zero hk]; exact h.st
  | succ k ih =>
    obtain ⟨y, h1, h2⟩ := wk_succ hk
    exact h.cl y (ih y h1) (by simp) x h2
/-! ### the fewest ties, by levels -/
def Few (E : Nat → Nat → Prop) (a b D : Nat) : Prop := 1 ≤ D ∧ Wk E D a b ∧ ∀ k, 1 ≤ k → k < D → ¬ Wk E k a b
structure Lev (E : Nat → Nat → Prop) (a b m : Nat) (here met : List Nat) : Prop where
  mt : ∀ x, x ∈ met ↔ ∃ j, 1 ≤ j ∧ j ≤ m ∧ Wk E j a x
  hr : ∀ x, x ∈ here ↔ Wk E m a x ∧ ∀ j, 1 ≤ j → j < m → ¬ Wk E j a x
  no : b ∉ met
  nd : met.Nodup
theorem lev_start {E : Nat → Nat → Prop} (a b : Nat) : Lev E a b 0 [a] [] := by
  refine ⟨fun x => ⟨fun h => by simp at h, fun ⟨j, h1, h2, _⟩ => by omega⟩, fun x => ⟨fun h => ?_, fun h => ?_⟩, by simp, by simp⟩
  · rw [List.mem_singleton.mp h]
    exact ⟨.nil a, fun j h1 h2 => by omega⟩
  · rw [wk_zero h.1]
    simp
/-- the next level, by what it holds -/
theorem lev_next {E : Nat → Nat → Prop} {a b m : Nat} {here met met' later : List Nat} (h : Lev E a b m here met) (h1 : ∀ x, x ∈ met' ↔ x ∈ met ∨ ∃ u ∈ here, E u x) (h2 : ∀ x, x ∈ later ↔ x ∉ met ∧ ∃ u ∈ here, E u x) :
    (∀ x, x ∈ met' ↔ ∃ j, 1 ≤ j ∧ j ≤ m + 1 ∧ Wk E j a x) ∧ (∀ x, x ∈ later ↔ Wk E (m + 1) a x ∧ ∀ j, 1 ≤ j → j < m + 1 → ¬ Wk E j a x) := by
  have key : ∀ x, Wk E (m + 1) a x → x ∈ met ∨ ∃ u ∈ here, E u x := fun x hx => by
    obtain ⟨u, hu, e⟩ := wk_succ hx
    by_cases c : u ∈ here
    · exact .inr ⟨u, c, e⟩
    · left
      rw [h.hr] at c
      have c2 : ∃ j, 1 ≤ j ∧ j < m ∧ Wk E j a u := by
        by_cases c3 : ∃ j, 1 ≤ j ∧ j < m ∧ Wk E j a u
        · exact c3
        · exact absurd ⟨hu, fun j g1 g2 g3 => c3 ⟨j, g1, g2, g3⟩⟩ c
      obtain ⟨j, g1, g2, g3⟩ := c2
      exact (h.mt x).mpr ⟨j + 1, by omega, by omega, .snoc g3 e⟩
  have here_wk : ∀ x, (∃ u ∈ here, E u x) → Wk E (m + 1) a x := fun x ⟨u, hu, e⟩ => .snoc ((h.hr u).mp hu).1 e
  constructor
  · intro x
    rw [h1]
    constructor
    · rintro (hx | hx)
      · obtain ⟨j, g1, g2, g3⟩ := (h.mt x).mp hx
        exact ⟨j, g1, by omega, g3⟩
      · exact ⟨m + 1, by omega, by omega, here_wk x hx⟩
    · rintro ⟨j, g1, g2, g3⟩
      by_cases c : j ≤ m
      · exact .inl ((h.mt x).mpr ⟨j, g1, c, g3⟩)
      · have e : j = m + 1 := by omega
        subst e
        exact key x g3
  · intro x
    rw [h2]
    constructor
    · rintro ⟨hx, hu⟩
      exact ⟨here_wk x hu, fun j g1 g2 g3 => hx ((h.mt x).mpr ⟨j, g1, by omega, g3⟩)⟩
    · rintro ⟨g1, g2⟩
      have hx : x ∉ met := fun hm => by
        obtain ⟨j, k1, k2, k3⟩ := (h.mt x).mp hm
        exact g2 j k1 (by omega) k3
      exact ⟨hx, (key x g1).resolve_left hx⟩
theorem lev_few {E : Nat → Nat → Prop} {a b m : Nat} {here met met' : List Nat} (h : Lev E a b m here met) (h1 : ∀ x, x ∈ met' ↔ ∃ j, 1 ≤ j ∧ j ≤ m + 1 ∧ Wk E j a x) (hb : b ∈ met') : Few E a b (m + 1) := by
  obtain ⟨j, g1, g2, g3⟩ := (h1 b).mp hb
  have old : ∀ k, 1 ≤ k → k ≤ m → ¬ Wk E k a b := fun k k1 k2 k3 => h.no ((h.mt b).mpr ⟨k, k1, k2, k3⟩)
  have e : j = m + 1 := by
    rcases Nat.lt_or_ge m j with z | z
    · omega
    · exact absurd g3 (old j g1 z)
  subst e
  exact ⟨by omega, g3, fun k k1 k2 => old k k1 (by omega)⟩
theorem lev_none {E : Nat → Nat → Prop} {a b m : Nat} {met : List Nat} (h : Lev E a b m [] met) : ∀ k, 1 ≤ k → ¬ Wk E k a b := by
  intro k
  induction k using Nat.strongRecOn with
  | _ k ih =>
    intro k1 hk
    by_cases c : k ≤ m
    · exact h.no ((h.mt b).mpr ⟨k, k1, c, hk⟩)
    · obtain ⟨u, h1, h2⟩ := wk_split (k - m) m (by rw [show m + (k - m) = k by omega]; exact hk)
      have hu : u ∉ ([] : List Nat) := by simp
      rw [h.hr] at hu
      have c2 : ∃ j, 1 ≤ j ∧ j < m ∧ Wk E j a u := by
        by_cases c3 : ∃ j, 1 ≤ j ∧ j < m ∧ Wk E j a u
        · exact c3
        · exact absurd ⟨h1, fun j g1 g2 g3 => c3 ⟨j, g1, g2, g3⟩⟩ hu
      obtain ⟨j, g1, g2, g3⟩ := c2
      exact ih (j + (k - m)) (by omega) (by omega) (wk_append g3 h2)
theorem few_unique {E : Nat → Nat → Prop} {a b c d : Nat} (h1 : Few E a b c) (h2 : Few E a b d) : c = d := by
  rcases Nat.lt_trichotomy c d with z | z | z
  · exact absurd h1.2.1 (h2.2.2 c h1.1 z)
  · exact z
  · exact absurd h2.2.1 (h1.2.2 d h2.1 z)
/-! ### a shortest way, by a line of places -/
/-- L: the line, its first place near; T: the ties by which the others were come to; ds: how many ties -/
structure Bfs (ts : List (Nat × Nat)) (W : List Nat) (a : Nat) (L T ds : List Nat) : Prop where
  l1 : L.length = T.length + 1
  l2 : ds.length = L.length
  l0 : L[0]? = some a
  d0 : ds[0]? = some 0
  nd : (L.drop 1).Nodup
  mono : ∀ (i j x y : Nat), i < j → ds[i]? = some x → ds[j]? = some y → x ≤ y
  by_ : ∀ (j t : Nat), T[j]? = some t → ∃ (u v i x : Nat), ts[t]? = some (u, v) ∧ t ∉ W ∧ L[j + 1]? = some v ∧ i ≤ j ∧ L[i]? = some u ∧ ds[i]? = some x ∧ ds[j + 1]? = some (x + 1) ∧ (0 < i → u ≠ a)
  wk : ∀ (j v x : Nat), L[j]? = some v → ds[j]? = some x → Wk (Edge ts W) x a v
/-- the first n of the line are done -/
structure Done (ts : List (Nat × Nat)) (W : List Nat) (n : Nat) (L ds : List Nat) : Prop where
  cl : ∀ (i u x v : Nat), i < n → L[i]? = some u → ds[i]? = some x → Edge ts W u v → ∃ (j y : Nat), L[j + 1]? = some v ∧ ds[j + 1]? = some y ∧ y ≤ x + 1
  up : ∀ (j y x : Nat), 0 < n → ds[j]? = some y → ds[n - 1]? = some x → y ≤ x + 1
  one : n = 0 → L.length = 1
theorem bfs_start (ts : List (Nat × Nat)) (W : List Nat) (a : Nat) : Bfs ts W a [a] [] [0] ∧ Done ts W 0 [a] [0] := by
  refine ⟨⟨rfl, rfl, rfl, rfl, by simp, fun i j x y h h1 h2 => ?_, fun j t h => by simp at h, fun j v x h1 h2 => ?_⟩, ⟨fun i u x v h => by omega, fun j y x h => by omega, fun _ => rfl⟩⟩
  · have := (List.getElem?_eq_some_iff.mp h2).1
    simp at this
    omega
  · have hj := (List.getElem?_eq_some_iff.mp h1).1
    simp at hj
    subst hj
    cases h1
    cases h2
    exact .nil a
/-- whoever is come to by so many ties stands in the line -/
theorem bfs_all {ts : List (Nat × Nat)} {W : List Nat} {a n : Nat} {L T ds : List Nat} (h : Bfs ts W a L T ds) (hd : Done ts W n L ds) : ∀ k v, 1 ≤ k → Wk (Edge ts W) k a v → (∀ x, n < L.length → ds[n]? = some x → k ≤ x) → ∃ (j y : Nat), L[j + 1]? = some v ∧ ds[j + 1]? = some y ∧ y ≤ k := by
  intro k
  induction k with
  | zero => intro v h1; omega
  | succ k ih =>
    intro v _ hw hx
    obtain ⟨u, h1, e⟩ := wk_succ hw
    have small : ∀ (i y : Nat), L[i]? = some u → ds[i]? = some y → y ≤ k → ∃ (j y : Nat), L[j + 1]? = some v ∧ ds[j + 1]? = some y ∧ y ≤ k + 1 := fun i y g1 g2 g3 => by
      have hin : i < n := by
        rcases Nat.lt_or_ge i n with z | z
        · exact z
        · exfalso
          have hi := (List.getElem?_eq_some_iff.mp g1).1
          have hn : n < L.length := by omega
          obtain ⟨x, ex⟩ : ∃ x, ds[n]? = some x := ⟨ds[n]'(by rw [h.l2]; exact hn), List.getElem?_eq_getElem _⟩
          have k1 := hx x hn ex
          by_cases c : i = n
          · subst c
            rw [g2] at ex
            cases ex
            omega
          · have := h.mono n i x y (by omega) ex g2
            omega
      obtain ⟨j, z, q1, q2, q3⟩ := hd.cl i u y v hin g1 g2 e
      exact ⟨j, z, q1, q2, by omega⟩
    rcases Nat.eq_zero_or_pos k with z | z
    · subst z
      have eu := wk_zero h1
      subst eu
      exact small 0 0 h.l0 h.d0 (Nat.le_refl _)
    · obtain ⟨j, y, g1, g2, g3⟩ := ih u z h1 fun x q1 q2 => by have := hx x q1 q2; omega
      exact small (j + 1) y g1 g2 g3
theorem get_drop {L : List Nat} {v : Nat} : v ∈ L.drop 1 ↔ ∃ j : Nat, L[j + 1]? = some v := by
  rw [List.mem_iff_getElem?]
  constructor
  · rintro ⟨i, hi⟩
    rw [List.getElem?_drop] at hi
    exact ⟨i, by rw [Nat.add_comm]; exact hi⟩
  · rintro ⟨j, hj⟩
    exact ⟨j, by rw [List.getElem?_drop, Nat.add_comm]; exact hj⟩
/-- while the ties from the place at n are gone through; G: those places that were come to -/
structure Mid (ts : List (Nat × Nat)) (W : List Nat) (a n here : Nat) (G : Nat → Prop) (L T ds : List Nat) : Prop where
  b : Bfs ts W a L T ds
  at_ : L[n]? = some here
  cl : ∀ (i u x v : Nat), i < n → L[i]? = some u → ds[i]? = some x → Edge ts W u v → ∃ (j y : Nat), L[j + 1]? = some v ∧ ds[j + 1]? = some y ∧ y ≤ x + 1
  up : ∀ (j y x : Nat), ds[j]? = some y → ds[n]? = some x → y ≤ x + 1
  dn : ∀ v, G v → v ∈ L.drop 1
theorem mid_start {ts : List (Nat × Nat)} {W : List Nat} {a n here : Nat} {L T ds : List Nat} (h : Bfs ts W a L T ds) (hd : Done ts W n L ds) (e : L[n]? = some here) : Mid ts W a n here (fun _ => False) L T ds := by
  refine ⟨h, e, hd.cl, fun j y x h1 h2 => ?_, fun v hv => hv.elim⟩
  have hj := (List.getElem?_eq_some_iff.mp h1).1
  have hn := (List.getElem?_eq_some_iff.mp h2).1
  rcases Nat.eq_zero_or_pos n with z | z
  · have h3 := hd.one z
    rw [h.l2, h3] at hj
    have ej : j = 0 := by omega
    subst ej
    rw [h.d0] at h1
    cases h1
    omega
  · obtain ⟨x', ex⟩ : ∃ x', ds[n - 1]? = some x' := ⟨ds[n - 1]'(by omega), List.getElem?_eq_getElem _⟩
    have h3 := hd.up j y x' z h1 ex
    have h4 := h.mono (n - 1) n x' x (by omega) ex h2
    omega
theorem get_snoc {L : List Nat} {i v : Nat} (w : Nat) (h : L[i]? = some v) : (L ++ [w])[i]? = some v := by
  rw [List.getElem?_append_left (List.getElem?_eq_some_iff.mp h).1]
  exact h
theorem of_snoc {L : List Nat} {i v w : Nat} (h : (L ++ [w])[i]? = some v) : (L[i]? = some v ∧ i < L.length) ∨ (i = L.length ∧ v = w) := by
  by_cases c : i < L.length
  · rw [List.getElem?_append_left c] at h
    exact .inl ⟨h, c⟩
  · have hi := (List.getElem?_eq_some_iff.mp h).1
    rw [List.length_append] at hi
    have e : i = L.length := by simp at hi; omega
    subst e
    rw [List.getElem?_append_right (Nat.le_refl _), Nat.sub_self] at h
    cases h
    exact .inr ⟨rfl, rfl⟩
theorem last_snoc (L : List Nat) (w : Nat) : (L ++ [w])[L.length]? = some w := by
  rw [List.getElem?_append_right (Nat.le_refl _), Nat.sub_self]
  rfl
theorem mid_new {ts : List (Nat × Nat)} {W : List Nat} {a n here v t x : Nat} {G G' : Nat → Prop} {L T ds : List Nat} (h : Mid ts W a n here G L T ds) (e : ts[t]? = some (here, v)) (hW : t ∉ W) (hv : v ∉ L.drop 1) (hx : ds[n]? = some x) (hG : ∀ w, G' w → G w ∨ w = v) :
    Mid ts W a n here G' (L ++ [v]) (T ++ [t]) (ds ++ [x + 1]) := by
  have hb := h.b
  have hn := (List.getElem?_eq_some_iff.mp h.at_).1
  have l1 := hb.l1
  have l2 := hb.l2
  have hdrop : (L ++ [v]).drop 1 = L.drop 1 ++ [v] := by rw [List.drop_append_of_le_length (by omega)]
  have ha : 0 < n → here ≠ a := fun hn0 hha => by
    subst hha
    obtain ⟨j, y, g1, _⟩ := h.cl 0 here 0 v hn0 hb.l0 hb.d0 ⟨t, e, hW⟩
    exact hv (get_drop.mpr ⟨j, g1⟩)
  have hwk := hb.wk n here x h.at_ hx
  refine ⟨⟨by simp; omega, by simp; omega, get_snoc _ hb.l0, get_snoc _ hb.d0, ?_, fun i j p q hij g1 g2 => ?_, fun j s g => ?_, fun j w p g1 g2 => ?_⟩, get_snoc _ h.at_, fun i u p w hi g1 g2 he => ?_, fun j y p g1 g2 => ?_, fun w hw => ?_⟩
  · rw [hdrop, List.nodup_append]
    exact ⟨hb.nd, by simp, fun p hp q hq => by rw [List.mem_singleton.mp hq]; rintro rfl; exact hv hp⟩
  · rcases of_snoc g2 with ⟨k2, k3⟩ | ⟨k2, k3⟩
    · rcases of_snoc g1 with ⟨k4, _⟩ | ⟨k4, _⟩
      · exact hb.mono i j p q hij k4 k2
      · omega
    · rcases of_snoc g1 with ⟨k4, _⟩ | ⟨k4, _⟩
      · have := h.up i p x k4 hx
        omega
      · omega
  · rcases of_snoc g with ⟨k2, k3⟩ | ⟨k2, k3⟩
    · obtain ⟨u, w, i, p, q1, q2, q3, q4, q5, q6, q7, q8⟩ := hb.by_ j s k2
      exact ⟨u, w, i, p, q1, q2, get_snoc _ q3, q4, get_snoc _ q5, get_snoc _ q6, get_snoc _ q7, q8⟩
    · subst k2 k3
      refine ⟨here, v, n, x, e, hW, ?_, by omega, get_snoc _ h.at_, get_snoc _ hx, ?_, ha⟩
      · rw [← l1]; exact last_snoc _ _
      · rw [← l1, ← l2]; exact last_snoc _ _
  · rcases of_snoc g1 with ⟨k2, k3⟩ | ⟨k2, k3⟩
    · rcases of_snoc g2 with ⟨k4, _⟩ | ⟨k4, _⟩
      · exact hb.wk j w p k2 k4
      · omega
    · rcases of_snoc g2 with ⟨k4, k5⟩ | ⟨_, k5⟩
      · omega
      · subst k3 k5
        exact .snoc hwk ⟨t, e, hW⟩
  · have hil : i < L.length := by omega
    rcases of_snoc g1 with ⟨k2, _⟩ | ⟨k2, _⟩
    · rcases of_snoc g2 with ⟨k4, _⟩ | ⟨k4, _⟩
      · obtain ⟨j, y, r1, r2, r3⟩ := h.cl i u p w hi k2 k4 he
        exact ⟨j, y, get_snoc _ r1, get_snoc _ r2, r3⟩
      · omega
    · omega
  · have hp : p = x := by
      rcases of_snoc g2 with ⟨k4, _⟩ | ⟨k4, _⟩
      · rw [hx] at k4; cases k4; rfl
      · omega
    subst hp
    rcases of_snoc g1 with ⟨k2, _⟩ | ⟨_, k2⟩
    · exact h.up j y p k2 hx
    · omega
  · rw [hdrop]
    rcases hG w hw with z | z
    · exact List.mem_append_left _ (h.dn w z)
    · rw [z]; simp
theorem mid_old {ts : List (Nat × Nat)} {W : List Nat} {a n here : Nat} {G G' : Nat → Prop} {L T ds : List Nat} (h : Mid ts W a n here G L T ds) (hG : ∀ w, G' w → G w ∨ w ∈ L.drop 1) : Mid ts W a n here G' L T ds :=
  ⟨h.b, h.at_, h.cl, h.up, fun v hv => (hG v hv).elim (h.dn v) id⟩
theorem mid_done {ts : List (Nat × Nat)} {W : List Nat} {a n here : Nat} {G : Nat → Prop} {L T ds : List Nat} (h : Mid ts W a n here G L T ds) (hG : ∀ v, Edge ts W here v → G v) : Bfs ts W a L T ds ∧ Done ts W (n + 1) L ds := by
  refine ⟨h.b, ⟨fun i u x v hi g1 g2 he => ?_, fun j y x _ g1 g2 => h.up j y x g1 g2, fun z => by omega⟩⟩
  by_cases c : i < n
  · exact h.cl i u x v c g1 g2 he
  · have e : i = n := by omega
    subst e
    rw [h.at_] at g1
    cases g1
    obtain ⟨j, hj⟩ := get_drop.mp (h.dn v (hG v he))
    have hl := (List.getElem?_eq_some_iff.mp hj).1
    obtain ⟨y, ey⟩ : ∃ y, ds[j + 1]? = some y := ⟨ds[j + 1]'(by rw [h.b.l2]; exact hl), List.getElem?_eq_getElem _⟩
    exact ⟨j, y, hj, ey, h.up _ _ _ ey g2⟩
/-- far was come to just now: by the fewest ties -/
theorem bfs_few {ts : List (Nat × Nat)} {W : List Nat} {a b n here : Nat} {G : Nat → Prop} {L T ds L' T' ds' : List Nat} (h : Bfs ts W a L T ds) (hd : Done ts W n L ds) (hn : n < L.length) (hb : b ∉ L.drop 1)
    (h' : Mid ts W a n here G L' T' ds') (hds : ds[n]? = ds'[n]?) {j y : Nat} (e1 : L'[j + 1]? = some b) (e2 : ds'[j + 1]? = some y) : Few (Edge ts W) a b y := by
  have hw := h'.b.wk _ _ _ e1 e2
  have hl := (List.getElem?_eq_some_iff.mp e1).1
  obtain ⟨t, et⟩ : ∃ t, T'[j]? = some t := ⟨T'[j]'(by have := h'.b.l1; omega), List.getElem?_eq_getElem _⟩
  obtain ⟨u, v, i, x, _, _, _, _, _, _, q7, _⟩ := h'.b.by_ j t et
  rw [e2] at q7
  have ey : y = x + 1 := Option.some.inj q7
  obtain ⟨z, ez⟩ : ∃ z, ds[n]? = some z := ⟨ds[n]'(by rw [h.l2]; exact hn), List.getElem?_eq_getElem _⟩
  have hz := h'.up (j + 1) y z e2 (by rw [← hds]; exact ez)
  refine ⟨by omega, hw, fun k k1 k2 hk => ?_⟩
  obtain ⟨j', _, g1, _⟩ := bfs_all h hd k b k1 hk fun x' _ ex' => by
    rw [ez] at ex'
    cases ex'
    omega
  exact hb (get_drop.mpr ⟨j', g1⟩)
theorem bfs_none {ts : List (Nat × Nat)} {W : List Nat} {a b n : Nat} {L T ds : List Nat} (h : Bfs ts W a L T ds) (hd : Done ts W n L ds) (hn : ¬ n < L.length) (hb : b ∉ L.drop 1) : ∀ k, 1 ≤ k → ¬ Wk (Edge ts W) k a b := by
  intro k k1 hk
  obtain ⟨j, _, g1, _⟩ := bfs_all h hd k b k1 hk fun x hx => absurd hx hn
  exact hb (get_drop.mpr ⟨j, g1⟩)
/-! ### the way back -/
inductive Pth (ts : List (Nat × Nat)) (W : List Nat) : Nat → List Nat → Nat → Prop where
  | one {t u v : Nat} : ts[t]? = some (u, v) → t ∉ W → Pth ts W u [t] v
  | cons {t u x v : Nat} {r : List Nat} : ts[t]? = some (u, x) → t ∉ W → Pth ts W x r v → Pth ts W u (t :: r) v
end My
/-! Q9: bubbles: the search from a place, the one lot that shuts, all lots -/
namespace My
def farT (ts : List (Nat × Nat)) (t : Nat) : Nat := (ts[t]?.map Prod.snd).getD 0
def nearT (ts : List (Nat × Nat)) (t : Nat) : Nat := (ts[t]?.map Prod.fst).getD 0
def outB (ts : List (Nat × Nat)) (p : Nat) : List Nat := (List.range ts.length).filter fun t => decide (nearT ts t = p)
theorem outB_mem {ts : List (Nat × Nat)} {p t : Nat} : t ∈ outB ts p ↔ t < ts.length ∧ nearT ts t = p := by
  unfold outB
  rw [List.mem_filter, List.mem_range, decide_eq_true_eq]
theorem get_inj {P : List Nat} (h : P.Nodup) {i j x : Nat} (a : P[i]? = some x) (b : P[j]? = some x) : i = j := by
  obtain ⟨hi, ei⟩ := List.getElem?_eq_some_iff.mp a
  obtain ⟨hj, ej⟩ := List.getElem?_eq_some_iff.mp b
  exact (List.getElem?_inj hi h).mp (a.trans b.symm)
theorem get_of_mem {P : List Nat} {x : Nat} (h : x ∈ P) : ∃ i : Nat, P[i]? = some x := by
  obtain ⟨i, hi, e⟩ := List.getElem_of_mem h
  exact ⟨i, by rw [List.getElem?_eq_getElem hi, e]⟩
theorem snoc_get {P : List Nat} {p i x : Nat} : (P ++ [p])[i]? = some x ↔ P[i]? = some x ∨ (i = P.length ∧ x = p) := by
  rw [List.getElem?_append]
  split
  · rename_i h
    constructor
    · exact .inl
    · rintro (z | ⟨z, _⟩)
      · exact z
      · omega
  · rename_i h
    have hn : P[i]? = none := List.getElem?_eq_none_iff.mpr (by omega)
    rw [hn]
    constructor
    · intro z
      have : i - P.length = 0 := by
        cases e : i - P.length with
        | zero => rfl
        | succ k => rw [e] at z; simp at z
      rw [this] at z
      exact .inr ⟨by omega, by simpa using z.symm⟩
    · rintro (z | ⟨z, z2⟩)
      · cases z
      · rw [z, Nat.sub_self, z2]; rfl
/-- a bubble as the search finds it -/
structure Bub (N : Nat) (ts : List (Nat × Nat)) (b e : Nat) (P : List Nat) : Prop where
  nd : P.Nodup
  hd : P[0]? = some b
  enot : e ∉ P
  lt : ∀ p ∈ P, p < N
  elt : e < N
  inn : ∀ (i p t : Nat), P[i]? = some p → 0 < i → t < ts.length → farT ts t = p → ∃ j : Nat, j < i ∧ P[j]? = some (nearT ts t)
  out : ∀ (i p t : Nat), P[i]? = some p → t ∈ outB ts p → farT ts t = e ∨ ∃ j : Nat, i < j ∧ P[j]? = some (farT ts t)
  ine : ∀ t, t < ts.length → farT ts t = e → nearT ts t ∈ P
  ne : ∀ p ∈ P, outB ts p ≠ []
  two : 2 ≤ (outB ts b).length
  rch : ∀ (i p : Nat), P[i]? = some p → 0 < i → ∃ j t q : Nat, j < i ∧ P[j]? = some q ∧ t ∈ outB ts q ∧ farT ts t = p
structure Srch (N : Nat) (ts : List (Nat × Nat)) (b : Nat) (P M : List Nat) : Prop where
  nd : P.Nodup
  hd : P[0]? = some b
  lt : ∀ p ∈ P, p < N
  inn : ∀ (i p t : Nat), P[i]? = some p → 0 < i → t < ts.length → farT ts t = p → ∃ j : Nat, j < i ∧ P[j]? = some (nearT ts t)
  rch : ∀ (i p : Nat), P[i]? = some p → 0 < i → ∃ j t q : Nat, j < i ∧ P[j]? = some q ∧ t ∈ outB ts q ∧ farT ts t = p
  mem : ∀ x, x ∈ M ↔ (∃ p ∈ P, ∃ t ∈ outB ts p, farT ts t = x) ∧ (x ∉ P ∨ x = b)
  ne : ∀ (i p : Nat), P[i]? = some p → i + 1 < P.length → outB ts p ≠ []
  two : 2 ≤ (outB ts b).length
def MayPass (ts : List (Nat × Nat)) (P : List Nat) (p : Nat) : Prop := ∀ t, t < ts.length → farT ts t = p → nearT ts t ∈ P
theorem Srch.init {N : Nat} {ts : List (Nat × Nat)} {b : Nat} {M : List Nat} (hb : b < N) (h2 : 2 ≤ (outB ts b).length) (hM : ∀ x, x ∈ M ↔ ∃ t ∈ outB ts b, farT ts t = x) : Srch N ts b [b] M := by
  refine ⟨by simp, rfl, fun p hp => by rw [List.mem_singleton.mp hp]; exact hb, fun i p t h hi => ?_, fun i p h hi => ?_, fun x => ?_, fun i p h hl => ?_, h2⟩
  · cases i with
    | zero => omega
    | succ k => simp at h
  · cases i with
    | zero => omega
    | succ k => simp at h
  · rw [hM]
    constructor
    · intro h
      refine ⟨⟨b, by simp, h⟩, ?_⟩
      by_cases e : x = b
      · exact .inr e
      · exact .inl (by simpa using e)
    · rintro ⟨⟨p, hp, h⟩, _⟩
      rwa [List.mem_singleton.mp hp] at h
  · simp at hl
theorem Srch.far_in {N : Nat} {ts : List (Nat × Nat)} {b : Nat} {P M : List Nat} (S : Srch N ts b P M) {p t : Nat} (hp : p ∈ P) (ht : t ∈ outB ts p) : farT ts t ∈ M ∨ (farT ts t ∈ P ∧ farT ts t ≠ b) := by
  by_cases h : farT ts t ∉ P ∨ farT ts t = b
  · exact .inl ((S.mem _).mpr ⟨⟨p, hp, t, ht, rfl⟩, h⟩)
  · exact .inr ⟨Decidable.byContradiction fun z => h (.inl z), fun z => h (.inr z)⟩
theorem Srch.step {N : Nat} {ts : List (Nat × Nat)} {b p : Nat} {P M M' : List Nat} (S : Srch N ts b P M) (hb : b ∉ M) (hp : p ∈ M) (hN : p < N) (hm : MayPass ts P p) (hl : ∀ q, P[P.length - 1]? = some q → outB ts q ≠ []) (hM : ∀ x, x ∈ M' ↔ (x ∈ M ∧ x ≠ p) ∨ ∃ t ∈ outB ts p, farT ts t = x) : Srch N ts b (P ++ [p]) M' := by
  have hpb : p ≠ b := fun z => hb (z ▸ hp)
  have hpP : p ∉ P := ((S.mem p).mp hp).2.resolve_right hpb
  have h0 : 0 < P.length := (List.getElem?_eq_some_iff.mp S.hd).1
  refine ⟨?_, ?_, fun q hq => ?_, fun i q t h hi ht e => ?_, fun i q h hi => ?_, fun x => ?_, fun i q h hl' => ?_, S.two⟩
  · rw [List.nodup_append]
    exact ⟨S.nd, by simp, fun a ha c hc => by rw [List.mem_singleton.mp hc]; rintro rfl; exact hpP ha⟩
  · exact snoc_get.mpr (.inl S.hd)
  · rcases List.mem_append.mp hq with z | z
    · exact S.lt q z
    · rw [List.mem_singleton.mp z]; exact hN
  · rcases snoc_get.mp h with z | ⟨z1, z2⟩
    · obtain ⟨j, hj, ej⟩ := S.inn i q t z hi ht e
      exact ⟨j, hj, snoc_get.mpr (.inl ej)⟩
    · obtain ⟨j, hj⟩ := get_of_mem (hm t ht (e.trans z2))
      exact ⟨j, by rw [z1]; exact (List.getElem?_eq_some_iff.mp hj).1, snoc_get.mpr (.inl hj)⟩
  · rcases snoc_get.mp h with z | ⟨z1, z2⟩
    · obtain ⟨j, t, r, a, c, d⟩ := S.rch i q z hi
      exact ⟨j, t, r, a, snoc_get.mpr (.inl c), d⟩
    · obtain ⟨⟨r, hr, t, ht, e⟩, _⟩ := (S.mem p).mp hp
      obtain ⟨j, hj⟩ := get_of_mem hr
      exact ⟨j, t, r, by rw [z1]; exact (List.getElem?_eq_some_iff.mp hj).1, snoc_get.mpr (.inl hj), ht, by rw [e, z2]⟩
  · rw [hM]
    constructor
    · rintro (⟨z1, z2⟩ | ⟨t, ht, e⟩)
      · obtain ⟨⟨r, hr, k⟩, k2⟩ := (S.mem x).mp z1
        refine ⟨⟨r, List.mem_append.mpr (.inl hr), k⟩, k2.imp (fun z y => ?_) id⟩
        rcases List.mem_append.mp y with y | y
        · exact z y
        · exact z2 (List.mem_singleton.mp y)
      · refine ⟨⟨p, by simp, t, ht, e⟩, ?_⟩
        by_cases hxb : x = b
        · exact .inr hxb
        refine .inl fun y => ?_
        obtain ⟨h1, h2⟩ := outB_mem.mp ht
        rcases List.mem_append.mp y with y | y
        · obtain ⟨i, hi⟩ := get_of_mem y
          have i0 : 0 < i := by
            cases i with
            | zero => rw [S.hd] at hi; exact absurd (Option.some.inj hi).symm hxb
            | succ k => omega
          obtain ⟨j, _, ej⟩ := S.inn i x t hi i0 h1 e
          rw [h2] at ej
          exact hpP (List.mem_of_getElem? ej)
        · have := hm t h1 (e.trans (List.mem_singleton.mp y))
          rw [h2] at this
          exact hpP this
    · rintro ⟨⟨r, hr, t, ht, e⟩, k⟩
      by_cases hxp : x = p
      · exfalso
        subst hxp
        rcases k with k | k
        · exact k (by simp)
        · exact hpb k
      rcases List.mem_append.mp hr with z | z
      · refine .inl ⟨(S.mem x).mpr ⟨⟨r, z, t, ht, e⟩, k.imp (fun z y => z (List.mem_append.mpr (.inl y))) id⟩, hxp⟩
      · rw [List.mem_singleton.mp z] at ht
        exact .inr ⟨t, ht, e⟩
  · rcases snoc_get.mp h with z | ⟨z1, z2⟩
    · by_cases hi : i + 1 < P.length
      · exact S.ne i q z hi
      · have := (List.getElem?_eq_some_iff.mp z).1
        exact hl q (by rw [show P.length - 1 = i by omega]; exact z)
    · rw [List.length_append, z1] at hl'
      simp at hl'
theorem Srch.done {N : Nat} {ts : List (Nat × Nat)} {b e : Nat} {P M : List Nat} (S : Srch N ts b P M) (hb : b ∉ M) (hM : ∀ x, x ∈ M ↔ x = e) (hN : e < N) (hm : MayPass ts P e) (hl : ∀ q, P[P.length - 1]? = some q → outB ts q ≠ []) : Bub N ts b e P := by
  have heb : e ≠ b := fun z => hb ((hM b).mpr z.symm)
  have heP : e ∉ P := ((S.mem e).mp ((hM e).mpr rfl)).2.resolve_right heb
  refine ⟨S.nd, S.hd, heP, S.lt, hN, S.inn, fun i p t h ht => ?_, hm, fun p hp => ?_, S.two, S.rch⟩
  · rcases S.far_in (List.mem_of_getElem? h) ht with z | ⟨z1, z2⟩
    · exact .inl ((hM _).mp z)
    · obtain ⟨j, hj⟩ := get_of_mem z1
      obtain ⟨h1, h2⟩ := outB_mem.mp ht
      have j0 : 0 < j := by
        cases j with
        | zero => rw [S.hd] at hj; exact absurd (Option.some.inj hj).symm z2
        | succ k => omega
      obtain ⟨i', hi', ei'⟩ := S.inn j _ t hj j0 h1 rfl
      rw [h2] at ei'
      have := get_inj S.nd h ei'
      exact .inr ⟨j, by omega, hj⟩
  · obtain ⟨i, hi⟩ := get_of_mem hp
    by_cases h : i + 1 < P.length
    · exact S.ne i p hi h
    · have := (List.getElem?_eq_some_iff.mp hi).1
      exact hl p (by rw [show P.length - 1 = i by omega]; exact hi)
theorem nodup_len {N : Nat} {P : List Nat} (h : P.Nodup) (k : ∀ p ∈ P, p < N) : P.length ≤ N := few h k
/-! ### the search itself -/
def markF (N : Nat) (ts : List (Nat × Nat)) (M : List Nat) (p : Nat) : List Nat := (List.range N).filter fun x => decide ((x ∈ M ∧ x ≠ p) ∨ x ∈ (outB ts p).map (farT ts))
def mayB (ts : List (Nat × Nat)) (P : List Nat) (p : Nat) : Bool := (List.range ts.length).all fun t => decide (farT ts t = p → nearT ts t ∈ P)
theorem mayB_iff {ts : List (Nat × Nat)} {P : List Nat} {p : Nat} : mayB ts P p = true ↔ MayPass ts P p := by
  unfold mayB MayPass
  rw [List.all_eq_true]
  exact ⟨fun h t ht => of_decide_eq_true (h t (List.mem_range.mpr ht)), fun h t ht => decide_eq_true (h t (List.mem_range.mp ht))⟩
def FarOk (N : Nat) (ts : List (Nat × Nat)) : Prop := ∀ t, t < ts.length → farT ts t < N
theorem markF_mem {N : Nat} {ts : List (Nat × Nat)} {M : List Nat} {p x : Nat} (hM : ∀ y ∈ M, y < N) (hf : FarOk N ts) : x ∈ markF N ts M p ↔ (x ∈ M ∧ x ≠ p) ∨ ∃ t ∈ outB ts p, farT ts t = x := by
  unfold markF
  rw [List.mem_filter, List.mem_range, decide_eq_true_eq, List.mem_map]
  refine ⟨fun h => h.2, fun h => ⟨?_, h⟩⟩
  rcases h with ⟨h, _⟩ | ⟨t, ht, rfl⟩
  · exact hM x h
  · exact hf t (outB_mem.mp ht).1
theorem markF_lt {N : Nat} {ts : List (Nat × Nat)} {M : List Nat} {p : Nat} : ∀ y ∈ markF N ts M p, y < N := fun y h => List.mem_range.mp (List.mem_filter.mp h).1
theorem markF_len (N : Nat) (ts : List (Nat × Nat)) (M : List Nat) (p : Nat) : (markF N ts M p).length ≤ N := by
  unfold markF
  have := List.length_filter_le (fun x => decide ((x ∈ M ∧ x ≠ p) ∨ x ∈ (outB ts p).map (farT ts))) (List.range N)
  rwa [List.length_range] at this
theorem markF_nodup (N : Nat) (ts : List (Nat × Nat)) (M : List Nat) (p : Nat) : (markF N ts M p).Nodup := List.nodup_range.filter _
def rise_eq : ∀ {a b : List Nat}, a.Pairwise (· < ·) → b.Pairwise (· < ·) → (∀ x, x ∈ a ↔ x ∈ b) → a = b
  | [], [], _, _, _ => rfl
  | [], y :: ys, _, _, h => absurd ((h y).mpr List.mem_cons_self) (by simp)
  | x :: xs, [], _, _, h => absurd ((h x).mp List.mem_cons_self) (by simp)
  | x :: xs, y :: ys, hx, hy, h => by
    have hx' := List.pairwise_cons.mp hx
    have hy' := List.pairwise_cons.mp hy
    have e : x = y := by
      rcases List.mem_cons.mp ((h x).mp List.mem_cons_self) with z | z
      · exact z
      · rcases List.mem_cons.mp ((h y).mpr List.mem_cons_self) with z2 | z2
        · exact z2.symm
        · have := hy'.1 x z; have := hx'.1 y z2; omega
    subst e
    refine congrArg (x :: ·) (rise_eq hx'.2 hy'.2 fun z => ?_)
    constructor
    · intro hz
      rcases List.mem_cons.mp ((h z).mp (List.mem_cons_of_mem _ hz)) with q | q
      · have := hx'.1 z hz; omega
      · exact q
    · intro hz
      rcases List.mem_cons.mp ((h z).mpr (List.mem_cons_of_mem _ hz)) with q | q
      · have := hy'.1 z hz; omega
      · exact q
theorem range_rise (N : Nat) (f : Nat → Bool) : ((List.range N).filter f).Pairwise (· < ·) := List.Pairwise.filter _ List.pairwise_lt_range
def srchF (N : Nat) (ts : List (Nat × Nat)) (b : Nat) : Nat → List Nat → List Nat → Option (List Nat × Nat)
  | 0, _, _ => none
  | k + 1, P, M => if b ∈ M then none else if outB ts (P.getLastD 0) = [] then none else match M.filter (mayB ts P) with
    | [] => none
    | f :: _ => if M.length = 1 then some (P, f) else srchF N ts b k (P ++ [f]) (markF N ts M f)
def searchB (N : Nat) (ts : List (Nat × Nat)) (b : Nat) : Option (List Nat × Nat) := if (outB ts b).length < 2 then none else srchF N ts b (N + 1) [b] (markF N ts [] b)
theorem last_at {P : List Nat} (h : 0 < P.length) : P[P.length - 1]? = some (P.getLastD 0) := by
  cases e : P.getLast? with
  | none => rw [List.getLast?_eq_none_iff.mp e] at h; simp at h
  | some x => rw [← List.getLast?_eq_getElem?, List.getLastD_eq_getLast?, e]; rfl
theorem srchF_bub {N : Nat} {ts : List (Nat × Nat)} {b : Nat} (hf : FarOk N ts) : ∀ (k : Nat) (P M : List Nat), Srch N ts b P M → (∀ y ∈ M, y < N) → M.Nodup → ∀ R e, srchF N ts b k P M = some (R, e) → Bub N ts b e R
  | 0, P, M, _, _, _, R, e, h => by cases h
  | k + 1, P, M, S, hM, hn, R, e, h => by
    unfold srchF at h
    split at h
    · cases h
    · rename_i hb
      split at h
      · cases h
      · rename_i ho
        have h0 : 0 < P.length := (List.getElem?_eq_some_iff.mp S.hd).1
        have hl : ∀ q, P[P.length - 1]? = some q → outB ts q ≠ [] := fun q hq => by
          rw [last_at h0] at hq
          cases hq
          exact ho
        split at h
        · cases h
        · rename_i f r hfr
          have hfm : f ∈ M.filter (mayB ts P) := by rw [hfr]; exact List.mem_cons_self
          obtain ⟨hfM, hfp⟩ := List.mem_filter.mp hfm
          have hmp := mayB_iff.mp hfp
          split at h
          · rename_i h1
            cases h
            obtain ⟨x, rfl⟩ : ∃ x, M = [x] := by
              match M, h1 with
              | [x], _ => exact ⟨x, rfl⟩
            have : e = x := List.mem_singleton.mp hfM
            subst this
            exact S.done hb (fun x => List.mem_singleton) (hM _ hfM) hmp hl
          · exact srchF_bub hf k _ _ (S.step hb hfM (hM f hfM) hmp hl (fun x => markF_mem hM hf)) markF_lt (markF_nodup ..) R e h
theorem search_bub {N : Nat} {ts : List (Nat × Nat)} {b e : Nat} {P : List Nat} (hf : FarOk N ts) (hb : b < N) (h : searchB N ts b = some (P, e)) : Bub N ts b e P := by
  unfold searchB at h
  split at h
  · cases h
  · rename_i h2
    refine srchF_bub hf _ _ _ (Srch.init hb (by omega) fun x => ?_) markF_lt (markF_nodup ..) P e h
    rw [markF_mem (fun y hy => by cases hy) hf]
    constructor
    · rintro (⟨z, _⟩ | z)
      · cases z
      · exact z
    · exact .inr
/-! ### coming to places along some ties -/
inductive Rc (ts : List (Nat × Nat)) (I : Nat → Prop) (p : Nat) : Nat → Prop
  | refl : Rc ts I p p
  | step {q t : Nat} (h : Rc ts I p q) (ht : t < ts.length) (hi : I t) (hn : nearT ts t = q) : Rc ts I p (farT ts t)
theorem Rc.head {ts : List (Nat × Nat)} {I : Nat → Prop} {t q : Nat} (ht : t < ts.length) (hi : I t) (h : Rc ts I (farT ts t) q) : Rc ts I (nearT ts t) q := by
  induction h with
  | refl => exact .step .refl ht hi rfl
  | step _ a b c ih => exact .step ih a b c
def InnT (ts : List (Nat × Nat)) (L : List Nat) (e t : Nat) : Prop := nearT ts t ∈ L ∧ nearT ts t ≠ e
def innB (ts : List (Nat × Nat)) (L : List Nat) (e : Nat) : List Nat := (List.range ts.length).filter fun t => decide (nearT ts t ∈ L ∧ nearT ts t ≠ e)
theorem innB_mem {ts : List (Nat × Nat)} {L : List Nat} {e t : Nat} : t ∈ innB ts L e ↔ t < ts.length ∧ InnT ts L e t := by
  unfold innB
  rw [List.mem_filter, List.mem_range, decide_eq_true_eq]
  exact Iff.rfl
def Cond1 (ts : List (Nat × Nat)) (L : List Nat) (b e : Nat) : Prop := ∀ t, t < ts.length → (InnT ts L e t ↔ farT ts t ∈ L ∧ farT ts t ≠ b)
def Cond3 (ts : List (Nat × Nat)) (L : List Nat) (b e p : Nat) : Prop := Rc ts (InnT ts L e) p e ∧ Rc ts (InnT ts L e) b p ∧ ∀ t ∈ innB ts L e, nearT ts t = p → ¬ Rc ts (InnT ts L e) (farT ts t) p
def Shut (ts : List (Nat × Nat)) (L : List Nat) (b e : Nat) : Prop := Cond1 ts L b e ∧ ∀ p ∈ L, Cond3 ts L b e p
section
variable {N : Nat} {ts : List (Nat × Nat)} {b e : Nat} {P L : List Nat}
def Up (P : List Nat) (e i x : Nat) : Prop := (∃ j : Nat, i ≤ j ∧ P[j]? = some x) ∨ x = e
theorem Bub.up (B : Bub N ts b e P) (hL : ∀ x, x ∈ L ↔ x ∈ P ∨ x = e) {i x y : Nat} (h : Up P e i x) (r : Rc ts (InnT ts L e) x y) : Up P e i y := by
  induction r with
  | refl => exact h
  | step _ ht hi hn ih =>
    obtain ⟨h1, h2⟩ := hi
    rw [hn] at h1 h2
    rcases ih with ⟨j, hj, ej⟩ | z
    · rcases B.out j _ _ ej (outB_mem.mpr ⟨ht, hn⟩) with y | ⟨k, hk, ek⟩
      · exact .inr y
      · exact .inl ⟨k, by omega, ek⟩
    · exact absurd z h2
theorem Bub.bmem (B : Bub N ts b e P) : b ∈ P := List.mem_of_getElem? B.hd
theorem Bub.len (B : Bub N ts b e P) : P.length + 1 ≤ N := by
  have := nodup_len (N := N) (P := P ++ [e]) (by
    rw [List.nodup_append]
    exact ⟨B.nd, by simp, fun a ha c hc => by rw [List.mem_singleton.mp hc]; rintro rfl; exact B.enot ha⟩) (fun p hp => by
    rcases List.mem_append.mp hp with z | z
    · exact B.lt p z
    · rw [List.mem_singleton.mp z]; exact B.elt)
  simpa using this
theorem Bub.to_end (B : Bub N ts b e P) (hL : ∀ x, x ∈ L ↔ x ∈ P ∨ x = e) : ∀ (n i p : Nat), P.length ≤ i + n → P[i]? = some p → Rc ts (InnT ts L e) p e
  | 0, i, p, hn, h => by have := (List.getElem?_eq_some_iff.mp h).1; omega
  | n + 1, i, p, hn, h => by
    have hpP := List.mem_of_getElem? h
    obtain ⟨t, ht⟩ := List.exists_mem_of_ne_nil _ (B.ne p hpP)
    obtain ⟨h1, h2⟩ := outB_mem.mp ht
    have hi : InnT ts L e t := ⟨by rw [h2]; exact (hL p).mpr (.inl hpP), by rw [h2]; rintro rfl; exact B.enot hpP⟩
    have : Rc ts (InnT ts L e) (farT ts t) e := by
      rcases B.out i p t h ht with z | ⟨j, hj, ej⟩
      · rw [z]; exact .refl
      · exact B.to_end hL n j _ (by omega) ej
    rw [← h2]
    exact Rc.head h1 hi this
theorem Bub.from_begin (B : Bub N ts b e P) (hL : ∀ x, x ∈ L ↔ x ∈ P ∨ x = e) : ∀ (n i p : Nat), i < n → P[i]? = some p → Rc ts (InnT ts L e) b p
  | 0, i, p, hn, _ => by omega
  | n + 1, i, p, hn, h => by
    by_cases i0 : i = 0
    · subst i0
      rw [B.hd] at h
      cases h
      exact .refl
    · obtain ⟨j, t, q, hj, eq, ht, ef⟩ := B.rch i p h (by omega)
      obtain ⟨h1, h2⟩ := outB_mem.mp ht
      have hqP := List.mem_of_getElem? eq
      have := B.from_begin hL n j q (by omega) eq
      rw [← ef]
      exact .step this h1 ⟨by rw [h2]; exact (hL q).mpr (.inl hqP), by rw [h2]; rintro rfl; exact B.enot hqP⟩ h2
/-- the lot of a bubble shuts -/
theorem Bub.shut (B : Bub N ts b e P) (hL : ∀ x, x ∈ L ↔ x ∈ P ∨ x = e) : Shut ts L b e := by
  have hbe : b ≠ e := fun z => B.enot (z ▸ B.bmem)
  have inP : ∀ {t}, InnT ts L e t → nearT ts t ∈ P := fun {t} h => ((hL _).mp h.1).resolve_right h.2
  have farL : ∀ {t p}, p ∈ P → t ∈ outB ts p → farT ts t ∈ L ∧ farT ts t ≠ b := fun {t p} hp ht => by
    obtain ⟨i, hi⟩ := get_of_mem hp
    rcases B.out i p t hi ht with z | ⟨j, hj, ej⟩
    · rw [z]
      exact ⟨(hL e).mpr (.inr rfl), hbe.symm⟩
    · refine ⟨(hL _).mpr (.inl (List.mem_of_getElem? ej)), fun z => ?_⟩
      rw [z] at ej
      have := get_inj B.nd B.hd ej
      omega
  refine ⟨fun t ht => ⟨fun h => farL (inP h) (outB_mem.mpr ⟨ht, rfl⟩), fun ⟨h1, h2⟩ => ?_⟩, fun p hp => ⟨?_, ?_, fun t ht hn r => ?_⟩⟩
  · have hP : nearT ts t ∈ P := by
      rcases (hL _).mp h1 with z | z
      · obtain ⟨i, hi⟩ := get_of_mem z
        have i0 : 0 < i := by
          cases i with
          | zero => rw [B.hd] at hi; exact absurd (Option.some.inj hi).symm h2
          | succ k => omega
        obtain ⟨j, _, ej⟩ := B.inn i _ t hi i0 ht rfl
        exact List.mem_of_getElem? ej
      · exact B.ine t ht z
    exact ⟨(hL _).mpr (.inl hP), fun z => B.enot (z ▸ hP)⟩
  · rcases (hL p).mp hp with z | z
    · obtain ⟨i, hi⟩ := get_of_mem z
      exact B.to_end hL P.length i p (by omega) hi
    · rw [z]; exact .refl
  · rcases (hL p).mp hp with z | z
    · obtain ⟨i, hi⟩ := get_of_mem z
      exact B.from_begin hL (i + 1) i p (by omega) hi
    · have h0 : 0 < P.length := (List.getElem?_eq_some_iff.mp B.hd).1
      have hlast : P[P.length - 1]? = some P[P.length - 1] := List.getElem?_eq_getElem (by omega)
      have hq := List.mem_of_getElem? hlast
      obtain ⟨t, ht⟩ := List.exists_mem_of_ne_nil _ (B.ne _ hq)
      obtain ⟨h1, h2⟩ := outB_mem.mp ht
      have hf : farT ts t = e := by
        rcases B.out _ _ t hlast ht with y | ⟨j, hj, ej⟩
        · exact y
        · have := (List.getElem?_eq_some_iff.mp ej).1; omega
      have r : Rc ts (InnT ts L e) b (farT ts t) := .step (B.from_begin hL P.length _ _ (by omega) hlast) h1 ⟨by rw [h2]; exact (hL _).mpr (.inl hq), by rw [h2]; intro y; exact B.enot (y ▸ hq)⟩ h2
      rw [z]
      rwa [hf] at r
  · obtain ⟨ht1, hti⟩ := innB_mem.mp ht
    have hpP : p ∈ P := hn ▸ inP hti
    obtain ⟨i, hi⟩ := get_of_mem hpP
    have hu : Up P e (i + 1) (farT ts t) := by
      rcases B.out i p t hi (outB_mem.mpr ⟨ht1, hn⟩) with z | ⟨j, hj, ej⟩
      · exact .inr z
      · exact .inl ⟨j, hj, ej⟩
    rcases B.up hL hu r with ⟨j, hj, ej⟩ | z
    · have := get_inj B.nd hi ej
      omega
    · exact B.enot (z ▸ hpP)
/-- no other lot does -/
theorem Bub.only (B : Bub N ts b e P) (S : Shut ts L b e) (hb : b ∈ L) (he : e ∈ L) : ∀ x, x ∈ L ↔ x ∈ P ∨ x = e := by
  intro x
  constructor
  · intro hx
    have r := ((S.2 x hx).2).1
    clear hx
    induction r with
    | refl => exact .inl B.bmem
    | step _ ht hi hn ih =>
      have hP := ih.resolve_right (by rw [← hn]; exact hi.2)
      obtain ⟨i, hi'⟩ := get_of_mem hP
      rcases B.out i _ _ hi' (outB_mem.mpr ⟨ht, hn⟩) with z | ⟨j, _, ej⟩
      · exact .inr z
      · exact .inl (List.mem_of_getElem? ej)
  · intro hx
    have hS := B.shut (L := P ++ [e]) (fun x => by simp)
    have r := ((hS.2 x (by simpa using hx)).2).1
    clear hx
    induction r with
    | refl => exact hb
    | step _ ht hi hn ih => exact ((S.1 _ ht).mp ⟨by rw [hn]; exact ih, hi.2⟩).1
end
/-! ### all lots -/
def lotsN (b e : Nat) : Nat → List (List Nat)
  | 0 => [[]]
  | n + 1 => if n = b ∨ n = e then (lotsN b e n).map (· ++ [n]) else lotsN b e n ++ (lotsN b e n).map (· ++ [n])
theorem range_filter_succ (f : Nat → Bool) (n : Nat) : (List.range (n + 1)).filter f = (List.range n).filter f ++ if f n = true then [n] else [] := by
  rw [List.range_succ, List.filter_append]
  congr 1
  by_cases h : f n = true
  · rw [if_pos h, List.filter_cons_of_pos h]; rfl
  · rw [if_neg h, List.filter_cons_of_neg h]; rfl
theorem lots_of {b e : Nat} : ∀ {n : Nat} {L : List Nat}, L ∈ lotsN b e n → ∃ f : Nat → Bool, L = (List.range n).filter f ∧ (b < n → f b = true) ∧ (e < n → f e = true)
  | 0, L, h => ⟨fun _ => true, by rw [List.mem_singleton.mp (show L ∈ [[]] from h)]; rfl, fun z => by omega, fun z => by omega⟩
  | n + 1, L, h => by
    have with_ : (∃ K ∈ lotsN b e n, L = K ++ [n]) → ∃ f : Nat → Bool, L = (List.range (n + 1)).filter f ∧ (b < n + 1 → f b = true) ∧ (e < n + 1 → f e = true) := fun ⟨K, hK, eK⟩ => by
      obtain ⟨f, h1, h2, h3⟩ := lots_of hK
      refine ⟨fun x => if x = n then true else f x, ?_, fun z => ?_, fun z => ?_⟩
      · rw [range_filter_succ, if_pos (by simp), eK, h1]
        refine congrArg (· ++ [n]) (List.filter_congr fun x hx => ?_)
        have := List.mem_range.mp hx
        rw [if_neg (by omega)]
      · by_cases y : b = n
        · simp [y]
        · show (if b = n then true else f b) = true
          rw [if_neg y]
          exact h2 (by omega)
      · by_cases y : e = n
        · simp [y]
        · show (if e = n then true else f e) = true
          rw [if_neg y]
          exact h3 (by omega)
    unfold lotsN at h
    split at h
    · obtain ⟨K, hK, eK⟩ := List.mem_map.mp h
      exact with_ ⟨K, hK, eK.symm⟩
    · rename_i c
      rcases List.mem_append.mp h with z | z
      · obtain ⟨f, h1, h2, h3⟩ := lots_of z
        refine ⟨fun x => if x = n then false else f x, ?_, fun z => ?_, fun z => ?_⟩
        · rw [range_filter_succ, if_neg (by simp), List.append_nil, h1]
          refine List.filter_congr fun x hx => ?_
          have := List.mem_range.mp hx
          rw [if_neg (by omega)]
        · show (if b = n then false else f b) = true
          rw [if_neg (fun y => c (.inl y.symm))]
          exact h2 (by omega)
        · show (if e = n then false else f e) = true
          rw [if_neg (fun y => c (.inr y.symm))]
          exact h3 (by omega)
      · obtain ⟨K, hK, eK⟩ := List.mem_map.mp z
        exact with_ ⟨K, hK, eK.symm⟩
theorem lots_has {b e : Nat} {f : Nat → Bool} : ∀ {n : Nat}, (b < n → f b = true) → (e < n → f e = true) → (List.range n).filter f ∈ lotsN b e n
  | 0, _, _ => List.mem_singleton.mpr rfl
  | n + 1, hb, he => by
    have ih := lots_has (n := n) (fun z => hb (by omega)) (fun z => he (by omega))
    rw [range_filter_succ]
    unfold lotsN
    by_cases c : n = b ∨ n = e
    · have : f n = true := by
        rcases c with c | c
        · rw [c]; exact hb (by omega)
        · rw [c]; exact he (by omega)
      rw [if_pos c, if_pos this]
      exact List.mem_map.mpr ⟨_, ih, rfl⟩
    · rw [if_neg c]
      by_cases y : f n = true
      · rw [if_pos y]
        exact List.mem_append.mpr (.inr (List.mem_map.mpr ⟨_, ih, rfl⟩))
      · rw [if_neg y, List.append_nil]
        exact List.mem_append.mpr (.inl ih)
theorem lots_len (b e : Nat) : ∀ n, (lotsN b e n).length ≤ 2 ^ n
  | 0 => by simp [lotsN]
  | n + 1 => by
    have := lots_len b e n
    unfold lotsN
    split
    · rw [List.length_map, Nat.pow_succ]; omega
    · rw [List.length_append, List.length_map, Nat.pow_succ]; omega
theorem lots_lt {b e n : Nat} {L : List Nat} (h : L ∈ lotsN b e n) : (∀ x ∈ L, x < n) ∧ L.length ≤ n ∧ L.Nodup := by
  obtain ⟨f, rfl, _⟩ := lots_of h
  refine ⟨fun x hx => List.mem_range.mp (List.mem_filter.mp hx).1, ?_, List.nodup_range.filter _⟩
  have := List.length_filter_le f (List.range n)
  rwa [List.length_range] at this
/-- the inside, rising -/
def insideB (N : Nat) (P : List Nat) (e : Nat) : List Nat := (List.range N).filter fun x => decide (x ∈ P ∨ x = e)
section
variable {N : Nat} {ts : List (Nat × Nat)} {b e : Nat} {P L : List Nat}
theorem inside_mem (B : Bub N ts b e P) {x : Nat} : x ∈ insideB N P e ↔ x ∈ P ∨ x = e := by
  unfold insideB
  rw [List.mem_filter, List.mem_range, decide_eq_true_eq]
  exact ⟨fun h => h.2, fun h => ⟨h.elim (B.lt x) (fun z => z ▸ B.elt), h⟩⟩
theorem Bub.the_lot (B : Bub N ts b e P) (h : L ∈ lotsN b e N) (S : Shut ts L b e) : L = insideB N P e := by
  obtain ⟨f, rfl, h1, h2⟩ := lots_of h
  have hb : b ∈ (List.range N).filter f := List.mem_filter.mpr ⟨List.mem_range.mpr (B.lt b B.bmem), h1 (B.lt b B.bmem)⟩
  have he : e ∈ (List.range N).filter f := List.mem_filter.mpr ⟨List.mem_range.mpr B.elt, h2 B.elt⟩
  have := B.only S hb he
  unfold insideB
  refine List.filter_congr fun x hx => ?_
  have hx := List.mem_range.mp hx
  have hm : x ∈ (List.range N).filter f ↔ f x = true := by
    rw [List.mem_filter, List.mem_range]
    exact ⟨fun z => z.2, fun z => ⟨hx, z⟩⟩
  have h2 := hm.symm.trans (this x)
  cases hf : f x with
  | true => rw [decide_eq_true (h2.mp hf)]
  | false => rw [decide_eq_false fun z => by rw [h2.mpr z] at hf; cases hf]
theorem Bub.has_lot (B : Bub N ts b e P) : insideB N P e ∈ lotsN b e N := lots_has (fun _ => decide_eq_true (.inl B.bmem)) (fun _ => decide_eq_true (.inr rfl))
theorem Bub.inner (B : Bub N ts b e P) : innB ts (insideB N P e) e = (List.range ts.length).filter fun t => decide (nearT ts t ∈ P) := by
  unfold innB
  refine List.filter_congr fun t _ => ?_
  have : (nearT ts t ∈ insideB N P e ∧ nearT ts t ≠ e) ↔ nearT ts t ∈ P := by
    rw [inside_mem B]
    exact ⟨fun h => h.1.resolve_right h.2, fun h => ⟨.inl h, fun z => B.enot (z ▸ h)⟩⟩
  by_cases c : nearT ts t ∈ P
  · rw [decide_eq_true c, decide_eq_true (this.mpr c)]
  · rw [decide_eq_false c, decide_eq_false (fun z => c (this.mp z))]
/-- inner ties from a place -/
theorem Bub.inner_from (B : Bub N ts b e P) {p : Nat} (hp : p ∈ P) : ((innB ts (insideB N P e) e).filter fun t => decide (nearT ts t = p)) = outB ts p := by
  rw [B.inner, List.filter_filter]
  unfold outB
  refine List.filter_congr fun t _ => ?_
  by_cases c : nearT ts t = p
  · rw [decide_eq_true c, c, decide_eq_true hp]; rfl
  · rw [decide_eq_false c, Bool.false_and]
end
end My
/-! Q13: bubbles by their demands: what is shut, by all lots and by the one lot spread from the begin; the search finds each bubble and no other -/
namespace My
def ShutP (N : Nat) (ts : List (Nat × Nat)) (b e : Nat) : Prop := b ≠ e ∧ ∃ L ∈ lotsN b e N, Shut ts L b e
theorem lots_be {b e n : Nat} {L : List Nat} (h : L ∈ lotsN b e n) (hb : b < n) (he : e < n) : b ∈ L ∧ e ∈ L := by
  obtain ⟨f, rfl, h1, h2⟩ := lots_of h
  exact ⟨List.mem_filter.mpr ⟨List.mem_range.mpr hb, h1 hb⟩, List.mem_filter.mpr ⟨List.mem_range.mpr he, h2 he⟩⟩
section
variable {ts : List (Nat × Nat)} {I : Nat → Prop}
theorem Rc.trans {p q x : Nat} (h : Rc ts I p q) (k : Rc ts I q x) : Rc ts I p x := by
  induction k with
  | refl => exact h
  | step _ ht hi hn ih => exact .step ih ht hi hn
theorem Rc.first {p x : Nat} (h : Rc ts I p x) : p = x ∨ ∃ t, t < ts.length ∧ I t ∧ nearT ts t = p := by
  induction h with
  | refl => exact .inl rfl
  | step h ht hi hn ih =>
    rcases ih with ih | ih
    · exact .inr ⟨_, ht, hi, hn.trans ih.symm⟩
    · exact .inr ih
theorem Rc.last {p x : Nat} (h : Rc ts I p x) : p = x ∨ ∃ t, t < ts.length ∧ I t ∧ Rc ts I p (nearT ts t) ∧ farT ts t = x := by
  cases h with
  | refl => exact .inl rfl
  | step h ht hi hn => exact .inr ⟨_, ht, hi, by rw [hn]; exact h, rfl⟩
theorem Rc.exit {P : List Nat} {x y : Nat} (h : Rc ts I x y) (hx : x ∈ P) (hy : y ∉ P) : ∃ t, t < ts.length ∧ I t ∧ nearT ts t ∈ P ∧ farT ts t ∉ P ∧ Rc ts I (farT ts t) y := by
  induction h with
  | refl => exact absurd hx hy
  | @step q t h ht hi hn ih =>
    by_cases c : q ∈ P
    · exact ⟨t, ht, hi, by rw [hn]; exact c, hy, .refl⟩
    · obtain ⟨u, a1, a2, a3, a4, a5⟩ := ih c
      exact ⟨u, a1, a2, a3, a4, .step a5 ht hi hn⟩
end
section
variable {N : Nat} {ts : List (Nat × Nat)} {b e : Nat} {P M L : List Nat}
theorem no_in (hin : ∀ z ∈ P, z ≠ b → MayPass ts P z) (hc : Cond1 ts L b e) {x y : Nat} (hx : x ∉ P) (r : Rc ts (InnT ts L e) x y) : y ∉ P := by
  induction r with
  | refl => exact hx
  | @step q t _ ht hi hn ih =>
    intro z
    have := hin _ z ((hc t ht).mp hi).2 t ht rfl
    rw [hn] at this
    exact ih this
theorem Srch.may (S : Srch N ts b P M) : ∀ z ∈ P, z ≠ b → MayPass ts P z := fun z hz hb t ht e => by
  obtain ⟨i, hi⟩ := get_of_mem hz
  have i0 : 0 < i := by
    cases i with
    | zero => rw [S.hd] at hi; exact absurd (Option.some.inj hi).symm hb
    | succ k => omega
  obtain ⟨j, _, ej⟩ := S.inn i z t hi i0 ht e
  exact List.mem_of_getElem? ej
theorem Srch.bP (S : Srch N ts b P M) : b ∈ P := List.mem_of_getElem? S.hd
/-- what is passed while something else is marked is no end -/
theorem Srch.unshut (S : Srch N ts b P M) (hb : b ∉ M) (hbN : b < N) {p m : Nat} (hpN : p < N) (hp : p ∈ M) (hm : MayPass ts P p) (hmM : m ∈ M) (hne : m ≠ p) : ¬ ShutP N ts b p := by
  rintro ⟨hbp, L, hL, Sh⟩
  obtain ⟨hbL, hpL⟩ := lots_be hL hbN hpN
  have hpP : p ∉ P := ((S.mem p).mp hp).2.resolve_right fun z => hbp z.symm
  have go : ∀ {q t : Nat}, q ∈ P → q ∈ L → t ∈ outB ts q → farT ts t ∈ L := fun {q t} hq hqL ht => by
    obtain ⟨h1, h2⟩ := outB_mem.mp ht
    exact ((Sh.1 t h1).mp ⟨by rw [h2]; exact hqL, by rw [h2]; rintro rfl; exact hpP hq⟩).1
  have inL : ∀ (n i z : Nat), i < n → P[i]? = some z → z ∈ L := by
    intro n
    induction n with
    | zero => intro i z hi; omega
    | succ n ih =>
      intro i z hi h
      by_cases i0 : 0 < i
      · obtain ⟨j, t, q, hj, hq, ht, e⟩ := S.rch i z h i0
        rw [← e]
        exact go (List.mem_of_getElem? hq) (ih j q (by omega) hq) ht
      · have : i = 0 := by omega
        subst this
        rw [S.hd] at h
        exact (Option.some.inj h) ▸ hbL
  have allL : ∀ z ∈ P, z ∈ L := fun z hz => by
    obtain ⟨i, hi⟩ := get_of_mem hz
    exact inL (i + 1) i z (by omega) hi
  obtain ⟨⟨q, hq, t, ht, e⟩, hmP⟩ := (S.mem m).mp hmM
  have hmL : m ∈ L := e ▸ go hq (allL q hq) ht
  have hmP : m ∉ P := hmP.resolve_right fun z => hb (z ▸ hmM)
  rcases (Sh.2 m hmL).1.last with z | ⟨t, ht, hi, r, ef⟩
  · exact hne z
  · exact no_in S.may Sh.1 hmP r (hm t ht ef)
theorem exists_least {α : Type} {R : α → α → Prop} (hi : ∀ x, ¬ R x x) (htr : ∀ x y z, R x y → R y z → R x z) : ∀ {M : List α}, M ≠ [] → ∃ m ∈ M, ∀ x ∈ M, ¬ R x m
  | [], h => absurd rfl h
  | [a], _ => ⟨a, by simp, fun x hx => by rw [List.mem_singleton.mp hx]; exact hi a⟩
  | a :: c :: r, _ => by
    obtain ⟨m, hm, h⟩ := exists_least hi htr (M := c :: r) (by simp)
    by_cases k : R a m
    · refine ⟨a, by simp, fun x hx z => ?_⟩
      rcases List.mem_cons.mp hx with y | y
      · rw [y] at z; exact hi a z
      · exact h x y (htr x a m z k)
    · refine ⟨m, List.mem_cons_of_mem _ hm, fun x hx => ?_⟩
      rcases List.mem_cons.mp hx with y | y
      · rw [y]; exact k
      · exact h x y
/-- one tie at least, then on -/
def Pl (ts : List (Nat × Nat)) (I : Nat → Prop) (x y : Nat) : Prop := ∃ t, t < ts.length ∧ I t ∧ Rc ts I x (nearT ts t) ∧ farT ts t = y
theorem Srch.full (hS : ShutP N ts b e) (hL : L ∈ lotsN b e N) (Sh : Shut ts L b e) (hbN : b < N) (heN : e < N) (hless : ∀ p ∈ L, p ≠ e → ¬ ShutP N ts b p) (hf : FarOk N ts) : ∀ (k : Nat) (P M : List Nat), Srch N ts b P M → (∀ y ∈ M, y < N) → M.Nodup → (∀ p ∈ P, p ∈ L ∧ p ≠ e) → k + P.length = N + 2 → ∃ R, srchF N ts b k P M = some (R, e)
  | 0, P, M, S, _, _, _, hk => by
    have := nodup_len S.nd S.lt
    omega
  | k + 1, P, M, S, hM, hn, hPL, hk => by
    obtain ⟨hbL, heL⟩ := lots_be hL hbN heN
    have hML : ∀ m ∈ M, m ∈ L ∧ m ≠ b ∧ m ∉ P := fun m hm => by
      obtain ⟨⟨q, hq, t, ht, ef⟩, hmP⟩ := (S.mem m).mp hm
      obtain ⟨h1, h2⟩ := outB_mem.mp ht
      have := (Sh.1 t h1).mp ⟨by rw [h2]; exact (hPL q hq).1, by rw [h2]; exact (hPL q hq).2⟩
      rw [ef] at this
      exact ⟨this.1, this.2, hmP.resolve_right this.2⟩
    have hb : b ∉ M := fun z => (hML b z).2.1 rfl
    have h0 : 0 < P.length := (List.getElem?_eq_some_iff.mp S.hd).1
    have heP : e ∉ P := fun z => (hPL e z).2 rfl
    have ho : ∀ q ∈ P, outB ts q ≠ [] := fun q hq z => by
      rcases ((Sh.2 q (hPL q hq).1).1).first with y | ⟨t, ht, _, hn⟩
      · exact (hPL q hq).2 y
      · have : t ∈ outB ts q := outB_mem.mpr ⟨ht, hn⟩
        rw [z] at this
        cases this
    have hl : ∀ q, P[P.length - 1]? = some q → outB ts q ≠ [] := fun q hq => ho q (List.mem_of_getElem? hq)
    have hlast := last_at h0
    have toM : ∀ {y : Nat}, Rc ts (InnT ts L e) b y → y ∉ P → ∃ m ∈ M, Rc ts (InnT ts L e) m y := fun {y} r hy => by
      obtain ⟨t, a1, a2, a3, a4, a5⟩ := r.exit S.bP hy
      exact ⟨_, (S.mem _).mpr ⟨⟨_, a3, t, outB_mem.mpr ⟨a1, rfl⟩, rfl⟩, .inl a4⟩, a5⟩
    have hMne : M ≠ [] := by
      obtain ⟨m, hm, _⟩ := toM (Sh.2 e heL).2.1 heP
      exact fun z => by rw [z] at hm; cases hm
    obtain ⟨m0, hm0, hmin⟩ := exists_least (R := Pl ts (InnT ts L e)) (fun x ⟨t, ht, hi, r, ef⟩ => by
      have := (Sh.2 (nearT ts t) hi.1).2.2 t (innB_mem.mpr ⟨ht, hi⟩) rfl
      rw [ef] at this
      exact this r) (fun x y z ⟨t, ht, hi, r, ef⟩ ⟨u, hu, hj, s, eg⟩ => ⟨u, hu, hj, (Rc.step r ht hi rfl).trans (by rw [ef]; exact s), eg⟩) hMne
    have hfree : MayPass ts P m0 := fun t ht ef => Decidable.byContradiction fun z => by
      obtain ⟨h1, h2, h3⟩ := hML m0 hm0
      have hi := (Sh.1 t ht).mpr (by rw [ef]; exact ⟨h1, h2⟩)
      obtain ⟨m, hm, r⟩ := toM (Sh.2 (nearT ts t) hi.1).2.1 z
      exact hmin m hm ⟨t, ht, hi, r, ef⟩
    unfold srchF
    rw [if_neg hb, if_neg (hl _ hlast)]
    cases hfr : M.filter (mayB ts P) with
    | nil =>
      have : m0 ∈ M.filter (mayB ts P) := List.mem_filter.mpr ⟨hm0, mayB_iff.mpr hfree⟩
      rw [hfr] at this
      cases this
    | cons f r =>
      have hfm : f ∈ M.filter (mayB ts P) := by rw [hfr]; exact List.mem_cons_self
      obtain ⟨hfM, hfp⟩ := List.mem_filter.mp hfm
      have hmp := mayB_iff.mp hfp
      show ∃ R, (if M.length = 1 then _ else _) = some (R, e)
      by_cases h1 : M.length = 1
      · rw [if_pos h1]
        obtain ⟨x, rfl⟩ : ∃ x, M = [x] := by
          match M, h1 with
          | [x], _ => exact ⟨x, rfl⟩
        have : f = x := List.mem_singleton.mp hfM
        subst this
        have B := S.done hb (fun x => List.mem_singleton) (hM _ hfM) hmp hl
        by_cases c : f = e
        · exact ⟨P, by rw [c]⟩
        · exact absurd ⟨fun z => B.enot (z ▸ S.bP), insideB N P f, B.has_lot, B.shut fun x => inside_mem B⟩ (hless f (hML f hfM).1 c)
      · rw [if_neg h1]
        have hfe : f ≠ e := fun z => by
          subst z
          obtain ⟨m, hm, hne⟩ : ∃ m ∈ M, m ≠ f := by
            match M, hn, hfM, h1 with
            | [], _, h, _ => cases h
            | [x], _, _, h => exact absurd rfl h
            | x :: y :: r, h, _, _ =>
              by_cases c : x = f
              · refine ⟨y, by simp, fun z => ?_⟩
                have := (List.nodup_cons.mp h).1
                rw [c, ← z] at this
                exact this (by simp)
              · exact ⟨x, by simp, c⟩
          exact S.unshut hb hbN heN hfM hmp hm hne hS
        have S' := S.step hb hfM (hM f hfM) hmp hl (fun x => markF_mem hM hf)
        refine Srch.full hS hL Sh hbN heN hless hf k _ _ S' markF_lt (markF_nodup ..) (fun p hp => ?_) (by rw [List.length_append]; show k + (P.length + 1) = _; omega)
        rcases List.mem_append.mp hp with z | z
        · exact hPL p z
        · rw [List.mem_singleton.mp z]; exact ⟨(hML f hfM).1, hfe⟩
theorem srch_least (hbN : b < N) (hf : FarOk N ts) : ∀ (k : Nat) (P M : List Nat), Srch N ts b P M → (∀ y ∈ M, y < N) → M.Nodup → (∀ p ∈ P, p ≠ b → ¬ ShutP N ts b p) → ∀ R e, srchF N ts b k P M = some (R, e) → ∀ p ∈ R, p ≠ b → ¬ ShutP N ts b p
  | 0, P, M, _, _, _, _, R, e, h => by cases h
  | k + 1, P, M, S, hM, hn, hu, R, e, h => by
    unfold srchF at h
    split at h
    · cases h
    · rename_i hb
      split at h
      · cases h
      · rename_i ho
        have h0 : 0 < P.length := (List.getElem?_eq_some_iff.mp S.hd).1
        have hl : ∀ q, P[P.length - 1]? = some q → outB ts q ≠ [] := fun q hq => by
          rw [last_at h0] at hq
          cases hq
          exact ho
        split at h
        · cases h
        · rename_i f r hfr
          have hfm : f ∈ M.filter (mayB ts P) := by rw [hfr]; exact List.mem_cons_self
          obtain ⟨hfM, hfp⟩ := List.mem_filter.mp hfm
          have hmp := mayB_iff.mp hfp
          split at h
          · cases h
            exact hu
          · rename_i h1
            refine srch_least hbN hf k _ _ (S.step hb hfM (hM f hfM) hmp hl (fun x => markF_mem hM hf)) markF_lt (markF_nodup ..) (fun p hp hpb => ?_) R e h
            rcases List.mem_append.mp hp with z | z
            · exact hu p z hpb
            · rw [List.mem_singleton.mp z]
              obtain ⟨m, hm, hne⟩ : ∃ m ∈ M, m ≠ f := by
                match M, hn, hfM, h1 with
                | [], _, h, _ => cases h
                | [x], _, _, h => exact absurd rfl h
                | x :: y :: r, h, _, _ =>
                  by_cases c : x = f
                  · refine ⟨y, by simp, fun z => ?_⟩
                    have := (List.nodup_cons.mp h).1
                    rw [c, ← z] at this
                    exact this (by simp)
                  · exact ⟨x, by simp, c⟩
              exact S.unshut hb hbN (hM f hfM) hfM hmp hm hne
/-- a bubble by its demands -/
def BubP (N : Nat) (ts : List (Nat × Nat)) (b e : Nat) : Prop := 2 ≤ (outB ts b).length ∧ b ≠ e ∧ ∃ L ∈ lotsN b e N, Shut ts L b e ∧ ∀ p ∈ L, p ≠ e → ¬ ShutP N ts b p
theorem search_iff (hf : FarOk N ts) (hbN : b < N) (heN : e < N) : (∃ P, searchB N ts b = some (P, e)) ↔ BubP N ts b e := by
  have hI : 2 ≤ (outB ts b).length → Srch N ts b [b] (markF N ts [] b) := fun h2 => Srch.init hbN h2 fun x => by
    rw [markF_mem (fun y hy => by cases hy) hf]
    exact ⟨fun z => z.elim (fun y => nomatch y.1) id, .inr⟩
  constructor
  · rintro ⟨P, h⟩
    have B := search_bub hf hbN h
    refine ⟨B.two, fun z => B.enot (z ▸ B.bmem), insideB N P e, B.has_lot, B.shut fun x => inside_mem B, fun p hp hpe => ?_⟩
    have hpP := ((inside_mem B).mp hp).resolve_right hpe
    by_cases c : p = b
    · rw [c]; exact fun z => z.1 rfl
    · unfold searchB at h
      rw [if_neg (by have := B.two; omega)] at h
      refine srch_least hbN hf _ _ _ (hI B.two) markF_lt (markF_nodup ..) (fun q hq hqb => ?_) P e h p hpP c
      exact absurd (List.mem_singleton.mp hq) hqb
  · rintro ⟨h2, hbe, L, hL, Sh, hless⟩
    unfold searchB
    rw [if_neg (by omega)]
    obtain ⟨hbL, heL⟩ := lots_be hL hbN heN
    exact Srch.full ⟨hbe, L, hL, Sh⟩ hL Sh hbN heN hless hf (N + 1) _ _ (hI h2) markF_lt (markF_nodup ..) (fun p hp => by rw [List.mem_singleton.mp hp]; exact ⟨hbL, hbe⟩) (by simp)
end
end My
/-! Q10: ways through a bubble: all of them, how many, the best one -/
namespace My
def lastT (w : List Nat) : Nat := w.getLastD 0
/-- ways from a place, with so many ties at most -/
def wV (ts : List (Nat × Nat)) (e : Nat) : Nat → Nat → List (List Nat)
  | 0, _ => []
  | n + 1, p => (outB ts p).flatMap fun t => if farT ts t = e then [[t]] else (wV ts e n (farT ts t)).map (t :: ·)
/-- the walks gone on with so often -/
def wW (ts : List (Nat × Nat)) (e : Nat) : Nat → Nat → List (List Nat)
  | 0, p => (outB ts p).map fun t => [t]
  | n + 1, p => (outB ts p).flatMap fun t => if farT ts t = e then [[t]] else (wW ts e n (farT ts t)).map (t :: ·)
def goneOn (ts : List (Nat × Nat)) (e : Nat) (ws : List (List Nat)) : List (List Nat) := ws.flatMap fun w => if farT ts (lastT w) = e then [w] else (outB ts (farT ts (lastT w))).map fun t => w ++ [t]
theorem lastT_cons {t : Nat} {w : List Nat} (h : w ≠ []) : lastT (t :: w) = lastT w := by
  unfold lastT
  rw [List.getLastD_cons]
  cases w with
  | nil => exact absurd rfl h
  | cons a r => rw [List.getLastD_cons, List.getLastD_cons]
theorem lastT_snoc (w : List Nat) (t : Nat) : lastT (w ++ [t]) = t := by
  unfold lastT
  rw [List.getLastD_concat]
theorem wW_ne (ts : List (Nat × Nat)) (e : Nat) : ∀ (n p : Nat), ∀ w ∈ wW ts e n p, w ≠ []
  | 0, p, w, h => by
    obtain ⟨t, _, rfl⟩ := List.mem_map.mp h
    simp
  | n + 1, p, w, h => by
    obtain ⟨t, _, h⟩ := List.mem_flatMap.mp h
    split at h
    · rw [List.mem_singleton.mp h]; simp
    · obtain ⟨v, _, rfl⟩ := List.mem_map.mp h
      simp
theorem goneOn_map {ts : List (Nat × Nat)} {e t : Nat} : ∀ {ws : List (List Nat)}, (∀ w ∈ ws, w ≠ []) → goneOn ts e (ws.map (t :: ·)) = (goneOn ts e ws).map (t :: ·)
  | [], _ => rfl
  | w :: r, h => by
    have ih := goneOn_map (ts := ts) (e := e) (t := t) (ws := r) fun v hv => h v (List.mem_cons_of_mem _ hv)
    unfold goneOn at ih ⊢
    rw [List.map_cons, List.flatMap_cons, List.flatMap_cons, List.map_append, ih, lastT_cons (h w List.mem_cons_self)]
    congr 1
    split
    · rfl
    · rw [List.map_map]
      rfl
theorem goneOn_app {ts : List (Nat × Nat)} {e : Nat} (a b : List (List Nat)) : goneOn ts e (a ++ b) = goneOn ts e a ++ goneOn ts e b := List.flatMap_append ..
theorem goneOn_flat {ts : List (Nat × Nat)} {e : Nat} (f : Nat → List (List Nat)) : ∀ L : List Nat, goneOn ts e (L.flatMap f) = L.flatMap fun t => goneOn ts e (f t)
  | [] => rfl
  | t :: r => by rw [List.flatMap_cons, goneOn_app, goneOn_flat f r, List.flatMap_cons]
theorem goneOn_W (ts : List (Nat × Nat)) (e : Nat) : ∀ (n p : Nat), goneOn ts e (wW ts e n p) = wW ts e (n + 1) p
  | 0, p => by
    show goneOn ts e ((outB ts p).map fun t => [t]) = (outB ts p).flatMap fun t => if farT ts t = e then [[t]] else ((outB ts (farT ts t)).map fun u => [u]).map (t :: ·)
    have : ∀ L : List Nat, goneOn ts e (L.map fun t => [t]) = L.flatMap fun t => if farT ts t = e then [[t]] else ((outB ts (farT ts t)).map fun u => [u]).map (t :: ·) := by
      intro L
      induction L with
      | nil => rfl
      | cons t r ih =>
        rw [List.map_cons, List.flatMap_cons, ← ih]
        show (if farT ts (lastT [t]) = e then [[t]] else _) ++ _ = _
        congr 1
        show (if farT ts t = e then [[t]] else (outB ts (farT ts t)).map fun u => [t] ++ [u]) = _
        split
        · rfl
        · rw [List.map_map]; rfl
    exact this _
  | n + 1, p => by
    show goneOn ts e ((outB ts p).flatMap fun t => if farT ts t = e then [[t]] else (wW ts e n (farT ts t)).map (t :: ·)) = (outB ts p).flatMap fun t => if farT ts t = e then [[t]] else (wW ts e (n + 1) (farT ts t)).map (t :: ·)
    rw [goneOn_flat]
    congr 1
    funext t
    by_cases c : farT ts t = e
    · rw [if_pos c, if_pos c]
      show (if farT ts t = e then [[t]] else _) ++ [] = _
      rw [if_pos c, List.append_nil]
    · rw [if_neg c, if_neg c, goneOn_map (wW_ne ts e n _), goneOn_W ts e n]
theorem flatMap_same {α β : Type} {L : List α} {f g : α → List β} (h : ∀ x ∈ L, f x = g x) : L.flatMap f = L.flatMap g := by
  induction L with
  | nil => rfl
  | cons x r ih => rw [List.flatMap_cons, List.flatMap_cons, h x List.mem_cons_self, ih fun y hy => h y (List.mem_cons_of_mem _ hy)]
section
variable {N : Nat} {ts : List (Nat × Nat)} {b e : Nat} {P : List Nat}
/-- gone on with often enough, these are all ways -/
theorem Bub.wW_all (B : Bub N ts b e P) : ∀ (n i p : Nat), P[i]? = some p → P.length ≤ i + n + 1 → wW ts e n p = wV ts e (n + 1) p
  | 0, i, p, h, hn => by
    show ((outB ts p).map fun t => [t]) = (outB ts p).flatMap fun t => if farT ts t = e then [[t]] else (wV ts e 0 (farT ts t)).map (t :: ·)
    have hs : ∀ L : List Nat, (L.map fun t => [t]) = L.flatMap fun t => [[t]] := fun L => by
      induction L with
      | nil => rfl
      | cons x r ih => rw [List.map_cons, List.flatMap_cons, ih]; rfl
    rw [hs]
    refine flatMap_same fun t ht => ?_
    rcases B.out i p t h ht with z | ⟨j, hj, ej⟩
    · rw [if_pos z]
    · have := (List.getElem?_eq_some_iff.mp ej).1; omega
  | n + 1, i, p, h, hn => by
    refine flatMap_same fun t ht => ?_
    by_cases c : farT ts t = e
    · rw [if_pos c, if_pos c]
    · rw [if_neg c, if_neg c]
      rcases B.out i p t h ht with z | ⟨j, hj, ej⟩
      · exact absurd z c
      · rw [B.wW_all n j _ ej (by omega)]
theorem Bub.wV_more (B : Bub N ts b e P) : ∀ (n i p : Nat), P[i]? = some p → P.length ≤ i + n → wV ts e (n + 1) p = wV ts e n p
  | 0, i, p, h, hn => by have := (List.getElem?_eq_some_iff.mp h).1; omega
  | n + 1, i, p, h, hn => by
    refine flatMap_same fun t ht => ?_
    by_cases c : farT ts t = e
    · rw [if_pos c, if_pos c]
    · rw [if_neg c, if_neg c]
      rcases B.out i p t h ht with z | ⟨j, hj, ej⟩
      · exact absurd z c
      · rw [B.wV_more n j _ ej (by omega)]
/-- all ways from a place of the bubble -/
abbrev waysB (ts : List (Nat × Nat)) (e : Nat) (P : List Nat) (p : Nat) : List (List Nat) := wV ts e P.length p
theorem Bub.ways_eq (B : Bub N ts b e P) {p : Nat} (hp : p ∈ P) : waysB ts e P p = (outB ts p).flatMap fun t => if farT ts t = e then [[t]] else (waysB ts e P (farT ts t)).map (t :: ·) := by
  obtain ⟨i, hi⟩ := get_of_mem hp
  unfold waysB
  rw [← B.wV_more P.length i p hi (by omega)]
  rfl
theorem Bub.ways_W (B : Bub N ts b e P) : wW ts e P.length b = waysB ts e P b := by
  rw [B.wW_all P.length 0 b B.hd (by omega)]
  exact B.wV_more P.length 0 b B.hd (by omega)
theorem Bub.far (B : Bub N ts b e P) {p t : Nat} (hp : p ∈ P) (ht : t ∈ outB ts p) (c : farT ts t ≠ e) : farT ts t ∈ P := by
  obtain ⟨i, hi⟩ := get_of_mem hp
  rcases B.out i p t hi ht with z | ⟨j, _, ej⟩
  · exact absurd z c
  · exact List.mem_of_getElem? ej
theorem Bub.ways_ne (B : Bub N ts b e P) : ∀ (n i p : Nat), P[i]? = some p → P.length ≤ i + n → wV ts e n p ≠ []
  | 0, i, p, h, hn => by have := (List.getElem?_eq_some_iff.mp h).1; omega
  | n + 1, i, p, h, hn => by
    obtain ⟨t, ht⟩ := List.exists_mem_of_ne_nil _ (B.ne p (List.mem_of_getElem? h))
    intro z
    have z := List.flatMap_eq_nil_iff.mp z t ht
    split at z
    · cases z
    · rename_i c
      rcases B.out i p t h ht with y | ⟨j, hj, ej⟩
      · exact c y
      · exact B.ways_ne n j _ ej (by omega) (List.map_eq_nil_iff.mp z)
theorem Bub.some_way (B : Bub N ts b e P) {p : Nat} (hp : p ∈ P) : waysB ts e P p ≠ [] := by
  obtain ⟨i, hi⟩ := get_of_mem hp
  exact B.ways_ne P.length i p hi (by omega)
theorem flat_len {α β : Type} {f : α → List β} : ∀ {L : List α}, (∀ x ∈ L, f x ≠ []) → L.length ≤ (L.flatMap f).length
  | [], _ => Nat.zero_le _
  | x :: r, h => by
    rw [List.flatMap_cons, List.length_append, List.length_cons]
    have := flat_len (f := f) (L := r) fun y hy => h y (List.mem_cons_of_mem _ hy)
    have := List.length_pos_iff.mpr (h x List.mem_cons_self)
    omega
theorem Bub.two_ways (B : Bub N ts b e P) : 2 ≤ (waysB ts e P b).length := by
  rw [B.ways_eq B.bmem]
  refine Nat.le_trans B.two (flat_len fun t ht => ?_)
  split
  · simp
  · rename_i c
    exact fun z => B.some_way (B.far B.bmem ht c) (List.map_eq_nil_iff.mp z)
/-- how many walks there are -/
def prodO (ts : List (Nat × Nat)) (L : List Nat) : Nat := L.foldr (fun p r => (outB ts p).length * r) 1
theorem prodO_pos {L : List Nat} (h : ∀ p ∈ L, outB ts p ≠ []) : 1 ≤ prodO ts L := by
  induction L with
  | nil => exact Nat.le_refl _
  | cons p r ih =>
    have h1 := List.length_pos_iff.mpr (h p List.mem_cons_self)
    have h2 := ih fun q hq => h q (List.mem_cons_of_mem _ hq)
    show 1 ≤ (outB ts p).length * prodO ts r
    exact Nat.le_trans (by omega) (Nat.mul_le_mul h1 h2)
theorem prodO_drop {L : List Nat} (h : ∀ p ∈ L, outB ts p ≠ []) (j : Nat) : prodO ts (L.drop j) ≤ prodO ts L := by
  induction L generalizing j with
  | nil => simp
  | cons p r ih =>
    cases j with
    | zero => exact Nat.le_refl _
    | succ k =>
      have h1 := List.length_pos_iff.mpr (h p List.mem_cons_self)
      have h2 := ih (fun q hq => h q (List.mem_cons_of_mem _ hq)) k
      show prodO ts (r.drop k) ≤ (outB ts p).length * prodO ts r
      exact Nat.le_trans h2 (Nat.le_mul_of_pos_left _ h1)
theorem flat_le {α β : Type} {f : α → List β} {m : Nat} : ∀ {L : List α}, (∀ x ∈ L, (f x).length ≤ m) → (L.flatMap f).length ≤ L.length * m
  | [], _ => by simp
  | x :: r, h => by
    rw [List.flatMap_cons, List.length_append, List.length_cons, Nat.add_mul, Nat.one_mul]
    have := flat_le (f := f) (L := r) fun y hy => h y (List.mem_cons_of_mem _ hy)
    have := h x List.mem_cons_self
    omega
theorem Bub.wW_le (B : Bub N ts b e P) : ∀ (n i p : Nat), P[i]? = some p → (wW ts e n p).length ≤ prodO ts (P.drop i)
  | n, i, p, h => by
    obtain ⟨hi, ei⟩ := List.getElem?_eq_some_iff.mp h
    have ed : P.drop i = p :: P.drop (i + 1) := by rw [← ei]; exact List.drop_eq_getElem_cons hi
    have hne : ∀ q ∈ P.drop (i + 1), outB ts q ≠ [] := fun q hq => B.ne q (List.mem_of_mem_drop hq)
    have hpos := prodO_pos hne
    rw [ed]
    show _ ≤ (outB ts p).length * prodO ts (P.drop (i + 1))
    cases n with
    | zero =>
      show ((outB ts p).map fun t => [t]).length ≤ _
      rw [List.length_map]
      exact Nat.le_mul_of_pos_right _ hpos
    | succ k =>
      refine flat_le fun t ht => ?_
      split
      · exact hpos
      · rename_i c
        rw [List.length_map]
        rcases B.out i p t h ht with z | ⟨j, hj, ej⟩
        · exact absurd z c
        · have := B.wW_le k j _ ej
          have e2 : P.drop j = (P.drop (i + 1)).drop (j - (i + 1)) := by rw [List.drop_drop]; congr 1; omega
          rw [e2] at this
          exact Nat.le_trans this (prodO_drop hne _)
theorem out_sum : ∀ {L : List Nat}, L.Nodup → (L.map fun p => (outB ts p).length).sum ≤ ts.length := by
  intro L hn
  have key : ∀ (R : List Nat) (L : List Nat), L.Nodup → (L.map fun p => (R.filter fun t => decide (nearT ts t = p)).length).sum ≤ R.length := by
    intro R
    induction R with
    | nil =>
      intro L _
      induction L with
      | nil => simp
      | cons p r ih =>
        rw [List.map_cons, List.sum_cons]
        exact Nat.le_trans (by simp) (ih (by rename_i h; exact (List.nodup_cons.mp h).2))
    | cons t r ih =>
      intro L hL
      have h1 := ih L hL
      have h2 : ∀ L : List Nat, L.Nodup → (L.map fun p => ((t :: r).filter fun t => decide (nearT ts t = p)).length).sum ≤ (L.map fun p => (r.filter fun t => decide (nearT ts t = p)).length).sum + (if nearT ts t ∈ L then 1 else 0) := by
        intro L hL
        induction L with
        | nil => simp
        | cons p q ih2 =>
          have hq := List.nodup_cons.mp hL
          have := ih2 hq.2
          rw [List.map_cons, List.sum_cons, List.map_cons, List.sum_cons]
          by_cases c : nearT ts t = p
          · rw [List.filter_cons_of_pos (by simpa using c), List.length_cons]
            have hnq : nearT ts t ∉ q := by rw [c]; exact hq.1
            rw [if_neg hnq] at this
            rw [if_pos (by rw [c]; exact List.mem_cons_self)]
            omega
          · rw [List.filter_cons_of_neg (by simpa using c)]
            by_cases c2 : nearT ts t ∈ q
            · rw [if_pos c2] at this
              rw [if_pos (List.mem_cons_of_mem _ c2)]
              omega
            · rw [if_neg c2] at this
              omega
      have h3 := h2 L hL
      rw [List.length_cons]
      split at h3 <;> omega
  have := key (List.range ts.length) L hn
  rw [List.length_range] at this
  exact this
theorem four_prod : ∀ a b c d : Fin 11, a.val + b.val + c.val + d.val ≤ 10 → a.val * (b.val * (c.val * d.val)) ≤ 400 := by decide +kernel
theorem few_prod : ∀ {l : List Nat}, l.length ≤ 4 → l.sum ≤ 10 → (∀ x ∈ l, 1 ≤ x) → l.foldr (· * ·) 1 ≤ 400
  | [], _, _, _ => by decide
  | [a], _, h, _ => by simp at h ⊢; omega
  | [a, b], _, h, _ => by
    simp at h
    have := four_prod ⟨a, by omega⟩ ⟨b, by omega⟩ ⟨1, by omega⟩ ⟨1, by omega⟩
    by_cases c : a + b + 1 + 1 ≤ 10
    · have := this c
      simpa using this
    · have h1 : a * b ≤ 10 * 10 := Nat.mul_le_mul (by omega) (by omega)
      show a * (b * 1) ≤ 400
      rw [Nat.mul_one]; omega
  | [a, b, c], _, h, hx => by
    simp at h
    have ha := hx a (by simp)
    have hb := hx b (by simp)
    have hc := hx c (by simp)
    have h1 : a * (b * c) ≤ 8 * (8 * 8) := Nat.mul_le_mul (by omega) (Nat.mul_le_mul (by omega) (by omega))
    have := four_prod ⟨a, by omega⟩ ⟨b, by omega⟩ ⟨c, by omega⟩ ⟨1, by omega⟩
    by_cases d : a + b + c + 1 ≤ 10
    · have := this d
      simpa using this
    · have e : a + b + c = 10 := by omega
      have h2 := four_prod ⟨a, by omega⟩ ⟨b, by omega⟩ ⟨c - 1, by omega⟩ ⟨1, by omega⟩ (by show a + b + (c - 1) + 1 ≤ 10; omega)
      have h2 : a * (b * ((c - 1) * 1)) ≤ 400 := h2
      show a * (b * (c * 1)) ≤ 400
      rw [Nat.mul_one] at h2 ⊢
      have key : ∀ a b c : Fin 9, a.val + b.val + c.val = 10 → a.val * (b.val * c.val) ≤ 400 := by decide +kernel
      exact key ⟨a, by omega⟩ ⟨b, by omega⟩ ⟨c, by omega⟩ e
  | [a, b, c, d], _, h, _ => by
    simp at h
    have := four_prod ⟨a, by omega⟩ ⟨b, by omega⟩ ⟨c, by omega⟩ ⟨d, by omega⟩ (by show a + b + c + d ≤ 10; omega)
    simpa using this
  | _ :: _ :: _ :: _ :: _ :: _, h, _, _ => by simp at h
theorem prodO_eq (L : List Nat) : prodO ts L = (L.map fun p => (outB ts p).length).foldr (· * ·) 1 := by
  unfold prodO
  rw [List.foldr_map]
theorem Bub.few (B : Bub N ts b e P) (hN : N ≤ 5) (hm : ts.length ≤ 10) (n : Nat) : (wW ts e n b).length ≤ 400 := by
  have := B.wW_le n 0 b B.hd
  rw [List.drop_zero, prodO_eq] at this
  have hl := B.len
  have hs := out_sum (ts := ts) B.nd
  refine Nat.le_trans this (few_prod (by rw [List.length_map]; omega) (by omega) fun x hx => ?_)
  obtain ⟨p, hp, rfl⟩ := List.mem_map.mp hx
  exact List.length_pos_iff.mpr (B.ne p hp)
/-! ### completions, for a search in depth -/
def fullW (ts : List (Nat × Nat)) (e : Nat) (P : List Nat) (w : List Nat) : List (List Nat) := if farT ts (lastT w) = e then [w] else (waysB ts e P (farT ts (lastT w))).map (w ++ ·)
def okW (ts : List (Nat × Nat)) (e : Nat) (P : List Nat) (w : List Nat) : Prop := w ≠ [] ∧ (farT ts (lastT w) = e ∨ farT ts (lastT w) ∈ P)
theorem Bub.full_step (B : Bub N ts b e P) {w : List Nat} (h : farT ts (lastT w) ≠ e) (hp : farT ts (lastT w) ∈ P) : fullW ts e P w = ((outB ts (farT ts (lastT w))).map fun t => w ++ [t]).flatMap (fullW ts e P) := by
  unfold fullW
  rw [if_neg h, B.ways_eq hp, List.flatMap_map, List.map_flatMap]
  refine flatMap_same fun t ht => ?_
  rw [lastT_snoc]
  by_cases c : farT ts t = e
  · rw [if_pos c, if_pos c]; rfl
  · rw [if_neg c, if_neg c, List.map_map]
    refine List.map_congr_left fun v _ => ?_
    simp
theorem Bub.full_init (B : Bub N ts b e P) : ((outB ts b).map fun t => [t]).flatMap (fullW ts e P) = waysB ts e P b := by
  rw [B.ways_eq B.bmem, List.flatMap_map]
  refine flatMap_same fun t ht => ?_
  rfl
theorem Bub.full_ne (B : Bub N ts b e P) {w : List Nat} (h : okW ts e P w) : fullW ts e P w ≠ [] := by
  unfold fullW
  split
  · simp
  · rename_i c
    exact fun z => B.some_way (h.2.resolve_left c) (List.map_eq_nil_iff.mp z)
theorem wV_len (ts : List (Nat × Nat)) (e : Nat) : ∀ (n p : Nat), ∀ w ∈ wV ts e n p, w.length ≤ n ∧ w ≠ [] ∧ ∀ t ∈ w, t < ts.length
  | 0, p, w, h => by cases h
  | n + 1, p, w, h => by
    obtain ⟨t, ht, h⟩ := List.mem_flatMap.mp h
    have h1 := (outB_mem.mp ht).1
    split at h
    · rw [List.mem_singleton.mp h]
      exact ⟨by simp, by simp, fun u hu => by rw [List.mem_singleton.mp hu]; exact h1⟩
    · obtain ⟨v, hv, rfl⟩ := List.mem_map.mp h
      obtain ⟨a, _, c⟩ := wV_len ts e n _ v hv
      exact ⟨by simp; omega, by simp, fun u hu => (List.mem_cons.mp hu).elim (fun z => z ▸ h1) (c u)⟩
/-- what a search in depth still has ahead -/
def aheadW (ts : List (Nat × Nat)) (e : Nat) (P : List Nat) (K : Nat) (ws : List (List Nat)) : Nat := (ws.map fun w => (fullW ts e P w).length * (K + 1 - w.length)).sum
theorem aheadW_app (K : Nat) (a c : List (List Nat)) : aheadW ts e P K (a ++ c) = aheadW ts e P K a + aheadW ts e P K c := by
  unfold aheadW
  rw [List.map_append, List.sum_append_nat]
theorem aheadW_step {K : Nat} {w : List Nat} (f : List Nat) (hf : fullW ts e P w = (f.map fun t => w ++ [t]).flatMap (fullW ts e P)) (hw : w.length ≤ K) : aheadW ts e P K (f.map fun t => w ++ [t]) + (fullW ts e P w).length ≤ (fullW ts e P w).length * (K + 1 - w.length) := by
  rw [hf]
  clear hf
  induction f with
  | nil => simp [aheadW]
  | cons t r ih =>
    have e1 : aheadW ts e P K ((t :: r).map fun t => w ++ [t]) = (fullW ts e P (w ++ [t])).length * (K + 1 - (w ++ [t]).length) + aheadW ts e P K (r.map fun t => w ++ [t]) := rfl
    rw [e1, List.map_cons, List.flatMap_cons, List.length_append, List.length_append, Nat.add_mul]
    generalize (fullW ts e P (w ++ [t])).length = A at ih ⊢
    generalize ((r.map fun t => w ++ [t]).flatMap (fullW ts e P)).length = B at ih ⊢
    generalize aheadW ts e P K (r.map fun t => w ++ [t]) = G at ih ⊢
    have e2 : K + 1 - w.length = (K + 1 - (w.length + [t].length)) + 1 := by simp; omega
    have e3 : A * (K + 1 - w.length) = A * (K + 1 - (w.length + [t].length)) + A := by rw [e2, Nat.mul_add, Nat.mul_one]
    rw [e3]
    omega
/-! ### the best way -/
def costW (pr : Nat → Nat) (w : List Nat) : Nat := (w.map pr).sum
def iz' (w : List Nat) : List Int := w.map fun n : Nat => (n : Int)
def ltW (c : Nat) (w : List Nat) (d : Nat) (v : List Nat) : Prop := c < d ∨ (c = d ∧ iz' w < iz' v)
def BestW (pr : Nat → Nat) (S : List (List Nat)) (c : Nat) (w : List Nat) : Prop := w ∈ S ∧ c = costW pr w ∧ ∀ v ∈ S, ¬ ltW (costW pr v) v c w
theorem iz'_cons (t : Nat) (w : List Nat) : iz' (t :: w) = (t : Int) :: iz' w := rfl
theorem iz'_inj {w v : List Nat} (h : iz' w = iz' v) : w = v := by
  unfold iz' at h
  exact (List.map_inj_right (fun a b z => Int.ofNat.inj z)).mp h
theorem BestW.unique {pr : Nat → Nat} {S : List (List Nat)} {c d : Nat} {w v : List Nat} (h : BestW pr S c w) (k : BestW pr S d v) : c = d ∧ w = v := by
  obtain ⟨h1, h2, h3⟩ := h
  obtain ⟨k1, k2, k3⟩ := k
  have a := h3 v k1
  have b' := k3 w h1
  rw [← k2] at a
  rw [← h2] at b'
  unfold ltW at a b'
  have e : c = d := by
    by_cases x : c < d
    · exact absurd (.inl x) b'
    · by_cases y : d < c
      · exact absurd (.inl y) a
      · omega
  refine ⟨e, iz'_inj (List.le_antisymm (List.not_lt.mp fun z => a (.inr ⟨e.symm, z⟩)) (List.not_lt.mp fun z => b' (.inr ⟨e, z⟩)))⟩
end
end My
/-! Q14: walks and bubbles: turned about, a tie more, what a walk from the begin does -/
namespace My
def swapT (ts : List (Nat × Nat)) : List (Nat × Nat) := ts.map fun e => (e.2, e.1)
theorem swapT_len (ts : List (Nat × Nat)) : (swapT ts).length = ts.length := by unfold swapT; rw [List.length_map]
theorem swapT_at {ts : List (Nat × Nat)} (t : Nat) : nearT (swapT ts) t = farT ts t ∧ farT (swapT ts) t = nearT ts t := by
  unfold nearT farT swapT
  rw [List.getElem?_map]
  cases ts[t]? <;> exact ⟨rfl, rfl⟩
theorem swapT_swapT (ts : List (Nat × Nat)) : swapT (swapT ts) = ts := by
  unfold swapT
  rw [List.map_map]
  exact List.map_id _
section
variable {N : Nat} {ts : List (Nat × Nat)} {b e : Nat} {L P : List Nat}
theorem Rc.turned {I J : Nat → Prop} (h : ∀ t, t < ts.length → I t → J t) {x y : Nat} (r : Rc ts I x y) : Rc (swapT ts) J y x := by
  induction r with
  | refl => exact .refl
  | @step q t _ ht hi hn ih =>
    obtain ⟨a, c⟩ := swapT_at (ts := ts) t
    have := Rc.head (ts := swapT ts) (I := J) (by rw [swapT_len]; exact ht) (h t ht hi) (by rw [c, hn]; exact ih)
    rwa [a] at this
theorem Shut.turned (S : Shut ts L b e) : Shut (swapT ts) L e b := by
  have inn : ∀ t, t < ts.length → (InnT (swapT ts) L b t ↔ InnT ts L e t) := fun t ht => by
    obtain ⟨a, c⟩ := swapT_at (ts := ts) t
    unfold InnT
    rw [a]
    exact (S.1 t ht).symm
  refine ⟨fun t ht => ?_, fun p hp => ?_⟩
  · rw [swapT_len] at ht
    obtain ⟨a, c⟩ := swapT_at (ts := ts) t
    rw [inn t ht, c]
    exact Iff.rfl
  · obtain ⟨h1, h2, h3⟩ := S.2 p hp
    refine ⟨Rc.turned (fun t ht hi => (inn t ht).mpr hi) h2, Rc.turned (fun t ht hi => (inn t ht).mpr hi) h1, fun t ht hn r => ?_⟩
    obtain ⟨d, hi⟩ := innB_mem.mp ht
    rw [swapT_len] at d
    obtain ⟨a, c⟩ := swapT_at (ts := ts) t
    rw [c] at r
    have hi' := (inn t d).mp hi
    -- a round through the tie
    have r2 := Rc.turned (ts := swapT ts) (I := InnT (swapT ts) L b) (J := InnT ts L e) (fun t ht hi => (inn t (by rwa [swapT_len] at ht)).mp hi) r
    rw [swapT_swapT] at r2
    have hf : farT ts t = p := a.symm.trans hn
    have h4 := (S.2 (nearT ts t) hi'.1).2.2 t (innB_mem.mpr ⟨d, hi'⟩) rfl
    rw [hf] at h4
    exact h4 r2
theorem lots_flip {L : List Nat} : ∀ {n : Nat}, L ∈ lotsN b e n → L ∈ lotsN e b n := fun {n} h => by
  obtain ⟨f, rfl, h1, h2⟩ := lots_of h
  exact lots_has h2 h1
theorem ShutP.turned (h : ShutP N ts b e) : ShutP N (swapT ts) e b := by
  obtain ⟨hne, L, hL, S⟩ := h
  exact ⟨fun z => hne z.symm, L, lots_flip hL, S.turned⟩
theorem shut_turned : ShutP N ts b e ↔ ShutP N (swapT ts) e b := ⟨ShutP.turned, fun h => by
  have := h.turned
  rwa [swapT_swapT] at this⟩
/-- a tie more into the middle, from the end or from outside: the tuple is shut no more -/
theorem more_unshut (hbN : b < N) (heN : e < N) {L' : List Nat} {near m : Nat} (hL : L ∈ lotsN b e N) (S : Shut ts L b e) (hn : near ∉ L ∨ near = e) (hm : m ∈ L) (hmb : m ≠ b) : ¬ ShutP N (ts ++ [(near, m)]) b e := by
  rintro ⟨hne, K, hK, T⟩
  obtain ⟨hbL, heL⟩ := lots_be hL hbN heN
  obtain ⟨hbK, heK⟩ := lots_be hK hbN heN
  have old : ∀ t, t < ts.length → nearT (ts ++ [(near, m)]) t = nearT ts t ∧ farT (ts ++ [(near, m)]) t = farT ts t := fun t ht => by
    unfold nearT farT
    rw [List.getElem?_append_left ht]
    exact ⟨rfl, rfl⟩
  have new : nearT (ts ++ [(near, m)]) ts.length = near ∧ farT (ts ++ [(near, m)]) ts.length = m := by
    unfold nearT farT
    rw [List.getElem?_append_right (Nat.le_refl _), Nat.sub_self]
    exact ⟨rfl, rfl⟩
  -- what leads on from the begin stays within L
  have kl : ∀ x, Rc (ts ++ [(near, m)]) (InnT (ts ++ [(near, m)]) K e) b x → x ∈ L := fun x r => by
    induction r with
    | refl => exact hbL
    | @step q t _ ht hi hq ih =>
      rw [List.length_append] at ht
      have ht : t < ts.length + 1 := ht
      by_cases c : t < ts.length
      · obtain ⟨a1, a2⟩ := old t c
        rw [a2]
        rw [a1] at hq
        have hqe : q ≠ e := by
          have := hi.2
          rw [a1, hq] at this
          exact this
        exact ((S.1 t c).mp ⟨by rw [hq]; exact ih, by rw [hq]; exact hqe⟩).1
      · have : t = ts.length := by omega
        subst this
        have h1 := hi.2
        rw [new.1] at hq h1
        rcases hn with z | z
        · rw [hq] at z; exact absurd ih z
        · exact absurd z h1
  have lk : ∀ x, Rc ts (InnT ts L e) b x → x ∈ K := fun x r => by
    induction r with
    | refl => exact hbK
    | @step q t _ ht hi hq ih =>
      obtain ⟨a1, a2⟩ := old t ht
      have := (T.1 t (by rw [List.length_append]; exact Nat.lt_succ_of_lt ht)).mp ⟨by rw [a1, hq]; exact ih, by rw [a1]; exact hi.2⟩
      rw [a2] at this
      exact this.1
  have hmK : m ∈ K := lk m (S.2 m hm).2.1
  have hin := (T.1 ts.length (by rw [List.length_append]; exact Nat.lt_succ_self _)).mpr (by rw [new.2]; exact ⟨hmK, hmb⟩)
  have h1 := hin.1
  have h2 := hin.2
  rw [new.1] at h1 h2
  have hnL : near ∈ L := kl near (T.2 near h1).2.1
  rcases hn with z | z
  · exact z hnL
  · exact h2 z
/-- ties one behind the other, from a place -/
def Chain (ts : List (Nat × Nat)) : Nat → List Nat → Prop
  | _, [] => True
  | p, t :: r => t ∈ outB ts p ∧ Chain ts (farT ts t) r
/-- from a place within, a walk goes on by a way, whole, or ends within one -/
theorem Bub.chain (B : Bub N ts b e P) : ∀ (w : List Nat) (p : Nat), p ∈ P → Chain ts p w → ∃ v ∈ waysB ts e P p, v <+: w ∨ w <+: v
  | [], p, hp, _ => by
    obtain ⟨v, hv⟩ := List.exists_mem_of_ne_nil _ (B.some_way hp)
    exact ⟨v, hv, .inr (List.nil_prefix)⟩
  | t :: r, p, hp, ⟨ht, hr⟩ => by
    rw [B.ways_eq hp]
    by_cases c : farT ts t = e
    · refine ⟨[t], List.mem_flatMap.mpr ⟨t, ht, by rw [if_pos c]; exact List.mem_singleton.mpr rfl⟩, .inl ?_⟩
      exact ⟨r, rfl⟩
    · obtain ⟨v, hv, h⟩ := B.chain r _ (B.far hp ht c) hr
      refine ⟨t :: v, List.mem_flatMap.mpr ⟨t, ht, by rw [if_neg c]; exact List.mem_map.mpr ⟨v, hv, rfl⟩⟩, ?_⟩
      exact h.imp (fun z => (List.prefix_cons_inj t).mpr z) fun z => (List.prefix_cons_inj t).mpr z
/-- who comes to a place between comes from a passed one -/
theorem Bub.from_passed (B : Bub N ts b e P) {t : Nat} (ht : t < ts.length) (hp : farT ts t ∈ P) (hb : farT ts t ≠ b) : nearT ts t ∈ P := by
  obtain ⟨i, hi⟩ := get_of_mem hp
  have i0 : 0 < i := by
    cases i with
    | zero => rw [B.hd] at hi; exact absurd (Option.some.inj hi).symm hb
    | succ k => omega
  obtain ⟨j, _, ej⟩ := B.inn i _ t hi i0 ht rfl
  exact List.mem_of_getElem? ej
end
end My
namespace My
open PySem L2 PyProof.Rows
def topS (i : Nat) : Stmt := PySem.Challenge.pw_suretexts_k78_whole_nothing_between.main.body.getD i (.Pass ⟨0, 0, 0, 0⟩)
abbrev sis_integer : Stmt := topS 11
theorem scis_integer : FnScope ["value"] ["value"] (defScope sis_integer) := ⟨rfl, rfl, rfl, by decide +kernel, rfl, by decide +kernel, by decide +kernel⟩
abbrev sis_count : Stmt := topS 12
theorem scis_count : FnScope ["value"] ["value"] (defScope sis_count) := ⟨rfl, rfl, rfl, by decide +kernel, rfl, by decide +kernel, by decide +kernel⟩
abbrev sis_between : Stmt := topS 13
theorem scis_between : FnScope ["value", "least", "most"] ["value", "least", "most"] (defScope sis_between) := ⟨rfl, rfl, rfl, by decide +kernel, rfl, by decide +kernel, by decide +kernel⟩
abbrev sis_below : Stmt := topS 14
theorem scis_below : FnScope ["value", "limit"] ["value", "limit"] (defScope sis_below) := ⟨rfl, rfl, rfl, by decide +kernel, rfl, by decide +kernel, by decide +kernel⟩
abbrev sis_listed : Stmt := topS 15
theorem scis_listed : FnScope ["value"] ["value"] (defScope sis_listed) := ⟨rfl, rfl, rfl, by decide +kernel, rfl, by decide +kernel, by decide +kernel⟩
abbrev sparts_in_turn : Stmt := topS 17
theorem scparts_in_turn : FnScope ["points", "steps", "ahead", "behind", "near", "far", "_", "left", "seen", "point", "parts"] ["points", "steps"] (defScope sparts_in_turn) := ⟨rfl, rfl, rfl, by decide +kernel, rfl, by decide +kernel, by decide +kernel⟩
abbrev s_left_from : Stmt := topS 18
theorem sc_left_from : FnScope ["ends", "point", "seen", "left", "trail", "here", "at", "end"] ["ends", "point", "seen"] (defScope s_left_from) := ⟨rfl, rfl, rfl, by decide +kernel, rfl, by decide +kernel, by decide +kernel⟩
abbrev sare_ties : Stmt := topS 22
theorem scare_ties : FnScope ["places", "value", "tie"] ["places", "value"] (defScope sare_ties) := ⟨rfl, rfl, rfl, by decide +kernel, rfl, by decide +kernel, by decide +kernel⟩
abbrev sneed_web : Stmt := topS 24
theorem scneed_web : FnScope ["web"] ["web"] (defScope sneed_web) := ⟨rfl, rfl, rfl, by decide +kernel, rfl, by decide +kernel, by decide +kernel⟩
abbrev sneed_place : Stmt := topS 25
theorem scneed_place : FnScope ["web", "place"] ["web", "place"] (defScope sneed_place) := ⟨rfl, rfl, rfl, by decide +kernel, rfl, by decide +kernel, by decide +kernel⟩
abbrev sback_web : Stmt := topS 26
theorem scback_web : FnScope ["web", "near", "far"] ["web"] (defScope sback_web) := ⟨rfl, rfl, rfl, by decide +kernel, rfl, by decide +kernel, by decide +kernel⟩
abbrev s_need_places : Stmt := topS 29
theorem sc_need_places : FnScope ["web", "begin", "end"] ["web", "begin", "end"] (defScope s_need_places) := ⟨rfl, rfl, rfl, by decide +kernel, rfl, by decide +kernel, by decide +kernel⟩
abbrev s_spread : Stmt := topS 30
theorem sc_spread : FnScope ["ends", "start", "last", "seen", "waiting", "place", "onward", "end"] ["ends", "start", "last"] (defScope s_spread) := ⟨rfl, rfl, rfl, by decide +kernel, rfl, by decide +kernel, by decide +kernel⟩
abbrev s_ends_from : Stmt := topS 31
theorem sc_ends_from : FnScope ["web", "ties", "ends", "near", "far", "_"] ["web", "ties"] (defScope s_ends_from) := ⟨rfl, rfl, rfl, by decide +kernel, rfl, by decide +kernel, by decide +kernel⟩
abbrev s_inside_of : Stmt := topS 32
theorem sc_inside_of : FnScope ["web", "begin", "end"] ["web", "begin", "end"] (defScope s_inside_of) := ⟨rfl, rfl, rfl, by decide +kernel, rfl, by decide +kernel, by decide +kernel⟩
abbrev s_inner_ties : Stmt := topS 33
theorem sc_inner_ties : FnScope ["web", "lot", "begin", "end", "inner", "near", "far", "goes", "comes"] ["web", "lot", "begin", "end"] (defScope s_inner_ties) := ⟨rfl, rfl, rfl, by decide +kernel, rfl, by decide +kernel, by decide +kernel⟩
abbrev s_have_no_round : Stmt := topS 34
theorem sc_have_no_round : FnScope ["web", "ties", "steps", "near", "far"] ["web", "ties"] (defScope s_have_no_round) := ⟨rfl, rfl, rfl, by decide +kernel, rfl, by decide +kernel, by decide +kernel⟩
abbrev s_is_shut : Stmt := topS 35
theorem sc_is_shut : FnScope ["web", "begin", "end", "lot", "inner", "back", "leading", "near", "far", "place"] ["web", "begin", "end"] (defScope s_is_shut) := ⟨rfl, rfl, rfl, by decide +kernel, rfl, by decide +kernel, by decide +kernel⟩
abbrev s_is_bubble : Stmt := topS 36
theorem sc_is_bubble : FnScope ["web", "begin", "end", "within", "other"] ["web", "begin", "end"] (defScope s_is_bubble) := ⟨rfl, rfl, rfl, by decide +kernel, rfl, by decide +kernel, by decide +kernel⟩
abbrev sis_shut : Stmt := topS 37
theorem scis_shut : FnScope ["web", "begin", "end"] ["web", "begin", "end"] (defScope sis_shut) := ⟨rfl, rfl, rfl, by decide +kernel, rfl, by decide +kernel, by decide +kernel⟩
abbrev sis_bubble : Stmt := topS 38
theorem scis_bubble : FnScope ["web", "begin", "end"] ["web", "begin", "end"] (defScope sis_bubble) := ⟨rfl, rfl, rfl, by decide +kernel, rfl, by decide +kernel, by decide +kernel⟩
abbrev s_marked_with : Stmt := topS 39
theorem sc_marked_with : FnScope ["web", "marked", "place", "ends", "tie", "other"] ["web", "marked", "place"] (defScope s_marked_with) := ⟨rfl, rfl, rfl, by decide +kernel, rfl, by decide +kernel, by decide +kernel⟩
abbrev s_may_be_passed : Stmt := topS 40
theorem sc_may_be_passed : FnScope ["web", "place", "passed", "tie"] ["web", "place", "passed"] (defScope s_may_be_passed) := ⟨rfl, rfl, rfl, by decide +kernel, rfl, by decide +kernel, by decide +kernel⟩
abbrev s_searched : Stmt := topS 41
theorem sc_searched : FnScope ["web", "begin", "passed", "marked", "free", "place"] ["web", "begin"] (defScope s_searched) := ⟨rfl, rfl, rfl, by decide +kernel, rfl, by decide +kernel, by decide +kernel⟩
abbrev s_end_of : Stmt := topS 42
theorem sc_end_of : FnScope ["web", "place", "found"] ["web", "place"] (defScope s_end_of) := ⟨rfl, rfl, rfl, by decide +kernel, rfl, by decide +kernel, by decide +kernel⟩
abbrev sbubbles : Stmt := topS 43
theorem scbubbles : FnScope ["web", "ends", "place", "begin", "end"] ["web"] (defScope sbubbles) := ⟨rfl, rfl, rfl, by decide +kernel, rfl, by decide +kernel, by decide +kernel⟩
abbrev s_passed_within : Stmt := topS 44
theorem sc_passed_within : FnScope ["web", "begin", "end", "found"] ["web", "begin", "end"] (defScope s_passed_within) := ⟨rfl, rfl, rfl, by decide +kernel, rfl, by decide +kernel, by decide +kernel⟩
abbrev sinside : Stmt := topS 45
theorem scinside : FnScope ["web", "begin", "end"] ["web", "begin", "end"] (defScope sinside) := ⟨rfl, rfl, rfl, by decide +kernel, rfl, by decide +kernel, by decide +kernel⟩
abbrev s_gone_on : Stmt := topS 46
theorem sc_gone_on : FnScope ["web", "end", "walks", "ties", "longer", "walk", "place", "tie"] ["web", "end", "walks"] (defScope s_gone_on) := ⟨rfl, rfl, rfl, by decide +kernel, rfl, by decide +kernel, by decide +kernel⟩
abbrev sways_through : Stmt := topS 47
theorem scways_through : FnScope ["web", "begin", "end", "passed", "walks", "_", "tie"] ["web", "begin", "end"] (defScope sways_through) := ⟨rfl, rfl, rfl, by decide +kernel, rfl, by decide +kernel, by decide +kernel⟩
abbrev s_law_pot : Stmt := topS 49
theorem sc_law_pot : FnScope ["_law_script", "_law_k", "_law_cell", "_law_mixed"] ["_law_script", "_law_k"] (defScope s_law_pot) := ⟨rfl, rfl, rfl, by decide +kernel, rfl, by decide +kernel, by decide +kernel⟩
abbrev s_law_draw : Stmt := topS 50
theorem sc_law_draw : FnScope ["_law_pot_here", "_law_sides", "_law_digit"] ["_law_pot_here", "_law_sides"] (defScope s_law_draw) := ⟨rfl, rfl, rfl, by decide +kernel, rfl, by decide +kernel, by decide +kernel⟩
abbrev s_law_pick : Stmt := topS 51
theorem sc_law_pick : FnScope ["_law_pot_here", "_law_some"] ["_law_pot_here", "_law_some"] (defScope s_law_pick) := ⟨rfl, rfl, rfl, by decide +kernel, rfl, by decide +kernel, by decide +kernel⟩
abbrev s_law_ties : Stmt := topS 52
theorem sc_law_ties : FnScope ["_law_pot_here", "_law_places", "_law_ties_here", "_law_forward", "_law_turn", "_law_near", "_law_far"] ["_law_pot_here", "_law_places"] (defScope s_law_ties) := ⟨rfl, rfl, rfl, by decide +kernel, rfl, by decide +kernel, by decide +kernel⟩
abbrev s_law_lots : Stmt := topS 53
theorem sc_law_lots : FnScope ["_law_places", "_law_begin", "_law_end", "_law_found", "_law_place", "_law_more", "_law_lot"] ["_law_places", "_law_begin", "_law_end"] (defScope s_law_lots) := ⟨rfl, rfl, rfl, by decide +kernel, rfl, by decide +kernel, by decide +kernel⟩
abbrev s_law_come_to : Stmt := topS 54
theorem sc_law_come_to : FnScope ["_law_ties_here", "_law_inner_here", "_law_place", "_law_met", "_law_row", "_law_here", "_law_tie"] ["_law_ties_here", "_law_inner_here", "_law_place"] (defScope s_law_come_to) := ⟨rfl, rfl, rfl, by decide +kernel, rfl, by decide +kernel, by decide +kernel⟩
abbrev s_law_inner : Stmt := topS 55
theorem sc_law_inner : FnScope ["_law_ties_here", "_law_lot", "_law_begin", "_law_end", "_law_inner_here", "_law_tie", "_law_near", "_law_far", "_law_goes", "_law_comes", "_law_place", "_law_ahead"] ["_law_ties_here", "_law_lot", "_law_begin", "_law_end"] (defScope s_law_inner) := ⟨rfl, rfl, rfl, by decide +kernel, rfl, by decide +kernel, by decide +kernel⟩
abbrev s_law_shut : Stmt := topS 56
theorem sc_law_shut : FnScope ["_law_places", "_law_ties_here", "_law_begin", "_law_end", "_law_lot", "_law_inner_here"] ["_law_places", "_law_ties_here", "_law_begin", "_law_end"] (defScope s_law_shut) := ⟨rfl, rfl, rfl, by decide +kernel, rfl, by decide +kernel, by decide +kernel⟩
abbrev s_law_walk : Stmt := topS 57
theorem sc_law_walk : FnScope ["_law_pot_here", "_law_ties_here", "_law_begin", "_law_found", "_law_here", "_law_turn", "_law_some", "_law_tie"] ["_law_pot_here", "_law_ties_here", "_law_begin"] (defScope s_law_walk) := ⟨rfl, rfl, rfl, by decide +kernel, rfl, by decide +kernel, by decide +kernel⟩
abbrev s_law_walk_right : Stmt := topS 58
theorem sc_law_walk_right : FnScope ["_law_ties_here", "_law_walk_here", "_law_begin", "_law_told", "_law_between", "_law_ways", "_law_at", "_law_tie", "_law_rest", "_law_fits", "_law_one"] ["_law_ties_here", "_law_walk_here", "_law_begin", "_law_told"] (defScope s_law_walk_right) := ⟨rfl, rfl, rfl, by decide +kernel, rfl, by decide +kernel, by decide +kernel⟩
abbrev s_law_bubbles : Stmt := topS 59
theorem sc_law_bubbles : FnScope ["_law_places", "_law_ties_here", "_law_shut_here", "_law_found", "_law_begin", "_law_end", "_law_told", "_law_less", "_law_place", "_law_tie"] ["_law_places", "_law_ties_here"] (defScope s_law_bubbles) := ⟨rfl, rfl, rfl, by decide +kernel, rfl, by decide +kernel, by decide +kernel⟩
abbrev s_law_bubble_right : Stmt := topS 60
theorem sc_law_bubble_right : FnScope ["_law_pot_here", "_law_web", "_law_told", "_law_bubble", "_law_places", "_law_ties_here", "_law_begin", "_law_end", "_law_lot", "_law_ways", "_law_between", "_law_turn", "_law_here", "_law_walk_here", "_law_near", "_law_more", "_law_place"] ["_law_pot_here", "_law_web", "_law_told", "_law_bubble"] (defScope s_law_bubble_right) := ⟨rfl, rfl, rfl, by decide +kernel, rfl, by decide +kernel, by decide +kernel⟩
abbrev s_law_right : Stmt := topS 61
theorem sc_law_right : FnScope ["_law_pot_here", "_law_places", "_law_ties_here", "_law_web", "_law_back", "_law_due", "_law_bubble", "_law_begin", "_law_end"] ["_law_pot_here"] (defScope s_law_right) := ⟨rfl, rfl, rfl, by decide +kernel, rfl, by decide +kernel, by decide +kernel⟩
abbrev slaw : Stmt := topS 62
theorem sclaw : FnScope ["_law_script"] ["_law_script"] (defScope slaw) := ⟨rfl, rfl, rfl, by decide +kernel, rfl, by decide +kernel, by decide +kernel⟩
abbrev sWeb___init__ : Stmt := inClass (topS 23) 0
theorem scWeb___init__ : FnScope ["self", "places", "ties", "tie", "ends", "_"] ["self", "places", "ties"] (defScope sWeb___init__) := ⟨rfl, rfl, rfl, by decide +kernel, rfl, by decide +kernel, by decide +kernel⟩
abbrev sWeb___eq__ : Stmt := inClass (topS 23) 1
theorem scWeb___eq__ : FnScope ["self", "other"] ["self", "other"] (defScope sWeb___eq__) := ⟨rfl, rfl, rfl, by decide +kernel, rfl, by decide +kernel, by decide +kernel⟩
abbrev sWeb_places : Stmt := inClass (topS 23) 2
theorem scWeb_places : FnScope ["self"] ["self"] (defScope sWeb_places) := ⟨rfl, rfl, rfl, by decide +kernel, rfl, by decide +kernel, by decide +kernel⟩
abbrev sWeb_many : Stmt := inClass (topS 23) 3
theorem scWeb_many : FnScope ["self"] ["self"] (defScope sWeb_many) := ⟨rfl, rfl, rfl, by decide +kernel, rfl, by decide +kernel, by decide +kernel⟩
abbrev sWeb_ties : Stmt := inClass (topS 23) 4
theorem scWeb_ties : FnScope ["self"] ["self"] (defScope sWeb_ties) := ⟨rfl, rfl, rfl, by decide +kernel, rfl, by decide +kernel, by decide +kernel⟩
abbrev sWeb_ties_from : Stmt := inClass (topS 23) 5
theorem scWeb_ties_from : FnScope ["self", "place"] ["self", "place"] (defScope sWeb_ties_from) := ⟨rfl, rfl, rfl, by decide +kernel, rfl, by decide +kernel, by decide +kernel⟩
abbrev sWeb_ties_to : Stmt := inClass (topS 23) 6
theorem scWeb_ties_to : FnScope ["self", "place"] ["self", "place"] (defScope sWeb_ties_to) := ⟨rfl, rfl, rfl, by decide +kernel, rfl, by decide +kernel, by decide +kernel⟩
structure Bs (mg : Str → Option Value) : Prop where
  isinstance : mg "isinstance" = none
  int : mg "int" = none
  bool : mg "bool" = none
  list : mg "list" = none
  tuple : mg "tuple" = none
  len : mg "len" = none
  range : mg "range" = none
  abs : mg "abs" = none
  max : mg "max" = none
  divmod : mg "divmod" = none
  enumerate : mg "enumerate" = none
  sorted : mg "sorted" = none
  all : mg "all" = none
  any : mg "any" = none
  set : mg "set" = none
  repr : mg "repr" = none
structure Glo (mg : Str → Option Value) : Prop where
  MOST_PLACES : ∃ t, mg "MOST_PLACES" = some (.int 60 t)
  MOST_TIES : ∃ t, mg "MOST_TIES" = some (.int 80 t)
  MOST_WAYS : ∃ t, mg "MOST_WAYS" = some (.int 400 t)
structure WebK (K : PySem.W.Frag) (mg : Str → Option Value) (C : Addr) : Prop where
  cl : Cls K C
  nP : NoAttr K C "_places"
  nT : NoAttr K C "_ties"
  nF : NoAttr K C "_ties_from"
  nO : NoAttr K C "_ties_to"
  mgC : mg "Web" = some (.ref C)
  i1 : PySem.W.findIn K (.ref C) "__class__" = some (some (.builtin "object.__class__"))
  i2 : PySem.W.specialIn K (.builtin "object.__class__") "__get__" = some (some (.builtin "getset_descriptor.__get__"))
  i3 : PySem.W.takesIn K (.builtin "object.__class__") = some true
  i4 : PySem.W.mroIn K C (.type "object") = some true
  i5 : PySem.W.kitOne K (.ref C) (.ref C) = some true
  ne : PySem.W.findIn K (.ref C) "__ne__" = some (some (.builtin "object.__ne__"))
abbrev iv (L : List Nat) : List V := L.map fun n : Nat => V.int (n : Int)
theorem same_new {H : Hp} {p : Addr} (h : H p = none) (o : HO) : Same H (upd H p o) := fun b u q => by rw [upd_ne (ne_of_none q h)]; exact q
theorem iteNo {c A B : Prop} [Decidable c] (h : ¬ c) (b : B) : if decide c = true then A else B := by
  rw [decide_eq_false h]
  exact iteF b
theorem iteNot {c A B : Prop} [Decidable c] (h : ¬ c) (a : A) : if (!decide c) = true then A else B := by
  rw [decide_eq_false h]
  exact iteT a
theorem iteNot' {c A B : Prop} [Decidable c] (h : c) (b : B) : if (!decide c) = true then A else B := by
  rw [decide_eq_true h]
  exact iteF b
theorem iteNN {c A B : Prop} [Decidable c] (h : ¬ c) (b : B) : if (!!decide c) = true then A else B := by
  rw [decide_eq_false h]
  exact iteF b
theorem iv_at {L : List Nat} {j b : Nat} (h : L[j]? = some b) : atI (iv L) (j : Int) = some (.int (b : Int)) := by
  refine atI_nat ?_
  rw [iv, List.getElem?_map, h]
  rfl
theorem iv_app (L : List Nat) (n : Nat) : iv (L ++ [n]) = iv L ++ [V.int (n : Int)] := by
  unfold iv
  rw [List.map_append]
  rfl
theorem same_upd {H H' : Hp} {p : Addr} {o : HO} (h : Same H H') (np : H p = none) : Same H (upd H' p o) := fun b u q => by
  rw [upd_ne (ne_of_none q np)]
  exact h b u q
theorem iteYes {c A B : Prop} [Decidable c] (h : c) (a : A) : if decide c = true then A else B := by
  rw [decide_eq_true h]
  exact iteT a
theorem bl_true {c : Prop} [Decidable c] {Q : VK} {H : Hp} (h : c) (q : Q (.bl true) H) : Q (.bl (decide c)) H := by
  rw [decide_eq_true h]
  exact q
theorem int_eq {a b : Int} : V.int a = V.int b ↔ a = b := ⟨fun h => V.int.inj h, fun h => by rw [h]⟩
/-! ### lists of ints compared -/
abbrev iz (L : List Int) : List V := L.map V.int
theorem iv_iz (L : List Nat) : iv L = iz (L.map fun n : Nat => (n : Int)) := by
  unfold iv iz
  rw [List.map_map]
  rfl
abbrev dz (L : List Int) : PyData := .list (L.map PyData.int)
theorem dpAll_iz {K : PySem.W.Frag} {H : Hp} : ∀ L : List Int, DpAll K H (iz L) (L.map PyData.int)
  | [] => .nil
  | n :: r => .cons (.int n) (dpAll_iz r)
theorem dp_iz {K : PySem.W.Frag} {H : Hp} {p : Addr} {L : List Int} (h : H p = some (.lst (iz L))) : Dp K H (.ref p) (dz L) := .lst (SqL.of h) (dpAll_iz L)
theorem layAll_iz : ∀ L : List Int, PyData.canLayAll0 (L.map PyData.int) = true
  | [] => rfl
  | n :: r => by
    show (PyData.canLay0 (.int n) && PyData.canLayAll0 (r.map PyData.int)) = true
    rw [layAll_iz r]
    rfl
theorem depthAll_iz : ∀ L : List Int, PyData.depthAll (L.map PyData.int) = 0
  | [] => rfl
  | n :: r => by
    show max (PyData.depth (.int n)) (PyData.depthAll (r.map PyData.int)) = 0
    rw [depthAll_iz r]
    rfl
theorem shaped_iz (L : List Int) : SeqAt.shaped (dz L) = true := by
  unfold SeqAt.shaped
  have h1 : PyData.canLay0 (dz L) = true := by
    show PyData.canLay0 (.list (L.map PyData.int)) = true
    unfold PyData.canLay0
    exact layAll_iz L
  have h2 : PyData.depth (dz L) = 1 := by
    show PyData.depth (.list (L.map PyData.int)) = 1
    unfold PyData.depth
    rw [depthAll_iz]
  rw [h1, h2]
  rfl
theorem eqv_same (L : List Int) : PyData.eqv (dz L) (dz L) = true := by
  have h1 : PyData.canLay0 (dz L) = true := by
    show PyData.canLay0 (.list (L.map PyData.int)) = true
    unfold PyData.canLay0
    exact layAll_iz L
  exact SeqAt.eqv_refl _ h1
theorem eqv_empty (L : List Int) : PyData.eqv (dz L) (dz []) = decide (L = []) := by
  cases L with
  | nil => rfl
  | cons n r => rfl
theorem iteNb {x : Bool} {A B : Prop} (h : x = true) (b : B) : if (!x) = true then A else B := by
  rw [h]
  exact iteF b
theorem bl_is {x : Bool} {Q : VK} {H : Hp} (h : x = true) (q : Q (.bl true) H) : Q (.bl x) H := by
  rw [h]
  exact q
/-! ### webs in the heap -/
def Kept (a : Addr) (H H' : Hp) : Prop := ∀ b o, H b = some o → b ≠ a → H' b = some o
theorem Kept.trans {a : Addr} {H H1 H2 : Hp} (h : Kept a H H1) (h2 : Kept a H1 H2) : Kept a H H2 := fun b o e n => h2 b o (h b o e n) n
theorem Same.kept {a : Addr} {H H' : Hp} (h : Same H H') : Kept a H H' := fun b o e _ => h b o e
theorem paired_get {α β : Type} {F : α → β → Prop} : ∀ {l1 : List α} {l2 : List β} {i : Nat} {a : α}, Paired F l1 l2 → l1[i]? = some a → ∃ b, l2[i]? = some b ∧ F a b
  | _, _, _, _, .nil, h => by simp at h
  | _, _, 0, _, .cons r _, h => ⟨_, rfl, by cases h; exact r⟩
  | _, _, i + 1, _, .cons _ t, h => by
    obtain ⟨b, h1, h2⟩ := paired_get (i := i) t (by simpa using h)
    exact ⟨b, by simpa using h1, h2⟩
theorem paired_mono {α β : Type} {F G : α → β → Prop} (h : ∀ a b, F a b → G a b) : ∀ {l1 : List α} {l2 : List β}, Paired F l1 l2 → Paired G l1 l2
  | _, _, .nil => .nil
  | _, _, .cons a r => .cons (h _ _ a) (paired_mono h r)
theorem paired_len {α β : Type} {F : α → β → Prop} : ∀ {l1 : List α} {l2 : List β}, Paired F l1 l2 → l1.length = l2.length
  | _, _, .nil => rfl
  | _, _, .cons _ r => congrArg Nat.succ (paired_len r)
def TupAt (H : Hp) (p : Addr) (e : Nat × Nat) : Prop := H p = some (.tup [.int (e.1 : Int), .int (e.2 : Int)])
def TiesAt (H : Hp) (t : Addr) (ts : List (Nat × Nat)) : Prop := ∃ tas : List Addr, H t = some (.lst (tas.map V.ref)) ∧ Paired (TupAt H) tas ts
theorem TiesAt.same {H H' : Hp} {t : Addr} {ts : List (Nat × Nat)} (h : TiesAt H t ts) (s : Same H H') : TiesAt H' t ts := by
  obtain ⟨tas, h1, h2⟩ := h
  exact ⟨tas, s _ _ h1, paired_mono (fun p e hp => s _ _ hp) h2⟩
structure OkWeb (N : Nat) (ts : List (Nat × Nat)) : Prop where
  n0 : 0 < N
  n1 : N ≤ 60
  m : ts.length ≤ 80
  ok : ∀ e ∈ ts, e.1 < N ∧ e.2 < N
theorem bl_false {c : Prop} [Decidable c] {Q : VK} {H : Hp} (h : ¬ c) (q : Q (.bl false) H) : Q (.bl (decide c)) H := by
  rw [decide_eq_false h]
  exact q
/-! ### values of every kind -/
/-- a value, and what whole number it is -/
inductive Num (H : Hp) : V → Option Int → Prop where
  | int (n : Int) : Num H (.int n) (some n)
  | non : Num H .non none
  | bl (b : Bool) : Num H (.bl b) none
  | str (s : Str) : Num H (.str s) none
  | lst {a : Addr} {xs : List V} (h : H a = some (.lst xs)) : Num H (.ref a) none
  | tup {a : Addr} {xs : List V} (h : H a = some (.tup xs)) : Num H (.ref a) none
  | dK {a : Addr} {ks : List (Key × V)} (h : H a = some (.dK ks)) : Num H (.ref a) none
theorem Num.same {H H' : Hp} {v : V} {o : Option Int} (h : Num H v o) (s : Same H H') : Num H' v o := by
  cases h with
  | int n => exact .int n
  | non => exact .non
  | bl b => exact .bl b
  | str x => exact .str x
  | lst h => exact .lst (s _ _ h)
  | tup h => exact .tup (s _ _ h)
  | dK h => exact .dK (s _ _ h)
theorem Num.some_is {H : Hp} {v : V} {n : Int} (h : Num H v (some n)) : v = .int n := by cases h; rfl
def inR (n : Nat) (o : Option Int) : Bool := o.any fun i => decide (0 ≤ i) && decide (i < (n : Int))
/-- a value, and what it lists -/
inductive Val (H : Hp) : V → Option (List (Option Int)) → Prop where
  | int (n : Int) : Val H (.int n) none
  | non : Val H .non none
  | bl (b : Bool) : Val H (.bl b) none
  | str (s : Str) : Val H (.str s) none
  | dK {a : Addr} {ks : List (Key × V)} (h : H a = some (.dK ks)) : Val H (.ref a) none
  | lst {a : Addr} {xs : List V} {os : List (Option Int)} (h : H a = some (.lst xs)) (p : Paired (Num H) xs os) : Val H (.ref a) (some os)
  | tup {a : Addr} {xs : List V} {os : List (Option Int)} (h : H a = some (.tup xs)) (p : Paired (Num H) xs os) : Val H (.ref a) (some os)
theorem Val.same {H H' : Hp} {v : V} {o : Option (List (Option Int))} (h : Val H v o) (s : Same H H') : Val H' v o := by
  cases h with
  | int n => exact .int n
  | non => exact .non
  | bl b => exact .bl b
  | str x => exact .str x
  | lst h p => exact .lst (s _ _ h) (paired_mono (fun a b q => q.same s) p)
  | tup h p => exact .tup (s _ _ h) (paired_mono (fun a b q => q.same s) p)
  | dK h => exact .dK (s _ _ h)
theorem inR_lt {u n : Nat} (h : u < n) : inR n (some (u : Int)) = true := by
  show (decide (0 ≤ (u : Int)) && decide ((u : Int) < (n : Int))) = true
  rw [decide_eq_true (by omega), decide_eq_true (by omega)]
  rfl
/-- ties, in a list or in a tuple -/
def TiesS (H : Hp) (t : Addr) (ts : List (Nat × Nat)) : Prop := ∃ tas : List Addr, (H t = some (.lst (tas.map V.ref)) ∨ H t = some (.tup (tas.map V.ref))) ∧ Paired (TupAt H) tas ts
theorem TiesS.same {H H' : Hp} {t : Addr} {ts : List (Nat × Nat)} (h : TiesS H t ts) (s : Same H H') : TiesS H' t ts := by
  obtain ⟨tas, h1, h2⟩ := h
  exact ⟨tas, h1.imp (s _ _) (s _ _), paired_mono (fun p e hp => s _ _ hp) h2⟩
theorem TiesAt.s {H : Hp} {t : Addr} {ts : List (Nat × Nat)} (h : TiesAt H t ts) : TiesS H t ts := by
  obtain ⟨tas, h1, h2⟩ := h
  exact ⟨tas, .inl h1, h2⟩
theorem ties_num {H : Hp} : ∀ {tas : List Addr} {ts : List (Nat × Nat)}, Paired (TupAt H) tas ts → Paired (Num H) (tas.map V.ref) (tas.map fun _ => none)
  | _, _, .nil => .nil
  | _, _, .cons h r => .cons (.tup h) (ties_num r)
theorem TiesS.val {H : Hp} {t : Addr} {ts : List (Nat × Nat)} (h : TiesS H t ts) : ∃ os, Val H (.ref t) (some os) := by
  obtain ⟨tas, h1 | h1, h2⟩ := h
  · exact ⟨_, .lst h1 (ties_num h2)⟩
  · exact ⟨_, .tup h1 (ties_num h2)⟩
section
variable {P : Program} {w : World} {K : PySem.W.Frag} {mg : Str → Option Value} {base : Heap} {C : Addr}
def spis_integer (_ : PySem.W.Frag) (_ : Addr) : Sp := fun vs H Q _ => ∃ v o, vs = [v] ∧ Num H v o ∧ Q (.bl o.isSome) H
theorem okis_integer (D : Def K mg "is_integer" sis_integer ["value"]) (B : Bs mg) (Glb : Glo mg) (WK : WebK K mg C) :
    Good P w K mg base "is_integer" sis_integer ["value"] 1 (spis_integer K C) := by
  refine D.good fun f fd F => ?_
  refine F.ok scis_integer (fun vs H Q E h => ?_) (fun cdv A outer s H vs Q E hr h => ?_)
  · obtain ⟨v, o, rfl, hv, q⟩ := h
    first | rfl | (rcases h with ⟨_, _, rfl, _⟩ | ⟨_, rfl, _⟩ <;> rfl)
  obtain ⟨v, o, rfl, hv, q⟩ := h
  refine ⟨_, (pss_one (ps_ret (pe_and (pe_callB call_isi (by rfl) B.isinstance (by decide +kernel) (pa_cons (pv 0) (pa_cons (pe_bltn (v := .ty "int") (by rfl) B.int (by decide +kernel) rfl) pa_nil))) (pe_one (pe_not (pe_callB call_isi (by rfl) B.isinstance (by decide +kernel) (pa_cons (pv 0) (pa_cons (pe_bltn (v := .ty "bool") (by rfl) B.bool (by decide +kernel) rfl) pa_nil)))))))), ?_⟩
  cases hv with
  | int n => exact ⟨_, rfl, _, _, _, _, true, rfl, .ty _, .base (.int n), kit_ty (by decide +kernel), _, rfl, iteT ⟨_, rfl, _, _, _, _, false, rfl, .ty _, .base (.int n), kit_ty (by decide +kernel), _, rfl, q⟩⟩
  | non => exact ⟨_, rfl, _, _, _, _, false, rfl, .ty _, .base .non, kit_ty (by decide +kernel), _, rfl, iteF q⟩
  | bl b => exact ⟨_, rfl, _, _, _, _, true, rfl, .ty _, .base (.bl b), kit_ty (by decide +kernel), _, rfl, iteT ⟨_, rfl, _, _, _, _, true, rfl, .ty _, .base (.bl b), kit_ty (by decide +kernel), _, rfl, q⟩⟩
  | str x => exact ⟨_, rfl, _, _, _, _, false, rfl, .ty _, .base (.str x), kit_ty (by decide +kernel), _, rfl, iteF q⟩
  | lst h => exact ⟨_, rfl, _, _, _, _, false, rfl, .ty _, .base (.lst h), kit_ty (by decide +kernel), _, rfl, iteF q⟩
  | tup h => exact ⟨_, rfl, _, _, _, _, false, rfl, .ty _, .base (.tup h), kit_ty (by decide +kernel), _, rfl, iteF q⟩
  | dK h => exact ⟨_, rfl, _, _, _, _, false, rfl, .ty _, .base (.dK h), kit_ty (by decide +kernel), _, rfl, iteF q⟩
def spis_count (_ : PySem.W.Frag) (_ : Addr) : Sp := fun vs H Q _ => ∃ v o, vs = [v] ∧ Num H v o ∧ Q (.bl (o.any fun i => decide (0 ≤ i))) H
theorem okis_count (D : Def K mg "is_count" sis_count ["value"]) (B : Bs mg) (Glb : Glo mg) (WK : WebK K mg C)
    (his_integer : Good P w K mg base "is_integer" sis_integer ["value"] 1 (spis_integer K C)) :
    Good P w K mg base "is_count" sis_count ["value"] 2 (spis_count K C) := by
  refine D.good fun f fd F => ?_
  obtain ⟨fis_integer, dis_integer, Ois_integer, mis_integer, kis_integer, bis_integer, Fis_integer⟩ := his_integer
  refine F.ok scis_count (fun vs H Q E h => ?_) (fun cdv A outer s H vs Q E hr h => ?_)
  · obtain ⟨v, o, rfl, hv, q⟩ := h
    first | rfl | (rcases h with ⟨_, _, rfl, _⟩ | ⟨_, rfl, _⟩ <;> rfl)
  obtain ⟨v, o, rfl, hv, q⟩ := h
  refine ⟨_, (pss_one (ps_ret (pe_and (pe_call Ois_integer hr rfl mis_integer kis_integer bis_integer .nil pass0 (pa_cons (pv 0) pa_nil)) (pe_one (pe_cmpR op_ge (pv 0) pe_int (nomark _)))))), ?_⟩
  cases o with
  | none => exact ⟨_, rfl, v, none, rfl, hv, _, rfl, iteF q⟩
  | some n =>
    cases hv.some_is
    exact ⟨_, rfl, _, some n, rfl, hv, _, rfl, iteT ⟨_, rfl, _, _, rfl, rfl, q⟩⟩
def btwO (a b : Int) (o : Option Int) : Bool := o.any fun n => decide (a ≤ n) && decide (n ≤ b)
def spis_between (_ : PySem.W.Frag) (_ : Addr) : Sp := fun vs H Q _ => ∃ v o, ∃ a b : Int, vs = [v, .int a, .int b] ∧ Num H v o ∧ Q (.bl (btwO a b o)) H
theorem okis_between (D : Def K mg "is_between" sis_between ["value", "least", "most"]) (B : Bs mg) (Glb : Glo mg) (WK : WebK K mg C)
    (his_integer : Good P w K mg base "is_integer" sis_integer ["value"] 1 (spis_integer K C)) :
    Good P w K mg base "is_between" sis_between ["value", "least", "most"] 2 (spis_between K C) := by
  refine D.good fun f fd F => ?_
  obtain ⟨fis_integer, dis_integer, Ois_integer, mis_integer, kis_integer, bis_integer, Fis_integer⟩ := his_integer
  refine F.ok scis_between (fun vs H Q E h => ?_) (fun cdv A outer s H vs Q E hr h => ?_)
  · obtain ⟨v, o, a, b, rfl, hv, q⟩ := h
    first | rfl | (rcases h with ⟨_, _, rfl, _⟩ | ⟨_, rfl, _⟩ <;> rfl)
  obtain ⟨v, o, a, b, rfl, hv, q⟩ := h
  refine ⟨_, (pss_one (ps_ret (pe_and (pe_call Ois_integer hr rfl mis_integer kis_integer bis_integer .nil pass0 (pa_cons (pv 0) pa_nil)) (pe_one (pe_chain op_le op_le (pv 1) (pv 0) (pv 2)))))), ?_⟩
  refine ⟨_, rfl, v, o, rfl, hv, _, rfl, ?_⟩
  cases o with
  | none => exact iteF q
  | some n =>
    cases hv.some_is
    refine iteT ⟨_, rfl, _, rfl, _, _, rfl, rfl, _, rfl, ?_⟩
    replace q : Q (.bl (decide (a ≤ n) && decide (n ≤ b))) H := q
    by_cases h : a ≤ n
    · rw [decide_eq_true h, Bool.true_and] at q
      exact iteYes h ⟨_, rfl, _, _, rfl, rfl, q⟩
    · rw [decide_eq_false h, Bool.false_and] at q
      exact iteNo h q
def spis_below (_ : PySem.W.Frag) (_ : Addr) : Sp := fun vs H Q _ => ∃ v o, ∃ m : Nat, vs = [v, .int (m : Int)] ∧ Num H v o ∧ Q (.bl (inR m o)) H
theorem okis_below (D : Def K mg "is_below" sis_below ["value", "limit"]) (B : Bs mg) (Glb : Glo mg) (WK : WebK K mg C)
    (his_count : Good P w K mg base "is_count" sis_count ["value"] 2 (spis_count K C)) :
    Good P w K mg base "is_below" sis_below ["value", "limit"] 3 (spis_below K C) := by
  refine D.good fun f fd F => ?_
  obtain ⟨fis_count, dis_count, Ois_count, mis_count, kis_count, bis_count, Fis_count⟩ := his_count
  refine F.ok scis_below (fun vs H Q E h => ?_) (fun cdv A outer s H vs Q E hr h => ?_)
  · obtain ⟨v, o, m, rfl, hv, q⟩ := h
    first | rfl | (rcases h with ⟨_, _, rfl, _⟩ | ⟨_, rfl, _⟩ <;> rfl)
  obtain ⟨v, o, m, rfl, hv, q⟩ := h
  refine ⟨_, (pss_one (ps_ret (pe_and (pe_call Ois_count hr rfl mis_count kis_count bis_count .nil pass0 (pa_cons (pv 0) pa_nil)) (pe_one (pe_cmpR op_lt (pv 0) (pv 1) (nomark _)))))), ?_⟩
  refine ⟨_, rfl, v, o, rfl, hv, ?_⟩
  cases o with
  | none => exact ⟨_, rfl, iteF q⟩
  | some n =>
    cases hv.some_is
    refine ⟨_, rfl, ?_⟩
    replace q : Q (.bl (decide (0 ≤ n) && decide (n < (m : Int)))) H := q
    show if decide (0 ≤ n) = true then _ else _
    by_cases h : 0 ≤ n
    · rw [decide_eq_true h, Bool.true_and] at q
      exact iteYes h ⟨_, rfl, _, rfl, _, _, rfl, rfl, q⟩
    · rw [decide_eq_false h, Bool.false_and] at q
      exact iteNo h q
theorem isi_listed {v : V} {o : Option (List (Option Int))} {H : Hp} {tp : Addr} {Q : VK} (hv : Val H v o) (ntp : H tp = none) (q : Q (.bl o.isSome) (upd H tp (.tup [.ty "list", .ty "tuple"]))) : rIsiT K [v, .ref tp] (upd H tp (.tup [.ty "list", .ty "tuple"])) Q := by
  have no : ∀ {t : String} {x : V}, TyX K (upd H tp (.tup [.ty "list", .ty "tuple"])) x (.type t) → kitB t "list" = some false → kitB t "tuple" = some false → Q (.bl false) (upd H tp (.tup [.ty "list", .ty "tuple"])) → rIsiT K [x, .ref tp] (upd H tp (.tup [.ty "list", .ty "tuple"])) Q :=
    fun ty h1 h2 q => ⟨_, tp, [.ty "list", .ty "tuple"], _, [.type "list", .type "tuple"], false, rfl, upd_same, .cons (.ty _) (.cons (.ty _) .nil), ty, kitAny_cons (b := false) (kit_ty h1) (fun _ => kitAny_cons (b := false) (kit_ty h2) (fun _ => kitAny_nil) (fun h => by cases h)) (fun h => by cases h), q⟩
  cases hv with
  | lst ha _ => exact ⟨_, tp, [.ty "list", .ty "tuple"], .type "list", [.type "list", .type "tuple"], true, rfl, upd_same, .cons (.ty _) (.cons (.ty _) .nil), .base (.lst (same_new ntp _ _ _ ha)), kitAny_cons (b := true) (kit_ty (by decide +kernel)) (fun h => by cases h) (fun _ => rfl), q⟩
  | tup ha _ => exact ⟨_, tp, [.ty "list", .ty "tuple"], .type "tuple", [.type "list", .type "tuple"], true, rfl, upd_same, .cons (.ty _) (.cons (.ty _) .nil), .base (.tup (same_new ntp _ _ _ ha)), kitAny_cons (b := false) (kit_ty (by decide +kernel)) (fun _ => kitAny_cons (b := true) (kit_ty (by decide +kernel)) (fun h => by cases h) (fun _ => rfl)) (fun h => by cases h), q⟩
  | int n => exact no (.base (.int n)) (by decide +kernel) (by decide +kernel) q
  | non => exact no (.base .non) (by decide +kernel) (by decide +kernel) q
  | bl b => exact no (.base (.bl b)) (by decide +kernel) (by decide +kernel) q
  | str x => exact no (.base (.str x)) (by decide +kernel) (by decide +kernel) q
  | dK h => exact no (.base (.dK (same_new ntp _ _ _ h))) (by decide +kernel) (by decide +kernel) q
def spis_listed (_ : PySem.W.Frag) (_ : Addr) : Sp := fun vs H Q _ => ∃ v o, vs = [v] ∧ Val H v o ∧ ∀ H', Same H H' → Q (.bl o.isSome) H'
theorem okis_listed (D : Def K mg "is_listed" sis_listed ["value"]) (B : Bs mg) (Glb : Glo mg) (WK : WebK K mg C) :
    Good P w K mg base "is_listed" sis_listed ["value"] 1 (spis_listed K C) := by
  refine D.good fun f fd F => ?_
  refine F.ok scis_listed (fun vs H Q E h => ?_) (fun cdv A outer s H vs Q E hr h => ?_)
  · obtain ⟨v, o, rfl, hv, q⟩ := h
    first | rfl | (rcases h with ⟨_, _, rfl, _⟩ | ⟨_, rfl, _⟩ <;> rfl)
  obtain ⟨v, o, rfl, hv, q⟩ := h
  refine ⟨_, (pss_one (ps_ret (pe_callB call_isiT (by rfl) B.isinstance (by decide +kernel) (pa_cons (pv 0) (pa_cons (pe_tup (pa_cons (pe_bltn (v := .ty "list") (by rfl) B.list (by decide +kernel) rfl) (pa_cons (pe_bltn (v := .ty "tuple") (by rfl) B.tuple (by decide +kernel) rfl) pa_nil))) pa_nil))))), ?_⟩
  exact ⟨_, rfl, (by show 2 ≤ sizeLine; decide), fun tp ntp => isi_listed hv ntp (q _ (same_new ntp _))⟩
def spare_ties (_ : PySem.W.Frag) (_ : Addr) : Sp := fun vs H Q _ => ∃ N : Nat, ∃ t ts, vs = [.int (N : Int), .ref t] ∧ OkWeb N ts ∧ TiesS H t ts ∧ ∀ H', Same H H' → Q (.bl true) H'
theorem okare_ties (D : Def K mg "are_ties" sare_ties ["places", "value"]) (B : Bs mg) (Glb : Glo mg) (WK : WebK K mg C)
    (his_listed : Good P w K mg base "is_listed" sis_listed ["value"] 1 (spis_listed K C))
    (his_below : Good P w K mg base "is_below" sis_below ["value", "limit"] 3 (spis_below K C)) :
    Good P w K mg base "are_ties" sare_ties ["places", "value"] 4 (spare_ties K C) := by
  refine D.good fun f fd F => ?_
  obtain ⟨fis_listed, dis_listed, Ois_listed, mis_listed, kis_listed, bis_listed, Fis_listed⟩ := his_listed
  obtain ⟨fis_below, dis_below, Ois_below, mis_below, kis_below, bis_below, Fis_below⟩ := his_below
  refine F.ok scare_ties (fun vs H Q E h => ?_) (fun cdv A outer s H vs Q E hr h => ?_)
  · obtain ⟨N, t, ts, rfl, ho, hT, q⟩ := h
    first | rfl | (rcases h with ⟨_, _, rfl, _⟩ | ⟨_, rfl, _⟩ <;> rfl)
  obtain ⟨N, t, ts, rfl, ho, hT, q⟩ := h
  refine ⟨_, (pss_cons (ps_if (PW.pt (pw_or (pt_not (pt_val (pe_call Ois_listed (hr.mono (by decide)) rfl mis_listed kis_listed bis_listed .nil pass0 (pa_cons (pv 1) pa_nil)))) (pw_or1 (pt_cmpR op_gt (pe_callB call_len_seq (by rfl) B.len (by decide +kernel) (pa_cons (pv 1) pa_nil)) (pe_globI Glb.MOST_TIES) (nomark _)))))
    (pss_one (ps_ret pe_bl)) pss_nil)
  (pss_cons (ps_for PassesOwn.never rfl (pi_or (pi_list (pv 1)) (pi_tup (pv 1))) (pg_name (i := 2) scare_ties.nd rfl (by first | exact Or.inl rfl | exact Or.inr rfl))
    (pss_cons (ps_if (PW.pt (pw_or (pt_not (pt_val (pe_callB call_isi (by rfl) B.isinstance (by decide +kernel) (pa_cons (pv 2) (pa_cons (pe_bltn (v := .ty "tuple") (by rfl) B.tuple (by decide +kernel) rfl) pa_nil))))) (pw_or1 (pt_cmpR op_ne (pe_callB call_len_seq (by rfl) B.len (by decide +kernel) (pa_cons (pv 2) pa_nil)) pe_int (nomark _)))))
    (pss_one (ps_ret pe_bl)) pss_nil)
  (pss_one (ps_if (PW.pt (pw_or (pt_not (pt_val (pe_call Ois_below hr rfl mis_below kis_below bis_below .nil pass0 (pa_cons (pe_ix ix_tup (pv 2) pe_int (fun _ _ => rfl)) (pa_cons (pv 0) pa_nil))))) (pw_or1 (pt_not (pt_val (pe_call Ois_below hr rfl mis_below kis_below bis_below .nil pass0 (pa_cons (pe_ix ix_tup (pv 2) pe_int (fun _ _ => rfl)) (pa_cons (pv 0) pa_nil))))))))
    (pss_one (ps_ret pe_bl)) pss_nil))))
  (pss_one (ps_ret pe_bl)))), ?_⟩
  obtain ⟨os, hv⟩ := hT.val
  obtain ⟨tas, ht, hP⟩ := hT
  have hlen := paired_len hP
  have hm := ho.m
  refine ⟨_, rfl, _, _, rfl, hv, fun H1 hS1 => ⟨_, rfl, iteF ⟨_, rfl, _, _, rfl, (ht.imp (hS1 _ _) (hS1 _ _)).imp SqL.of SqT.of, _, _, rfl, rfl, _, rfl, iteNo (by rw [List.length_map]; omega) ?_⟩⟩⟩
  rcases ht with ht | ht
  · refine .inl ⟨_, rfl, t, rfl, ⟨_, SqL.of (hS1 _ _ ht)⟩, for_list (K := K) (a := t) (xs := tas.map V.ref) (fun i σ H' => Same H H' ∧ ∃ v, σ = [some (.int (N : Int)), some (.ref t), v]) ⟨hS1, none, rfl⟩ (fun i σ H' _ ⟨hS', _⟩ => SqL.of (hS' _ _ ht)) ?_ ?_⟩
    · rintro i x σ H2 hx ⟨hS2, v, rfl⟩
      rw [List.getElem?_map] at hx
      obtain ⟨p, hp, rfl⟩ : ∃ p, tas[i]? = some p ∧ x = V.ref p := by
        cases e : tas[i]? with
        | none => rw [e] at hx; cases hx
        | some p => rw [e] at hx; exact ⟨p, rfl, (Option.some.inj hx).symm⟩
      obtain ⟨⟨u, v⟩, he, hpe⟩ := paired_get hP hp
      have hp2 : H2 p = some (.tup [.int (u : Int), .int (v : Int)]) := hS2 _ _ hpe
      obtain ⟨hu, hv⟩ := ho.ok _ (List.mem_of_getElem? he)
      refine ⟨_, rfl, _, _, _, _, true, rfl, .ty _, .base (.tup hp2), kit_ty (by decide +kernel), _, rfl, iteF ⟨_, rfl, _, _, rfl, .inr (SqT.of hp2), rfl, _, rfl, iteNS rfl ?_⟩⟩
      refine ⟨_, rfl, _, _, _, .int (u : Int), rfl, rfl, SqT.of hp2, rfl, _, rfl, _, some (u : Int), N, rfl, .int _, _, rfl, iteNb (inR_lt hu) ⟨_, rfl, _, _, _, .int (v : Int), rfl, rfl, SqT.of hp2, rfl, _, rfl, _, some (v : Int), N, rfl, .int _, _, rfl, iteNb (inR_lt hv) ?_⟩⟩
      exact ⟨hS2, _, rfl⟩
    · rintro σ H2 ⟨hS2, v, rfl⟩
      exact q H2 hS2
  · refine .inr ⟨_, rfl, t, rfl, ⟨_, SqT.of (hS1 _ _ ht)⟩, for_tup (K := K) (a := t) (xs := tas.map V.ref) (fun i σ H' => Same H H' ∧ ∃ v, σ = [some (.int (N : Int)), some (.ref t), v]) ⟨hS1, none, rfl⟩ (fun i σ H' _ ⟨hS', _⟩ => SqT.of (hS' _ _ ht)) ?_ ?_⟩
    · rintro i x σ H2 hx ⟨hS2, v, rfl⟩
      rw [List.getElem?_map] at hx
      obtain ⟨p, hp, rfl⟩ : ∃ p, tas[i]? = some p ∧ x = V.ref p := by
        cases e : tas[i]? with
        | none => rw [e] at hx; cases hx
        | some p => rw [e] at hx; exact ⟨p, rfl, (Option.some.inj hx).symm⟩
      obtain ⟨⟨u, v⟩, he, hpe⟩ := paired_get hP hp
      have hp2 : H2 p = some (.tup [.int (u : Int), .int (v : Int)]) := hS2 _ _ hpe
      obtain ⟨hu, hv⟩ := ho.ok _ (List.mem_of_getElem? he)
      refine ⟨_, rfl, _, _, _, _, true, rfl, .ty _, .base (.tup hp2), kit_ty (by decide +kernel), _, rfl, iteF ⟨_, rfl, _, _, rfl, .inr (SqT.of hp2), rfl, _, rfl, iteNS rfl ?_⟩⟩
      refine ⟨_, rfl, _, _, _, .int (u : Int), rfl, rfl, SqT.of hp2, rfl, _, rfl, _, some (u : Int), N, rfl, .int _, _, rfl, iteNb (inR_lt hu) ⟨_, rfl, _, _, _, .int (v : Int), rfl, rfl, SqT.of hp2, rfl, _, rfl, _, some (v : Int), N, rfl, .int _, _, rfl, iteNb (inR_lt hv) ?_⟩⟩
      exact ⟨hS2, _, rfl⟩
    · rintro σ H2 ⟨hS2, v, rfl⟩
      exact q H2 hS2
end
end My
namespace My
open PySem L2 PyProof.Rows
/-! ### numbers of ties from a place -/
def frmN (ts : List (Nat × Nat)) (p : Nat) : Nat → List Nat
  | 0 => []
  | i + 1 => if (ts[i]?.map Prod.fst) = some p then frmN ts p i ++ [i] else frmN ts p i
abbrev frm (ts : List (Nat × Nat)) (p : Nat) : List Nat := frmN ts p ts.length
theorem frmN_len (ts : List (Nat × Nat)) (p : Nat) : ∀ i, (frmN ts p i).length ≤ i
  | 0 => by simp [frmN]
  | i + 1 => by
    have := frmN_len ts p i
    unfold frmN
    split
    · simp; omega
    · omega
theorem frmN_mem (ts : List (Nat × Nat)) (p x : Nat) : ∀ i, x ∈ frmN ts p i ↔ x < i ∧ ts[x]?.map Prod.fst = some p
  | 0 => by simp [frmN]
  | i + 1 => by
    have ih := frmN_mem ts p x i
    unfold frmN
    split
    · rename_i c
      rw [List.mem_append, ih, List.mem_singleton]
      constructor
      · rintro (⟨h1, h2⟩ | rfl)
        · exact ⟨by omega, h2⟩
        · exact ⟨by omega, c⟩
      · rintro ⟨h1, h2⟩
        by_cases z : x = i
        · exact .inr z
        · exact .inl ⟨by omega, h2⟩
    · rename_i c
      rw [ih]
      constructor
      · rintro ⟨h1, h2⟩
        exact ⟨by omega, h2⟩
      · rintro ⟨h1, h2⟩
        refine ⟨?_, h2⟩
        by_cases z : x = i
        · subst z; exact absurd h2 c
        · omega
theorem nodup_get {α : Type} {L : List α} {j k : Nat} {x : α} (hn : L.Nodup) (h1 : L[j]? = some x) (h2 : L[k]? = some x) : j = k :=
  (List.getElem?_inj (List.getElem?_eq_some_iff.mp h1).1 hn).mp (h1.trans h2.symm)
/-! ### new empty lists -/
def Fresh (H1 : Hp) (D : Addr) (n : Nat) (H' : Hp) : Prop := ∃ fas : List Addr, fas.length = n ∧ fas.Nodup ∧ (∀ x ∈ fas, H1 x = none ∧ x ≠ D) ∧ Same H1 H' ∧ H' D = some (.lst (fas.map V.ref)) ∧ ∀ x ∈ fas, H' x = some (.lst [])
theorem Fresh.zero {H1 : Hp} {D : Addr} (h : H1 D = none) : Fresh H1 D 0 (upd H1 D (.lst [])) :=
  ⟨[], rfl, by simp, fun x h => by simp at h, same_new h _, upd_same, fun x h => by simp at h⟩
theorem Fresh.step {H1 H2 : Hp} {D p : Addr} {n : Nat} (h : Fresh H1 D n H2) (nD : H1 D = none) (hn : n < 1000) (np : H2 p = none) :
    ∃ acc, upd H2 p (.lst []) D = some (.lst acc) ∧ acc.length < sizeLine ∧ Fresh H1 D (n + 1) (upd (upd H2 p (.lst [])) D (.lst (acc ++ [.ref p]))) := by
  obtain ⟨fas, h1, h2, h3, h4, h5, h6⟩ := h
  have hpD : D ≠ p := ne_of_none h5 np
  refine ⟨fas.map V.ref, by rw [upd_ne hpD]; exact h5, by rw [List.length_map, h1]; exact Nat.lt_trans hn (by decide), fas ++ [p], by simp [h1], ?_, ?_, ?_, by rw [upd_same, List.map_append]; rfl, ?_⟩
  · rw [List.nodup_append]
    refine ⟨h2, by simp, fun x hx y hy => ?_⟩
    rw [List.mem_singleton.mp hy]
    rintro rfl
    rw [h6 _ hx] at np
    cases np
  · intro x hx
    rcases List.mem_append.mp hx with z | z
    · exact h3 x z
    · rw [List.mem_singleton.mp z]
      exact ⟨h4.free np, hpD.symm⟩
  · intro b o e
    rw [upd_ne (ne_of_none e nD), upd_ne (ne_of_none (h4 _ _ e) np)]
    exact h4 _ _ e
  · intro x hx
    rcases List.mem_append.mp hx with z | z
    · rw [upd_ne (h3 x z).2, upd_ne (ne_of_none (h6 x z) np)]
      exact h6 x z
    · rw [List.mem_singleton.mp z, upd_ne hpD.symm, upd_same]
/-- rows: heaps that keep what H held, but for these lists -/
def KeptR (R : List Addr) (H H' : Hp) : Prop := ∀ b o, H b = some o → b ∉ R → H' b = some o
theorem KeptR.refl (R : List Addr) (H : Hp) : KeptR R H H := fun _ _ h _ => h
theorem KeptR.new {R : List Addr} {H H' : Hp} {p : Addr} {o : HO} (h : KeptR R H H') (np : H' p = none) : KeptR R H (upd H' p o) := fun b u e n => by
  have := h b u e n
  rw [upd_ne (ne_of_none this np)]
  exact this
theorem KeptR.put {R : List Addr} {H H' : Hp} {p : Addr} {o : HO} (h : KeptR R H H') (hp : p ∈ R) : KeptR R H (upd H' p o) := fun b u e n => by
  rw [upd_ne (fun z => n (by rw [z]; exact hp))]
  exact h b u e n
/-! ### webs -/
def wf (N : Nat) (tl fl ol : Addr) : List (Str × V) := putF "_ties_to" (.ref ol) (putF "_ties_from" (.ref fl) (putF "_ties" (.ref tl) (putF "_places" (.int (N : Int)) [])))
theorem wf_P (N : Nat) (tl fl ol : Addr) : (wf N tl fl ol).lookup ("_places" : Str) = some (.int (N : Int)) := by
  unfold wf
  rw [lookup_putF, if_neg (by decide +kernel), lookup_putF, if_neg (by decide +kernel), lookup_putF, if_neg (by decide +kernel), lookup_putF, if_pos rfl]
theorem wf_T (N : Nat) (tl fl ol : Addr) : (wf N tl fl ol).lookup ("_ties" : Str) = some (.ref tl) := by
  unfold wf
  rw [lookup_putF, if_neg (by decide +kernel), lookup_putF, if_neg (by decide +kernel), lookup_putF, if_pos rfl]
theorem wf_F (N : Nat) (tl fl ol : Addr) : (wf N tl fl ol).lookup ("_ties_from" : Str) = some (.ref fl) := by
  unfold wf
  rw [lookup_putF, if_neg (by decide +kernel), lookup_putF, if_pos rfl]
theorem wf_O (N : Nat) (tl fl ol : Addr) : (wf N tl fl ol).lookup ("_ties_to" : Str) = some (.ref ol) := by
  unfold wf
  rw [lookup_putF, if_pos rfl]
theorem wf_no (N : Nat) (tl fl ol : Addr) {m : Str} (h1 : ¬ m = "_ties_to") (h2 : ¬ m = "_ties_from") (h3 : ¬ m = "_ties") (h4 : ¬ m = "_places") : (wf N tl fl ol).lookup m = none := by
  unfold wf
  rw [lookup_putF, if_neg h1, lookup_putF, if_neg h2, lookup_putF, if_neg h3, lookup_putF, if_neg h4]
  all_goals rfl
theorem putF_len (f : Str) (v : V) : ∀ l : List (Str × V), (putF f v l).length ≤ l.length + 1
  | [] => by simp [putF]
  | (g, x) :: r => by
    have := putF_len f v r
    unfold putF
    split
    · simp
    · simp; omega
def RowsAt (H : Hp) (p : Addr) (N : Nat) (f : Nat → List Nat) : Prop := ∃ fas : List Addr, H p = some (.lst (fas.map V.ref)) ∧ fas.length = N ∧ ∀ j x, fas[j]? = some x → H x = some (.lst (iv (f j)))
theorem RowsAt.same {H H' : Hp} {p : Addr} {N : Nat} {f : Nat → List Nat} (h : RowsAt H p N f) (s : Same H H') : RowsAt H' p N f := by
  obtain ⟨fas, h1, h2, h3⟩ := h
  exact ⟨fas, s _ _ h1, h2, fun j x e => s _ _ (h3 j x e)⟩
theorem RowsAt.get {H : Hp} {p : Addr} {N : Nat} {f : Nat → List Nat} (h : RowsAt H p N f) {j : Nat} (hj : j < N) : ∃ x xs, H p = some (.lst xs) ∧ atI xs (j : Int) = some (.ref x) ∧ H x = some (.lst (iv (f j))) := by
  obtain ⟨fas, h1, h2, h3⟩ := h
  have e : fas[j]? = some (fas[j]'(by omega)) := List.getElem?_eq_getElem _
  refine ⟨_, _, h1, atI_nat ?_, h3 j _ e⟩
  rw [List.getElem?_map, e]
  rfl
def WebAt (C a : Addr) (N : Nat) (ts : List (Nat × Nat)) (H : Hp) : Prop := ∃ dx tl fl ol, H a = some (.ins C dx (wf N tl fl ol)) ∧ TiesAt H tl ts ∧ RowsAt H fl N (frm ts) ∧ RowsAt H ol N (frm (ts.map Prod.swap))
theorem WebAt.same {C a : Addr} {N : Nat} {ts : List (Nat × Nat)} {H H' : Hp} (h : WebAt C a N ts H) (s : Same H H') : WebAt C a N ts H' := by
  obtain ⟨dx, tl, fl, ol, h1, h2, h3, h4⟩ := h
  exact ⟨dx, tl, fl, ol, s _ _ h1, h2.same s, h3.same s, h4.same s⟩
/-- what is new in H' or a tuple, and what stands at a -/
noncomputable def Sub (H H' : Hp) (a : Addr) : Hp := fun b => by
  classical
  exact if H b = none ∨ b = a ∨ ∃ xs, H' b = some (.tup xs) then H' b else none
theorem Sub.of {H H' : Hp} {a b : Addr} {o : HO} (h : H' b = some o) (k : H b = none ∨ b = a ∨ ∃ xs, H' b = some (.tup xs)) : Sub H H' a b = some o := by
  unfold Sub
  rw [if_pos k]
  exact h
theorem Sub.same {H H' : Hp} {a : Addr} : Same (Sub H H' a) H' := fun b o e => by
  unfold Sub at e
  split at e
  · exact e
  · cases e
theorem Sub.none {H H' : Hp} {a b : Addr} {xs : List V} (h : H b = some (.lst xs)) (n : b ≠ a) (k : H' b = some (.lst xs)) : Sub H H' a b = Option.none := by
  unfold Sub
  rw [if_neg]
  rintro (z | z | ⟨ys, z⟩)
  · rw [h] at z; cases z
  · exact n z
  · rw [k] at z; cases z
theorem btw {n a b : Int} (h1 : a ≤ n) (h2 : n ≤ b) : (decide (a ≤ n) && decide (n ≤ b)) = true := by
  rw [decide_eq_true h1, decide_eq_true h2]
  rfl
section
variable {P : Program} {w : World} {K : PySem.W.Frag} {mg : Str → Option Value} {base : Heap} {C : Addr}
def spWeb___init__ (_ : PySem.W.Frag) (C : Addr) : Sp := fun vs H Q _ => ∃ a dx N t ts, vs = [.ref a, .int ((N : Nat) : Int), .ref t] ∧ OkWeb N ts ∧ TiesS H t ts ∧ H a = some (.ins C dx []) ∧ ∀ H', Kept a H H' → WebAt C a N ts (Sub H H' a) → Q .non H'
theorem okWeb___init__ (D : DefI K C "__init__" "Web.__init__" sWeb___init__ ["self", "places", "ties"]) (B : Bs mg) (Glb : Glo mg) (WK : WebK K mg C)
    (his_between : Good P w K mg base "is_between" sis_between ["value", "least", "most"] 2 (spis_between K C))
    (hare_ties : Good P w K mg base "are_ties" sare_ties ["places", "value"] 4 (spare_ties K C)) :
    GoodI P w K mg base C "__init__" "Web.__init__" sWeb___init__ ["self", "places", "ties"] 5 (spWeb___init__ K C) := by
  refine D.good fun f fd F => ?_
  obtain ⟨fis_between, dis_between, Ois_between, mis_between, kis_between, bis_between, Fis_between⟩ := his_between
  obtain ⟨fare_ties, dare_ties, Oare_ties, mare_ties, kare_ties, bare_ties, Fare_ties⟩ := hare_ties
  refine F.ok scWeb___init__ (fun vs H Q E h => ?_) (fun cdv A outer s H vs Q E hr h => ?_)
  · obtain ⟨a, dx, N, t, ts, rfl, ho, ht, ha, q⟩ := h
    first | rfl | (rcases h with ⟨_, _, rfl, _⟩ | ⟨_, rfl, _⟩ <;> rfl)
  obtain ⟨a, dx, N, t, ts, rfl, ho, ht, ha, q⟩ := h
  refine ⟨_, (pss_cons (ps_if (pt_not (pt_val (pe_call Ois_between (hr.mono (by decide)) rfl mis_between kis_between bis_between .nil pass0 (pa_cons (pv 1) (pa_cons pe_int (pa_cons (pe_globI Glb.MOST_PLACES) pa_nil))))))
    (pss_one ps_never) pss_nil)
  (pss_cons (ps_if (pt_not (pt_val (pe_call Oare_ties hr rfl mare_ties kare_ties bare_ties .nil pass0 (pa_cons (pv 1) (pa_cons (pv 2) pa_nil)))))
    (pss_one ps_never) pss_nil)
  (pss_cons (ps_fld (pv 0) (pv 1) rfl)
  (pss_cons (ps_fld (pv 0) (pe_callTy call_list_of (by rfl) B.list (by decide +kernel) (pa_cons (pv 2) pa_nil)) rfl)
  (pss_cons (ps_fld (pv 0) (pe_lc (own := [("_", 5)]) (g := gName 5) (by rfl) scWeb___init__.nd (pi_range1 (by rfl) B.range (pa_cons (pv 1) pa_nil)) (blkOk_by (own := [("_", 5)]) (N := ["self", "places", "ties", "tie", "ends", "_"]) (sc := defScope sWeb___init__) (by decide +kernel)) (fun _ _ _ _ _ => (pg_name (i := 5) scWeb___init__.nd rfl (by first | exact Or.inl rfl | exact Or.inr rfl))) (fun _ _ _ _ _ => pts_nil) (fun _ _ _ _ _ => (pe_lst pa_nil))) rfl)
  (pss_cons (ps_fld (pv 0) (pe_lc (own := [("_", 5)]) (g := gName 5) (by rfl) scWeb___init__.nd (pi_range1 (by rfl) B.range (pa_cons (pv 1) pa_nil)) (blkOk_by (own := [("_", 5)]) (N := ["self", "places", "ties", "tie", "ends", "_"]) (sc := defScope sWeb___init__) (by decide +kernel)) (fun _ _ _ _ _ => (pg_name (i := 5) scWeb___init__.nd rfl (by first | exact Or.inl rfl | exact Or.inr rfl))) (fun _ _ _ _ _ => pts_nil) (fun _ _ _ _ _ => (pe_lst pa_nil))) rfl)
  (pss_one (ps_for PassesOwn.never rfl (pi_enum (by rfl) B.enumerate (pa_cons (pe_fld (pv 0) rfl) pa_nil)) (pg_tup rfl (pgs_cons (pg_name (i := 3) scWeb___init__.nd rfl (by first | exact Or.inl rfl | exact Or.inr rfl)) (pgs_cons (pg_name (i := 4) scWeb___init__.nd rfl (by first | exact Or.inl rfl | exact Or.inr rfl)) pgs_nil)))
    (pss_cons (ps_expr (pe_bm PySem.F.plainAttrs_list PySem.F.slot_list_append PySem.F.type_list_append mt_append (pe_ix ix_list (pe_fld (pv 0) rfl) (pe_ix ix_tup (pv 4) pe_int (fun _ _ => rfl)) (fun _ _ => rfl)) (pa_cons (pv 3) pa_nil)))
  (pss_one (ps_expr (pe_bm PySem.F.plainAttrs_list PySem.F.slot_list_append PySem.F.type_list_append mt_append (pe_ix ix_list (pe_fld (pv 0) rfl) (pe_ix ix_tup (pv 4) pe_int (fun _ _ => rfl)) (fun _ _ => rfl)) (pa_cons (pv 3) pa_nil))))))))))))), ?_⟩
  refine ⟨_, rfl, .int (N : Int), some (N : Int), 1, 60, rfl, .int _, _, rfl, iteNb (btw (by have := ho.n0; omega) (by have := ho.n1; omega)) ?_⟩
  refine ⟨_, rfl, _, rfl, N, t, ts, rfl, ho, ht, fun H1 hS1 => ⟨_, rfl, iteF ?_⟩⟩
  have ha1 := hS1 _ _ ha
  obtain ⟨tas, ht1, hP1⟩ := ht.same hS1
  have nat : t ≠ a := ht1.elim (fun h => ne_of h ha1 (by intro q; cases q)) (fun h => ne_of h ha1 (by intro q; cases q))
  have nta : ∀ p e, TupAt H1 p e → p ≠ a := fun p e hp => ne_of hp ha1 (by intro q; cases q)
  refine ⟨_, rfl, _, rfl, a, C, dx, [], rfl, ha1, WK.cl, WK.nP, (by decide), ?_⟩
  refine ⟨_, rfl, t, _, rfl, (ht1.imp (fun h => SqL.of (by rw [upd_ne nat]; exact h)) (fun h => SqT.of (by rw [upd_ne nat]; exact h))), fun tl ntl => ?_⟩
  have natl : a ≠ tl := ne_of_none upd_same ntl
  have ntl1 : H1 tl = none := by rw [upd_ne natl.symm] at ntl; exact ntl
  refine ⟨_, rfl, a, C, dx, _, rfl, (by rw [upd_ne natl]; exact upd_same), WK.cl, WK.nT, Nat.lt_of_le_of_lt (putF_len _ _ _) (by decide), ?_⟩
  generalize e4 : upd (upd (upd H1 a (.ins C dx (putF "_places" (.int (N : Int)) []))) tl (.lst (tas.map V.ref))) a (.ins C dx (putF "_ties" (.ref tl) (putF "_places" (.int (N : Int)) []))) = H4
  have k4 : Kept a H1 H4 := fun b o e n => by rw [← e4, upd_ne n, upd_ne (ne_of_none e ntl1), upd_ne n]; exact e
  have ha4 : H4 a = some (.ins C dx (putF "_ties" (.ref tl) (putF "_places" (.int (N : Int)) []))) := by rw [← e4]; exact upd_same
  have htl4 : H4 tl = some (.lst (tas.map V.ref)) := by rw [← e4, upd_ne natl.symm]; exact upd_same
  have hN := ho.n1
  refine ⟨_, rfl, _, rfl, by omega, by omega, fun D1 nD1 => ?_⟩
  refine lc_range (lo := 0) (n := N) (fun i H' => Fresh H4 D1 i H') (Fresh.zero nD1) ?_ ?_
  · intro i H' hi hf
    exact ⟨rfl, Nat.zero_le _, fun p np => hf.step nD1 (by omega) np⟩
  rintro H5 ⟨fas, f1, f2, f3, f4, f5, f6⟩
  have ha5 := f4 _ _ ha4
  have fa : ∀ x ∈ fas, x ≠ a := fun x hx z => by
    have := (f3 x hx).1
    rw [z, ha4] at this
    cases this
  have naD1 : D1 ≠ a := fun z => by rw [z, ha4] at nD1; cases nD1
  refine ⟨_, rfl, a, C, dx, _, rfl, ha5, WK.cl, WK.nF, Nat.lt_of_le_of_lt (putF_len _ _ _) (Nat.lt_of_le_of_lt (Nat.succ_le_succ (putF_len _ _ _)) (by decide)), ?_⟩
  generalize e6 : upd H5 a (.ins C dx (putF "_ties_from" (.ref D1) (putF "_ties" (.ref tl) (putF "_places" (.int (N : Int)) [])))) = H6
  have k6 : Kept a H5 H6 := fun b o e n => by rw [← e6, upd_ne n]; exact e
  have ha6 : H6 a = some (.ins C dx (putF "_ties_from" (.ref D1) (putF "_ties" (.ref tl) (putF "_places" (.int (N : Int)) [])))) := by rw [← e6]; exact upd_same
  refine ⟨_, rfl, _, rfl, by omega, by omega, fun D2 nD2 => ?_⟩
  refine lc_range (lo := 0) (n := N) (fun i H' => Fresh H6 D2 i H') (Fresh.zero nD2) ?_ ?_
  · intro i H' hi hf
    exact ⟨rfl, Nat.zero_le _, fun p np => hf.step nD2 (by omega) np⟩
  rintro H7 ⟨os, g1, g2, g3, g4, g5, g6⟩
  have ha7 := g4 _ _ ha6
  refine ⟨_, rfl, a, C, dx, _, rfl, ha7, WK.cl, WK.nO, Nat.lt_of_le_of_lt (putF_len _ _ _) (Nat.lt_of_le_of_lt (Nat.succ_le_succ (putF_len _ _ _)) (Nat.lt_of_le_of_lt (Nat.succ_le_succ (Nat.succ_le_succ (putF_len _ _ _))) (by decide))), ?_⟩
  generalize e8 : upd H7 a (.ins C dx (putF "_ties_to" (.ref D2) (putF "_ties_from" (.ref D1) (putF "_ties" (.ref tl) (putF "_places" (.int (N : Int)) []))))) = H8
  have k8 : Kept a H7 H8 := fun b o e n => by rw [← e8, upd_ne n]; exact e
  have ha8 : H8 a = some (.ins C dx (wf N tl D1 D2)) := by rw [← e8]; exact upd_same
  have oa : ∀ x ∈ os, x ≠ a := fun x hx z => by
    have := (g3 x hx).1
    rw [z, ha6] at this
    cases this
  have naD2 : D2 ≠ a := fun z => by rw [z, ha6] at nD2; cases nD2
  have fo : ∀ x ∈ fas, x ∉ os := fun x hx z => by
    have h := (g3 x z).1
    rw [k6 _ _ (f6 x hx) (fa x hx)] at h
    cases h
  -- what stands before the lists is none of them
  have old : ∀ b o, H4 b = some o → b ≠ a → H8 b = some o ∧ b ∉ fas ∧ b ∉ os := fun b o e n => by
    have h5 := f4 _ _ e
    have h6 := k6 _ _ h5 n
    refine ⟨k8 _ _ (g4 _ _ h6) n, fun z => ?_, fun z => ?_⟩
    · rw [(f3 b z).1] at e; cases e
    · rw [(g3 b z).1] at h6; cases h6
  have ntla : tl ≠ a := natl.symm
  have oldA : a ∉ fas ∧ a ∉ os := ⟨fun z => fa a z rfl, fun z => oa a z rfl⟩
  have oldT := old _ _ htl4 ntla
  have oldE : ∀ p e, TupAt H1 p e → TupAt H8 p e ∧ p ∉ fas ∧ p ∉ os := fun p e hp => old _ _ (k4 _ _ hp (nta p e hp)) (nta p e hp)
  have f58 : H8 D1 = some (.lst (fas.map V.ref)) := k8 _ _ (g4 _ _ (k6 _ _ f5 naD1)) naD1
  have D1f : D1 ∉ fas := fun z => (f3 D1 z).2 rfl
  have D1o : D1 ∉ os := fun z => by
    have h := (g3 D1 z).1
    rw [k6 _ _ f5 naD1] at h
    cases h
  have g58 : H8 D2 = some (.lst (os.map V.ref)) := k8 _ _ g5 naD2
  have D2o : D2 ∉ os := fun z => (g3 D2 z).2 rfl
  have D2f : D2 ∉ fas := fun z => by
    have h := k6 _ _ (f6 D2 z) (fa D2 z)
    rw [nD2] at h
    cases h
  have fe8 : ∀ x ∈ fas, H8 x = some (.lst []) := fun x hx => k8 _ _ (g4 _ _ (k6 _ _ (f6 x hx) (fa x hx))) (fa x hx)
  have oe8 : ∀ x ∈ os, H8 x = some (.lst []) := fun x hx => k8 _ _ (g6 x hx) (oa x hx)
  have nin : ∀ {b : Addr}, b ∉ fas → b ∉ os → b ∉ fas ++ os := fun h1 h2 z => (List.mem_append.mp z).elim h1 h2
  refine ⟨_, rfl, a, C, dx, _, _, rfl, ha8, WK.cl, WK.nT, wf_T _ _ _ _, tl, _, rfl, SqL.of oldT.1, ?_⟩
  refine for_it (walk_enum (K := K) (a := tl) (xs := tas.map V.ref)) (fun i σ H' => ∃ v3 v4 v5 : Option V, σ = [some (.ref a), some (.int (N : Int)), some (.ref t), v3, v4, v5] ∧ KeptR (fas ++ os) H8 H' ∧ (∀ (j : Nat) (x : Addr), fas[j]? = some x → H' x = some (.lst (iv (frmN ts j i)))) ∧ (∀ (j : Nat) (x : Addr), os[j]? = some x → H' x = some (.lst (iv (frmN (ts.map Prod.swap) j i))))) ?_ ?_ ?_ ?_
  · exact ⟨_, _, _, rfl, .refl _ _, fun j x e => fe8 x (List.mem_of_getElem? e), fun j x e => oe8 x (List.mem_of_getElem? e)⟩
  · rintro i σ H' hi ⟨v3, v4, v5, rfl, hk, _, _⟩
    exact SqL.of (hk _ _ oldT.1 (nin oldT.2.1 oldT.2.2))
  · rintro i x σ H9 H10 hi ⟨v3, v4, v5, rfl, hk, hf, hos⟩ ⟨T0, x1, x2, rfl, nT0, rfl, e1, e2⟩
    cases e1
    rw [List.length_map] at hi
    replace e2 : (tas.map V.ref)[i]? = some x2 := e2
    rw [List.getElem?_map, List.getElem?_eq_getElem hi] at e2
    cases e2
    obtain ⟨⟨u, v⟩, he, hpe⟩ := paired_get hP1 (List.getElem?_eq_getElem hi)
    obtain ⟨hu, hv⟩ := ho.ok _ (List.mem_of_getElem? he)
    have hp8 := oldE _ _ hpe
    have hp9 : H9 tas[i] = some (.tup [.int (u : Int), .int (v : Int)]) := hk _ _ hp8.1 (nin hp8.2.1 hp8.2.2)
    have hkN : KeptR (fas ++ os) H8 (upd H9 T0 (.tup [.int (i : Int), .ref tas[i]])) := hk.new nT0
    generalize e10 : upd H9 T0 (.tup [.int (i : Int), .ref tas[i]]) = H10
    rw [e10] at hkN
    have hT10 : H10 T0 = some (.tup [.int (i : Int), .ref tas[i]]) := by rw [← e10]; exact upd_same
    have hS10 : Same H9 H10 := by rw [← e10]; exact same_new nT0 _
    have hp10 := hS10 _ _ hp9
    have ha10 := hkN _ _ ha8 (nin oldA.1 oldA.2)
    have hfl10 := hkN _ _ f58 (nin D1f D1o)
    obtain ⟨xu, eu⟩ : ∃ x, fas[u]? = some x := ⟨fas[u]'(by omega), List.getElem?_eq_getElem _⟩
    obtain ⟨xv, ev⟩ : ∃ x, os[v]? = some x := ⟨os[v]'(by omega), List.getElem?_eq_getElem _⟩
    have mu := List.mem_of_getElem? eu
    have mv := List.mem_of_getElem? ev
    have hxu := hS10 _ _ (hf u xu eu)
    have hxv := hos v xv ev
    have nxu : ∀ {b : Addr}, b ∉ fas → b ≠ xu := fun h z => h (by rw [z]; exact mu)
    have nxv : ∀ {b : Addr}, b ∉ os → b ≠ xv := fun h z => h (by rw [z]; exact mv)
    have htl := ho.m
    have htsl : i < ts.length := by rw [← paired_len hP1]; exact hi
    refine ⟨T0, _, rfl, SqT.of hT10, rfl, _, _, rfl, _, _, rfl, rfl, ?_⟩
    refine ⟨_, rfl, a, C, dx, _, _, rfl, ha10, WK.cl, WK.nF, wf_F _ _ _ _, _, rfl, _, _, _, .int (u : Int), rfl, rfl, SqT.of hp10, rfl, _, _, _, .ref xu, rfl, rfl, SqL.of hfl10, atI_nat (by rw [List.getElem?_map, eu]; rfl), .inl ⟨rfl, _, SqL.of hxu⟩, _, rfl, xu, _, _, rfl, rfl, hxu, ?_, ?_⟩
    · rw [List.length_map]
      exact Nat.lt_of_le_of_lt (frmN_len ts u i) (Nat.lt_trans (by omega : i < 1000) (by decide))
    generalize e11 : upd H10 xu (.lst (iv (frmN ts u i) ++ [.int (i : Int)])) = H11
    have hk11 : KeptR (fas ++ os) H8 H11 := by rw [← e11]; exact hkN.put (List.mem_append_left _ mu)
    have ha11 := hk11 _ _ ha8 (nin oldA.1 oldA.2)
    have hol11 := hk11 _ _ g58 (nin D2f D2o)
    have hp11 : H11 tas[i] = some (.tup [.int (u : Int), .int (v : Int)]) := hk11 _ _ hp8.1 (nin hp8.2.1 hp8.2.2)
    have hxv11 : H11 xv = some (.lst (iv (frmN (ts.map Prod.swap) v i))) := by
      rw [← e11, upd_ne (fun z => fo xu mu (by rw [← z]; exact mv))]
      exact hS10 _ _ hxv
    refine ⟨_, rfl, a, C, dx, _, _, rfl, ha11, WK.cl, WK.nO, wf_O _ _ _ _, _, rfl, _, _, _, .int (v : Int), rfl, rfl, SqT.of hp11, rfl, _, _, _, .ref xv, rfl, rfl, SqL.of hol11, atI_nat (by rw [List.getElem?_map, ev]; rfl), .inl ⟨rfl, _, SqL.of hxv11⟩, _, rfl, xv, _, _, rfl, rfl, hxv11, by rw [List.length_map]; exact Nat.lt_of_le_of_lt (frmN_len _ v i) (Nat.lt_trans (by omega : i < 1000) (by decide)), ?_⟩
    refine ⟨_, _, _, rfl, hk11.put (List.mem_append_right _ mv), fun j x e => ?_, fun j x e => ?_⟩
    · have nx : x ≠ xv := fun z => fo x (List.mem_of_getElem? e) (by rw [z]; exact mv)
      rw [upd_ne nx]
      have eti : ts[i]?.map Prod.fst = some u := by rw [he]; rfl
      by_cases c : x = xu
      · have ej : j = u := nodup_get f2 e (by rw [c]; exact eu)
        subst ej
        rw [c, ← e11, upd_same, show frmN ts j (i + 1) = frmN ts j i ++ [i] from if_pos eti, iv_app]
      · have ej : ¬ (ts[i]?.map Prod.fst) = some j := fun z => by
          rw [eti] at z
          cases z
          rw [eu] at e
          exact c (Option.some.inj e).symm
        rw [← e11, upd_ne c, show frmN ts j (i + 1) = frmN ts j i from if_neg ej]
        exact hS10 _ _ (hf j x e)
    · have etv : (ts.map Prod.swap)[i]?.map Prod.fst = some v := by rw [List.getElem?_map, he]; rfl
      by_cases c : x = xv
      · have ej : j = v := nodup_get g2 e (by rw [c]; exact ev)
        subst ej
        rw [c, upd_same, show frmN (ts.map Prod.swap) j (i + 1) = frmN (ts.map Prod.swap) j i ++ [i] from if_pos etv, iv_app]
      · have ej : ¬ ((ts.map Prod.swap)[i]?.map Prod.fst) = some j := fun z => by
          rw [etv] at z
          cases z
          rw [ev] at e
          exact c (Option.some.inj e).symm
        rw [upd_ne c, ← e11, upd_ne (fun z => fo xu mu (by rw [← z]; exact List.mem_of_getElem? e)), show frmN (ts.map Prod.swap) j (i + 1) = frmN (ts.map Prod.swap) j i from if_neg ej]
        exact hS10 _ _ (hos j x e)
  · rintro σ H9 ⟨v3, v4, v5, rfl, hk, hf, hos⟩
    have hlen : (tas.map V.ref).length = ts.length := by rw [List.length_map]; exact paired_len hP1
    rw [hlen] at hf hos
    have to9 : ∀ b o, H4 b = some o → b ≠ a → H9 b = some o := fun b o e n => by
      have h := old b o e n
      exact hk _ _ h.1 (nin h.2.1 h.2.2)
    have g0 : ∀ b, b ≠ a → H4 b = none → H b = none := fun b n e => by
      cases e2 : H b with
      | none => rfl
      | some o =>
        rw [k4 _ _ (hS1 _ _ e2) n] at e
        cases e
    have g06 : ∀ b, b ≠ a → H6 b = none → H b = none := fun b n e => by
      cases e2 : H b with
      | none => rfl
      | some o =>
        rw [k6 _ _ (f4 _ _ (k4 _ _ (hS1 _ _ e2) n)) n] at e
        cases e
    refine q H9 (fun b o e n => to9 b o (k4 _ _ (hS1 _ _ e) n) n) ⟨dx, tl, D1, D2, Sub.of (hk _ _ ha8 (nin oldA.1 oldA.2)) (.inr (.inl rfl)), ⟨tas, Sub.of (to9 _ _ htl4 ntla) (.inl (hS1.free ntl1)), ?_⟩, ⟨fas, Sub.of (hk _ _ f58 (nin D1f D1o)) (.inl (g0 _ naD1 nD1)), f1, fun j x e => Sub.of (hf j x e) (.inl ?_)⟩, ⟨os, Sub.of (hk _ _ g58 (nin D2f D2o)) (.inl (g06 _ naD2 nD2)), g1, fun j x e => Sub.of (by show H9 x = some (.lst (iv (frmN (ts.map Prod.swap) j (ts.map Prod.swap).length))); rw [List.length_map]; exact hos j x e) (.inl ?_)⟩⟩
    · refine paired_mono (fun p e hp => ?_) hP1
      have hp9 := to9 _ _ (k4 _ _ hp (nta p e hp)) (nta p e hp)
      exact Sub.of hp9 (.inr (.inr ⟨_, hp9⟩))
    · have hm := List.mem_of_getElem? e
      exact g0 x (fa x hm) (f3 x hm).1
    · have hm := List.mem_of_getElem? e
      exact g06 x (oa x hm) (g3 x hm).1
def spWeb_places (_ : PySem.W.Frag) (C : Addr) : Sp := fun vs H Q _ => ∃ a N ts, vs = [.ref a] ∧ WebAt C a N ts H ∧ Q (.int (N : Int)) H
theorem okWeb_places (D : DefP K C "places" "Web.places" sWeb_places ["self"]) (B : Bs mg) (Glb : Glo mg) (WK : WebK K mg C) :
    GoodP P w K mg base C "places" "Web.places" sWeb_places ["self"] 1 (spWeb_places K C) := by
  refine D.good fun f fd F => ?_
  refine F.ok scWeb_places (fun vs H Q E h => ?_) (fun cdv A outer s H vs Q E hr h => ?_)
  · obtain ⟨a, N, ts, rfl, ⟨dx, tl, fl, ol, h1, h2, h3⟩, q⟩ := h
    first | rfl | (rcases h with ⟨_, _, rfl, _⟩ | ⟨_, rfl, _⟩ <;> rfl)
  obtain ⟨a, N, ts, rfl, ⟨dx, tl, fl, ol, h1, h2, h3⟩, q⟩ := h
  refine ⟨_, (pss_one (ps_ret (pe_fld (pv 0) rfl))), ?_⟩
  exact ⟨_, rfl, a, C, dx, _, _, rfl, h1, WK.cl, WK.nP, wf_P _ _ _ _, q⟩
def spWeb_many (_ : PySem.W.Frag) (C : Addr) : Sp := fun vs H Q _ => ∃ a N ts, vs = [.ref a] ∧ WebAt C a N ts H ∧ Q (.int (ts.length : Int)) H
theorem okWeb_many (D : DefP K C "many" "Web.many" sWeb_many ["self"]) (B : Bs mg) (Glb : Glo mg) (WK : WebK K mg C) :
    GoodP P w K mg base C "many" "Web.many" sWeb_many ["self"] 1 (spWeb_many K C) := by
  refine D.good fun f fd F => ?_
  refine F.ok scWeb_many (fun vs H Q E h => ?_) (fun cdv A outer s H vs Q E hr h => ?_)
  · obtain ⟨a, N, ts, rfl, ⟨dx, tl, fl, ol, h1, ⟨tas, ht, hP⟩, h3⟩, q⟩ := h
    first | rfl | (rcases h with ⟨_, _, rfl, _⟩ | ⟨_, rfl, _⟩ <;> rfl)
  obtain ⟨a, N, ts, rfl, ⟨dx, tl, fl, ol, h1, ⟨tas, ht, hP⟩, h3⟩, q⟩ := h
  refine ⟨_, (pss_one (ps_ret (pe_callB call_len_seq (by rfl) B.len (by decide +kernel) (pa_cons (pe_fld (pv 0) rfl) pa_nil)))), ?_⟩
  refine ⟨_, rfl, a, C, dx, _, _, rfl, h1, WK.cl, WK.nT, wf_T _ _ _ _, _, _, rfl, .inl (SqL.of ht), ?_⟩
  rw [List.length_map, paired_len hP]
  exact q
def spWeb_ties (_ : PySem.W.Frag) (C : Addr) : Sp := fun vs H Q _ => ∃ a N ts, vs = [.ref a] ∧ WebAt C a N ts H ∧ ∀ H' l, H l = none → Same H H' → TiesAt H' l ts → Q (.ref l) H'
theorem okWeb_ties (D : DefM K C "ties" "Web.ties" sWeb_ties ["self"]) (B : Bs mg) (Glb : Glo mg) (WK : WebK K mg C) :
    GoodM P w K mg base C "ties" "Web.ties" sWeb_ties ["self"] 1 (spWeb_ties K C) := by
  refine D.good fun f fd F => ?_
  refine F.ok scWeb_ties (fun vs H Q E h => ?_) (fun cdv A outer s H vs Q E hr h => ?_)
  · obtain ⟨a, N, ts, rfl, ⟨dx, tl, fl, ol, h1, ⟨tas, ht, hP⟩, h3⟩, q⟩ := h
    first | rfl | (rcases h with ⟨_, _, rfl, _⟩ | ⟨_, rfl, _⟩ <;> rfl)
  obtain ⟨a, N, ts, rfl, ⟨dx, tl, fl, ol, h1, ⟨tas, ht, hP⟩, h3⟩, q⟩ := h
  refine ⟨_, (pss_one (ps_ret (pe_callTy call_list_of (by rfl) B.list (by decide +kernel) (pa_cons (pe_fld (pv 0) rfl) pa_nil)))), ?_⟩
  exact ⟨_, rfl, a, C, dx, _, _, rfl, h1, WK.cl, WK.nT, wf_T _ _ _ _, _, _, rfl, .inl (SqL.of ht), fun l nl => q _ l nl (same_new nl _) ⟨tas, upd_same, paired_mono (fun p e hp => same_new nl _ _ _ hp) hP⟩⟩
def spneed_web (_ : PySem.W.Frag) (C : Addr) : Sp := fun vs H Q _ => ∃ a N ts, vs = [.ref a] ∧ WebAt C a N ts H ∧ Q .non H
theorem okneed_web (D : Def K mg "need_web" sneed_web ["web"]) (B : Bs mg) (Glb : Glo mg) (WK : WebK K mg C) :
    Good P w K mg base "need_web" sneed_web ["web"] 3 (spneed_web K C) := by
  refine D.good fun f fd F => ?_
  refine F.ok scneed_web (fun vs H Q E h => ?_) (fun cdv A outer s H vs Q E hr h => ?_)
  · obtain ⟨a, N, ts, rfl, hw, q⟩ := h
    first | rfl | (rcases h with ⟨_, _, rfl, _⟩ | ⟨_, rfl, _⟩ <;> rfl)
  obtain ⟨a, N, ts, rfl, hw, q⟩ := h
  refine ⟨_, (pss_one (ps_if (pt_not (pt_val (pe_callB call_isi (by rfl) B.isinstance (by decide +kernel) (pa_cons (pv 0) (pa_cons (pe_glob (v := .ref C) (by rfl) WK.mgC rfl) pa_nil)))))
    (pss_one ps_never) pss_nil)), ?_⟩
  obtain ⟨dx, tl, fl, ol, h1, h2, h3, h4⟩ := id hw
  exact ⟨_, rfl, _, _, _, _, true, rfl, .own C, .base (.ins h1 WK.cl WK.i1 WK.i2 WK.i3 WK.i4), WK.i5, _, rfl, iteF q⟩
/-- a list or a tuple of ints -/
def SeqAt (H : Hp) (s : Addr) (W : List Nat) : Prop := H s = some (.lst (iv W)) ∨ H s = some (.tup (iv W))
theorem SeqAt.same {H H' : Hp} {s : Addr} {W : List Nat} (h : SeqAt H s W) (hs : Same H H') : SeqAt H' s W := h.imp (hs _ _) (hs _ _)
theorem SeqAt.seq {K : PySem.W.Frag} {H : Hp} {s : Addr} {W : List Nat} (h : SeqAt H s W) : SqL K H s (iv W) ∨ SqT K H s (iv W) := h.imp SqL.of SqT.of
abbrev nz (W : List Nat) : List (Option Int) := W.map fun n : Nat => some (n : Int)
theorem iv_num {H : Hp} : ∀ W : List Nat, Paired (Num H) (iv W) (nz W)
  | [] => .nil
  | n :: r => .cons (.int _) (iv_num r)
theorem SeqAt.val {H : Hp} {s : Addr} {W : List Nat} (h : SeqAt H s W) : Val H (.ref s) (some (nz W)) := by
  rcases h with h | h
  · exact .lst h (iv_num W)
  · exact .tup h (iv_num W)
/-- numbers of so many ties -/
def NumS (n : Nat) (o : Option (List (Option Int))) : Bool := match o with
  | none => false
  | some os => os.all (inR n)
theorem num_get {H : Hp} {xs : List V} {os : List (Option Int)} (h : Paired (Num H) xs os) {i : Nat} {x : V} (hx : xs[i]? = some x) : ∃ o, os[i]? = some o ∧ Num H x o := paired_get h hx
theorem all_take {os : List (Option Int)} {n i : Nat} {o : Option Int} (h : os[i]? = some o) : (os.take (i + 1)).all (inR n) = ((os.take i).all (inR n) && inR n o) := by
  rw [List.take_add_one, h, List.all_append]
  show (_ && (inR n o && true)) = _
  rw [Bool.and_true]
theorem all_no {os : List (Option Int)} {n i : Nat} {o : Option Int} (h : os[i]? = some o) (k : inR n o = false) : os.all (inR n) = false := by
  rw [List.all_eq_false]
  exact ⟨o, List.mem_of_getElem? h, by rw [k]; exact Bool.false_ne_true⟩
end
end My
namespace My
open PySem L2 PyProof.Rows
def PotOk (x y : Int) : Prop := 0 ≤ x ∧ 0 ≤ y ∧ y < 2147483648
def PotAt (H : Hp) (a : Addr) : Prop := ∃ x y : Int, H a = some (.lst [.int x, .int y]) ∧ PotOk x y
theorem PotAt.new {H : Hp} {a p : Addr} {o : HO} (h : PotAt H a) (np : H p = none) : PotAt (upd H p o) a := by
  obtain ⟨x, y, e, h⟩ := h
  exact ⟨x, y, by rw [upd_ne (ne_of_none e np)]; exact e, h⟩
theorem PotAt.put {H : Hp} {a p : Addr} {o : HO} (h : PotAt H a) (np : p ≠ a) : PotAt (upd H p o) a := by
  obtain ⟨x, y, e, h⟩ := h
  exact ⟨x, y, by rw [upd_ne np.symm]; exact e, h⟩
theorem PotAt.same {H H' : Hp} {a : Addr} (h : PotAt H a) (s : Same H H') : PotAt H' a := by
  obtain ⟨x, y, e, h⟩ := h
  exact ⟨x, y, s _ _ e, h⟩
theorem PotAt.ne {H : Hp} {a p : Addr} (h : PotAt H a) (np : H p = none) : p ≠ a := by
  obtain ⟨x, y, e, h⟩ := h
  exact (ne_of_none e np).symm
theorem PotAt.ntup {H : Hp} {a p : Addr} {xs : List V} (h : PotAt H a) (hp : H p = some (.tup xs)) : p ≠ a := by
  obtain ⟨x, y, e, h⟩ := h
  exact ne_of hp e (by intro q; cases q)
theorem Kept.new {H H' : Hp} {a p : Addr} {o : HO} (h : Kept a H H') (np : H' p = none) : Kept a H (upd H' p o) := h.trans (Same.kept (same_new np o))
theorem Kept.put {H H' : Hp} {a p : Addr} {o : HO} (h : Kept a H H') (np : H p = none) : Kept a H (upd H' p o) := fun b u e n => by
  rw [upd_ne (ne_of_none e np)]
  exact h b u e n
theorem TiesAt.kept {H H' : Hp} {a t : Addr} {ts : List (Nat × Nat)} (h : TiesAt H t ts) (k : Kept a H H') (hp : PotAt H a) (hn : t ≠ a) : TiesAt H' t ts := by
  obtain ⟨tas, h1, h2⟩ := h
  exact ⟨tas, k _ _ h1 hn, paired_mono (fun p e hq => k _ _ hq (hp.ntup hq)) h2⟩
theorem paired_app {α β : Type} {F : α → β → Prop} {a : α} {b : β} : ∀ {l1 : List α} {l2 : List β}, Paired F l1 l2 → F a b → Paired F (l1 ++ [a]) (l2 ++ [b])
  | _, _, .nil, h => .cons h .nil
  | _, _, .cons r t, h => .cons r (paired_app t h)
theorem paired_apps {α β : Type} {F : α → β → Prop} : ∀ {l1 m1 : List α} {l2 m2 : List β}, Paired F l1 l2 → Paired F m1 m2 → Paired F (l1 ++ m1) (l2 ++ m2)
  | _, _, _, _, .nil, h => h
  | _, _, _, _, .cons r t, h => .cons r (paired_apps t h)
theorem paired_rev {α β : Type} {F : α → β → Prop} : ∀ {l1 : List α} {l2 : List β}, Paired F l1 l2 → Paired F l1.reverse l2.reverse
  | _, _, .nil => .nil
  | _, _, .cons r t => by
    rw [List.reverse_cons, List.reverse_cons]
    exact paired_app (paired_rev t) r
theorem TiesAt.push {H : Hp} {p tp : Addr} {ts : List (Nat × Nat)} {u v : Nat} (h : TiesAt H p ts) (nt : H tp = none) :
    ∃ xs, (upd H tp (.tup [.int (u : Int), .int (v : Int)])) p = some (.lst xs) ∧ xs.length = ts.length ∧ TiesAt (upd (upd H tp (.tup [.int (u : Int), .int (v : Int)])) p (.lst (xs ++ [.ref tp]))) p (ts ++ [(u, v)]) := by
  obtain ⟨tas, h1, h2⟩ := h
  have npt : p ≠ tp := ne_of_none h1 nt
  refine ⟨tas.map V.ref, by rw [upd_ne npt]; exact h1, by rw [List.length_map]; exact paired_len h2, tas ++ [tp], by rw [upd_same, List.map_append]; rfl, paired_app (paired_mono (fun q e hq => ?_) h2) ?_⟩
  · have nqp : q ≠ p := ne_of hq h1 (by intro z; cases z)
    show upd _ _ _ q = _
    rw [upd_ne nqp, upd_ne (ne_of_none hq nt)]
    exact hq
  · show upd _ _ _ tp = _
    rw [upd_ne npt.symm, upd_same]
theorem TiesAt.pushV {H : Hp} {p tp : Addr} {ts : List (Nat × Nat)} {u v : Nat} {x y : V} (hx : x = .int (u : Int)) (hy : y = .int (v : Int)) (h : TiesAt H p ts) (nt : H tp = none) :
    ∃ xs, (upd H tp (.tup [x, y])) p = some (.lst xs) ∧ xs.length = ts.length ∧ TiesAt (upd (upd H tp (.tup [x, y])) p (.lst (xs ++ [.ref tp]))) p (ts ++ [(u, v)]) := by
  subst hx hy
  exact h.push nt
theorem TiesAt.nil {H : Hp} {p : Addr} : TiesAt (upd H p (.lst [])) p [] := ⟨[], upd_same, .nil⟩
theorem TiesAt.cat {H : Hp} {l m p : Addr} {ts us : List (Nat × Nat)} (h : TiesAt H l ts) (k : TiesAt H m us) (np : H p = none) : ∃ xs zs, H l = some (.lst xs) ∧ H m = some (.lst zs) ∧ xs.length = ts.length ∧ zs.length = us.length ∧ TiesAt (upd H p (.lst (xs ++ zs))) p (ts ++ us) := by
  obtain ⟨tas, h1, h2⟩ := h
  obtain ⟨uas, k1, k2⟩ := k
  refine ⟨_, _, h1, k1, by rw [List.length_map]; exact paired_len h2, by rw [List.length_map]; exact paired_len k2, tas ++ uas, by rw [upd_same, List.map_append], paired_mono (fun q e hq => ?_) (paired_apps h2 k2)⟩
  exact same_new np _ _ _ hq
theorem TiesAt.get {H : Hp} {l : Addr} {ts : List (Nat × Nat)} (h : TiesAt H l ts) : ∃ xs, H l = some (.lst xs) ∧ xs.length = ts.length := by
  obtain ⟨tas, h1, h2⟩ := h
  exact ⟨_, h1, by rw [List.length_map]; exact paired_len h2⟩
theorem TiesAt.new {H : Hp} {l p : Addr} {ts : List (Nat × Nat)} {o : HO} (h : TiesAt H l ts) (np : H p = none) : TiesAt (upd H p o) l ts := h.same (same_new np o)
theorem TiesAt.rev {H : Hp} {l p : Addr} {ts : List (Nat × Nat)} (h : TiesAt H l ts) (np : H p = none) : ∃ xs, H l = some (.lst xs) ∧ TiesAt (upd H p (.lst xs.reverse)) p ts.reverse := by
  obtain ⟨tas, h1, h2⟩ := h
  refine ⟨_, h1, tas.reverse, by rw [upd_same, List.map_reverse], paired_mono (fun q e hq => same_new np _ _ _ hq) (paired_rev h2)⟩
theorem TiesAt.catOne {H : Hp} {l p : Addr} {ts : List (Nat × Nat)} {tp : Addr} {u v : Nat} (h : TiesAt H l ts) (ht : H tp = some (.tup [.int (u : Int), .int (v : Int)])) (np : H p = none) :
    ∃ xs, H l = some (.lst xs) ∧ xs.length = ts.length ∧ TiesAt (upd H p (.lst (xs ++ [.ref tp]))) p (ts ++ [(u, v)]) := by
  obtain ⟨tas, h1, h2⟩ := h
  refine ⟨_, h1, by rw [List.length_map]; exact paired_len h2, tas ++ [tp], by rw [upd_same, List.map_append]; rfl, paired_app (paired_mono (fun q e hq => same_new np _ _ _ hq) h2) (same_new np _ _ _ ht)⟩
theorem Kept.free {a p : Addr} {H H' : Hp} (h : Kept a H H') (hn : H' p = none) (np : p ≠ a) : H p = none := by
  cases e : H p with
  | none => rfl
  | some o =>
    have := h p o e np
    rw [hn] at this
    cases this
theorem ok_app {N : Nat} {ts us : List (Nat × Nat)} (h : ∀ e ∈ ts, e.1 < N ∧ e.2 < N) (k : ∀ e ∈ us, e.1 < N ∧ e.2 < N) : ∀ e ∈ ts ++ us, e.1 < N ∧ e.2 < N := fun e he => (List.mem_append.mp he).elim (h e) (k e)
theorem ok_one {N u v : Nat} (h1 : u < N) (h2 : v < N) : ∀ e ∈ [(u, v)], e.1 < N ∧ e.2 < N := fun e he => by rw [List.mem_singleton.mp he]; exact ⟨h1, h2⟩
theorem ok_up {N M : Nat} {ts : List (Nat × Nat)} (h : ∀ e ∈ ts, e.1 < N ∧ e.2 < N) (hm : N ≤ M) : ∀ e ∈ ts, e.1 < M ∧ e.2 < M := fun e he => ⟨Nat.lt_of_lt_of_le (h e he).1 hm, Nat.lt_of_lt_of_le (h e he).2 hm⟩
theorem dp_iv {K : PySem.W.Frag} {H : Hp} {p : Addr} {L : List Nat} (h : H p = some (.lst (iv L))) : Dp K H (.ref p) (dz (L.map fun n : Nat => (n : Int))) := dp_iz (by rw [← iv_iz]; exact h)
/-! ### lists of ties compared with the empty list -/
abbrev tzD (e : Nat × Nat) : PyData := .tuple [.int (e.1 : Int), .int (e.2 : Int)]
abbrev tz (ts : List (Nat × Nat)) : PyData := .list (ts.map tzD)
theorem dpAll_tz {K : PySem.W.Frag} {H : Hp} : ∀ {tas : List Addr} {ts : List (Nat × Nat)}, Paired (TupAt H) tas ts → DpAll K H (tas.map V.ref) (ts.map tzD)
  | _, _, .nil => .nil
  | _, _, .cons h r => .cons (.tup (SqT.of h) (.cons (.int _) (.cons (.int _) .nil))) (dpAll_tz r)
theorem dp_tz {K : PySem.W.Frag} {H : Hp} {t : Addr} {ts : List (Nat × Nat)} (h : TiesAt H t ts) : Dp K H (.ref t) (tz ts) := by
  obtain ⟨tas, h1, h2⟩ := h
  exact .lst (SqL.of h1) (dpAll_tz h2)
theorem layAll_tz : ∀ ts : List (Nat × Nat), PyData.canLayAll0 (ts.map tzD) = true
  | [] => rfl
  | e :: r => by
    show (PyData.canLay0 (tzD e) && PyData.canLayAll0 (r.map tzD)) = true
    rw [layAll_tz r]
    rfl
theorem depthAll_tz (e : Nat × Nat) : ∀ r : List (Nat × Nat), PyData.depthAll ((e :: r).map tzD) = 1
  | [] => rfl
  | f :: r => by
    show max (PyData.depth (tzD e)) (PyData.depthAll ((f :: r).map tzD)) = 1
    rw [depthAll_tz f r]
    rfl
theorem shaped_tz : ∀ ts : List (Nat × Nat), SeqAt.shaped (tz ts) = true
  | [] => shaped_iz []
  | e :: r => by
    unfold SeqAt.shaped
    have h1 : PyData.canLay0 (tz (e :: r)) = true := by
      show PyData.canLay0 (.list ((e :: r).map tzD)) = true
      unfold PyData.canLay0
      exact layAll_tz _
    have h2 : PyData.depth (tz (e :: r)) = 2 := by
      show PyData.depth (.list ((e :: r).map tzD)) = 2
      unfold PyData.depth
      rw [depthAll_tz]
    rw [h1, h2]
    rfl
theorem eqv_tz (ts : List (Nat × Nat)) : PyData.eqv (tz ts) (dz []) = decide (ts = []) := by
  cases ts with
  | nil => rfl
  | cons n r => rfl
def StepsAt (H : Hp) (l : Addr) (ts : List (Nat × Nat)) : Prop := ∃ sas : List Addr, H l = some (.lst (sas.map V.ref)) ∧ sas.length = ts.length ∧ ∀ (i u v : Nat), ts[i]? = some (u, v) → ∃ p : Addr, sas[i]? = some p ∧ H p = some (.tup [.int (u : Int), .int (v : Int), .int (i : Int)])
def swaps (ts : List (Nat × Nat)) : List (Nat × Nat) := ts.map fun e => (e.2, e.1)
def BackTo (H0 : Hp) (l : Addr) (ts : List (Nat × Nat)) (i : Nat) (H : Hp) : Prop := Same H0 H ∧ TiesAt H l (swaps (ts.take i))
theorem take_snocE {α : Type} {L : List α} {i : Nat} {e : α} (h : L[i]? = some e) : L.take (i + 1) = L.take i ++ [e] := by
  rw [List.take_succ, h]
  rfl
theorem steps_nil {H : Hp} {l : Addr} : StepsAt (upd H l (.lst [])) l [] := ⟨[], upd_same, rfl, fun i u v h => by simp at h⟩
theorem StepsAt.same {H H' : Hp} {l : Addr} {ts : List (Nat × Nat)} (h : StepsAt H l ts) (s : Same H H') : StepsAt H' l ts := by
  obtain ⟨sas, h1, h2, h3⟩ := h
  exact ⟨sas, s _ _ h1, h2, fun i u v e => by obtain ⟨p, a, b⟩ := h3 i u v e; exact ⟨p, a, s _ _ b⟩⟩
theorem StepsAt.push {H : Hp} {l tp : Addr} {ts : List (Nat × Nat)} {u v : Nat} (h : StepsAt H l ts) (nt : H tp = none) :
    ∃ xs, (upd H tp (.tup [.int (u : Int), .int (v : Int), .int (ts.length : Int)])) l = some (.lst xs) ∧ xs.length = ts.length ∧ StepsAt (upd (upd H tp (.tup [.int (u : Int), .int (v : Int), .int (ts.length : Int)])) l (.lst (xs ++ [.ref tp]))) l (ts ++ [(u, v)]) := by
  obtain ⟨sas, h1, h2, h3⟩ := h
  have nlt : l ≠ tp := ne_of_none h1 nt
  refine ⟨sas.map V.ref, by rw [upd_ne nlt]; exact h1, by rw [List.length_map]; exact h2, sas ++ [tp], by rw [upd_same, List.map_append]; rfl, by simp [h2], fun i a b e => ?_⟩
  by_cases c : i < ts.length
  · rw [List.getElem?_append_left c] at e
    obtain ⟨p, g1, g2⟩ := h3 i a b e
    have np : p ≠ l := ne_of g2 h1 (by intro z; cases z)
    refine ⟨p, by rw [List.getElem?_append_left (by omega)]; exact g1, ?_⟩
    rw [upd_ne np, upd_ne (ne_of_none g2 nt)]
    exact g2
  · have hl := (List.getElem?_eq_some_iff.mp e).1
    rw [List.length_append, List.length_singleton] at hl
    have ei : i = ts.length := by omega
    subst ei
    rw [List.getElem?_append_right (Nat.le_refl _), Nat.sub_self] at e
    cases e
    refine ⟨tp, by rw [← h2, List.getElem?_append_right (Nat.le_refl _), Nat.sub_self]; rfl, ?_⟩
    rw [upd_ne nlt.symm, upd_same]
theorem okWeb_swaps {N : Nat} {ts : List (Nat × Nat)} (h : OkWeb N ts) : OkWeb N (swaps ts) := by
  refine ⟨h.n0, h.n1, by unfold swaps; rw [List.length_map]; exact h.m, fun e he => ?_⟩
  obtain ⟨f, hf, rfl⟩ := List.mem_map.mp he
  exact ⟨(h.ok f hf).2, (h.ok f hf).1⟩
section
variable {P : Program} {w : World} {K : PySem.W.Frag} {mg : Str → Option Value} {base : Heap} {C : Addr}
end
end My
namespace My
open PySem L2 PyProof.Rows
section
variable {P : Program} {w : World} {K : PySem.W.Frag} {mg : Str → Option Value} {base : Heap} {C : Addr}
def sp_law_pot (K : PySem.W.Frag) (_ : Addr) : Sp := fun vs H Q _ => ∃ a, ∃ ns : List Int, vs = [.ref a, .int 0] ∧ SqL K H a (ns.map V.int) ∧ ∀ p H', PotAt H' p → Same H H' → H p = none → Q (.ref p) H'
theorem ok_law_pot (D : Def K mg "_law_pot" s_law_pot ["_law_script", "_law_k"]) (B : Bs mg) (Glb : Glo mg) (WK : WebK K mg C) :
    Good P w K mg base "_law_pot" s_law_pot ["_law_script", "_law_k"] 1 (sp_law_pot K C) := by
  refine D.good fun f fd F => ?_
  refine F.ok sc_law_pot (fun vs H Q E h => ?_) (fun cdv A outer s H vs Q E hr h => ?_)
  · obtain ⟨a, ns, rfl, hS, q⟩ := h
    first | rfl | (rcases h with ⟨_, _, rfl, _⟩ | ⟨_, rfl, _⟩ <;> rfl)
  obtain ⟨a, ns, rfl, hS, q⟩ := h
  refine ⟨_, (pss_cons (ps_set (i := 2) sc_law_pot.nd rfl (by first | exact Or.inl rfl | exact Or.inr rfl) (pe_ifExp (pt_cmpR op_lt (pv 1) (pe_callB call_len_seq (by rfl) B.len (by decide +kernel) (pa_cons (pv 0) pa_nil)) (nomark _)) (pe_callB call_abs (by rfl) B.abs (by decide +kernel) (pa_cons (pe_ix ix_list (pv 0) (pv 1) (fun _ _ => rfl)) pa_nil)) (pe_op op_add (pe_op op_mul pe_int (pv 1)) pe_int)))
  (pss_cons (ps_set (i := 3) sc_law_pot.nd rfl (by first | exact Or.inl rfl | exact Or.inr rfl) (pe_op op_add (pe_op op_mod (pe_callTy call_int1 (by rfl) B.int (by decide +kernel) (pa_cons (pe_op op_add (pe_op op_add (pe_op op_mul (pe_op op_mod (pe_callTy call_int1 (by rfl) B.int (by decide +kernel) (pa_cons (pv 2) pa_nil)) pe_int) pe_int) (pe_op op_mul pe_int (pv 1))) pe_int) pa_nil)) pe_int) pe_int))
  (pss_one (ps_ret (pe_lst (pa_cons (pe_callB (call_max2 rfl) (by rfl) B.max (by decide +kernel) (pa_cons pe_int (pa_cons (pe_op op_sub (pv 2) (pe_op op_pow pe_int pe_int)) pa_nil))) (pa_cons (pv 3) pa_nil))))))), ?_⟩
  refine ⟨_, rfl, _, rfl, _, _, rfl, .inl hS, _, _, rfl, rfl, _, rfl, ?_⟩
  refine ite2 (fun c1 => ?pos) (fun c1 => ?neg)
  case' pos =>
    obtain ⟨n, rest, rfl⟩ : ∃ n rest, ns = n :: rest := by
      cases ns with
      | nil => exact absurd (of_decide_eq_true c1) (by decide)
      | cons n rest => exact ⟨n, rest, rfl⟩
    refine ⟨_, rfl, _, rfl, _, _, _, .int n, rfl, rfl, hS, atI_nat (j := 0) rfl, _, rfl, ?_⟩
    have hz0 : (0 : Int) ≤ (if n < 0 then -n else n) := by split <;> omega
  case' neg =>
    refine ⟨_, rfl, _, _, rfl, rfl, .inl ⟨by decide, by decide⟩, _, _, rfl, rfl, ?_⟩
    have hz0 : (0 : Int) ≤ (1061 * 0 + 757) := by decide
  all_goals
    refine ⟨_, rfl, .inl ⟨_, rfl, _, _, rfl, rfl, (by show (0 : Int) < 2147483549; decide), _, _, rfl, rfl, .inl ⟨?_, ?_⟩, _, rfl, _, _, rfl, rfl, .inl ⟨by decide, by decide⟩, _, _, rfl, rfl, _, _, rfl, rfl, .inl ⟨_, rfl, _, _, rfl, rfl, (by show (0 : Int) < 2147483563; decide), _, _, rfl, rfl, ?_⟩⟩⟩
    · omega
    · omega
    refine ⟨_, rfl, _, _, rfl, rfl, ⟨by decide, by decide, by decide⟩, _, _, rfl, rfl, _, _, rfl, _, rfl, (by show 2 ≤ sizeLine; decide), fun p np => q p _ ⟨_, _, upd_same, ?_, ?_, ?_⟩ (same_new np _) np⟩
    · split <;> omega
    · omega
    · omega
def sp_law_draw (_ : PySem.W.Frag) (_ : Addr) : Sp := fun vs H Q _ => ∃ a n, vs = [.ref a, .int ((n : Nat) : Int)] ∧ PotAt H a ∧ 0 < n ∧ n ≤ 1000 ∧ ∀ (d : Nat) H', d < n → Kept a H H' → PotAt H' a → Q (.int (d : Int)) H'
theorem ok_law_draw (D : Def K mg "_law_draw" s_law_draw ["_law_pot_here", "_law_sides"]) (B : Bs mg) (Glb : Glo mg) (WK : WebK K mg C) :
    Good P w K mg base "_law_draw" s_law_draw ["_law_pot_here", "_law_sides"] 1 (sp_law_draw K C) := by
  refine D.good fun f fd F => ?_
  refine F.ok sc_law_draw (fun vs H Q E h => ?_) (fun cdv A outer s H vs Q E hr h => ?_)
  · obtain ⟨a, n, rfl, ⟨x, y, ha, hx, hy, hy2⟩, hn, hn2, q⟩ := h
    first | rfl | (rcases h with ⟨_, _, rfl, _⟩ | ⟨_, rfl, _⟩ <;> rfl)
  obtain ⟨a, n, rfl, ⟨x, y, ha, hx, hy, hy2⟩, hn, hn2, q⟩ := h
  refine ⟨_, (pss_cons (ps_if (pt_cmpR op_gt (pe_ix ix_list (pv 0) pe_int (fun _ _ => rfl)) pe_int (nomark _))
    (pss_cons (ps_asg (pe_callB call_divmod (by rfl) B.divmod (by decide +kernel) (pa_cons (pe_ix ix_list (pv 0) pe_int (fun _ _ => rfl)) (pa_cons (pv 1) pa_nil))) (pg_tup rfl (pgs_cons (pg_sub (pv 0) pe_int set_list) (pgs_cons (pg_name (i := 2) sc_law_draw.nd rfl (by first | exact Or.inl rfl | exact Or.inr rfl)) pgs_nil))))
  (pss_one (ps_ret (pv 2)))) pss_nil)
  (pss_cons (ps_asg (pe_op op_mod (pe_callTy call_int1 (by rfl) B.int (by decide +kernel) (pa_cons (pe_op op_add (pe_op op_mul (pe_ix ix_list (pv 0) pe_int (fun _ _ => rfl)) pe_int) pe_int) pa_nil)) pe_int) (pg_sub (pv 0) pe_int set_list))
  (pss_one (ps_ret (pe_op op_mod (pe_callTy call_int1 (by rfl) B.int (by decide +kernel) (pa_cons (pe_op op_fdiv (pe_op op_mod (pe_callTy call_int1 (by rfl) B.int (by decide +kernel) (pa_cons (pe_op op_mul (pe_ix ix_list (pv 0) pe_int (fun _ _ => rfl)) (pe_ix ix_list (pv 0) pe_int (fun _ _ => rfl))) pa_nil)) pe_int) pe_int) pa_nil)) (pv 1)))))), ?_⟩
  refine ⟨_, rfl, _, _, _, .int x, rfl, rfl, SqL.of ha, rfl, _, _, rfl, rfl, _, rfl, ?_⟩
  refine ite2 (fun c1 => ?_) (fun c1 => ?_)
  · have hpos : (0 : Int) < x := of_decide_eq_true c1
    refine ⟨_, rfl, _, _, _, .int x, rfl, rfl, SqL.of ha, rfl, _, rfl, _, _, rfl, ⟨by omega, by omega⟩, fun p np => ?_⟩
    have hpa : a ≠ p := ne_of_none ha np
    have ha' : (upd H p (.tup [.int (x / (n : Int)), .int (x % (n : Int))])) a = some (.lst [.int x, .int y]) := by
      rw [upd_ne hpa]
      exact ha
    have ed : (((x % (n : Int)).toNat : Nat) : Int) = x % (n : Int) := Int.toNat_of_nonneg (Int.emod_nonneg _ (by omega))
    have el := Int.emod_lt_of_pos x (show (0 : Int) < (n : Int) by omega)
    refine ⟨_, _, rfl, SqT.of upd_same, rfl, _, _, rfl, _, rfl, _, _, _, 0, rfl, rfl, ha', rfl, _, _, rfl, rfl, ?_⟩
    refine ⟨_, rfl, ?_⟩
    have := q (x % (n : Int)).toNat (upd (upd H p (.tup [.int (x / (n : Int)), .int (x % (n : Int))])) a (.lst [.int (x / (n : Int)), .int y])) (by omega) (fun b o e nb => by rw [upd_ne nb, upd_ne (ne_of_none e np)]; exact e)
      ⟨_, _, upd_same, Int.ediv_nonneg hx (by omega), hy, hy2⟩
    rw [ed] at this
    exact this
  · refine ⟨_, rfl, _, _, _, .int y, rfl, rfl, SqL.of ha, rfl, _, _, rfl, rfl, .inl ⟨by omega, by omega⟩, _, _, rfl, rfl, .inl ⟨_, rfl, _, _, rfl, rfl, (by show (0 : Int) < 2147483563; decide), _, rfl, _, _, _, 1, rfl, rfl, ha, rfl, ?_⟩⟩
    have hz0 : (0 : Int) ≤ (y * 40739 + 30047) % 2147483563 := by omega
    have hz1 : (y * 40739 + 30047) % 2147483563 < (2147483563 : Int) := by omega
    refine ⟨_, rfl, _, _, _, .int ((y * 40739 + 30047) % 2147483563), rfl, rfl, SqL.of upd_same, rfl, _, rfl, _, _, _, .int ((y * 40739 + 30047) % 2147483563), rfl, rfl, SqL.of upd_same, rfl, _, _, rfl, rfl, .inl ⟨by omega, by omega⟩, .inl ⟨_, rfl, _, _, rfl, rfl, (by show (0 : Int) < 2147483549; decide), _, _, rfl, rfl, ⟨by decide, by decide⟩, .inl ⟨_, rfl, _, rfl, _, _, rfl, rfl, (by show (0 : Int) < (n : Int); omega), ?_⟩⟩⟩
    have fin : ∀ z : Int, 0 ≤ z → z < 2147483563 → Q (V.int (z * z % 2147483549 / 23 % (n : Int))) (upd H a (.lst [.int x, .int z])) := fun z hz0 hz1 => by
      have ed : (((z * z % 2147483549 / 23 % (n : Int)).toNat : Nat) : Int) = z * z % 2147483549 / 23 % (n : Int) := Int.toNat_of_nonneg (Int.emod_nonneg _ (by omega))
      have el := Int.emod_lt_of_pos (z * z % 2147483549 / 23) (show (0 : Int) < (n : Int) by omega)
      have := q (z * z % 2147483549 / 23 % (n : Int)).toNat (upd H a (.lst [.int x, .int z])) (by omega) (fun b o e nb => by rw [upd_ne nb]; exact e) ⟨_, _, upd_same, hx, hz0, by omega⟩
      rw [ed] at this
      exact this
    exact fin _ hz0 hz1
end
end My
namespace My
open PySem L2 PyProof.Rows
theorem nums_nz {n : Nat} {W : List Nat} (h : ∀ x ∈ W, x < n) : NumS n (some (nz W)) = true := by
  show (nz W).all (inR n) = true
  rw [List.all_eq_true]
  intro o ho
  obtain ⟨x, hx, rfl⟩ := List.mem_map.mp ho
  exact inR_lt (h x hx)
section
variable {P : Program} {w : World} {K : PySem.W.Frag} {mg : Str → Option Value} {base : Heap} {C : Addr}
def spneed_place (_ : PySem.W.Frag) (C : Addr) : Sp := fun vs H Q _ => ∃ a N ts p, vs = [.ref a, .int ((p : Nat) : Int)] ∧ WebAt C a N ts H ∧ p < N ∧ Q .non H
theorem okneed_place (D : Def K mg "need_place" sneed_place ["web", "place"]) (B : Bs mg) (Glb : Glo mg) (WK : WebK K mg C)
    (his_below : Good P w K mg base "is_below" sis_below ["value", "limit"] 3 (spis_below K C))
    (hWeb_places : GoodP P w K mg base C "places" "Web.places" sWeb_places ["self"] 1 (spWeb_places K C)) :
    Good P w K mg base "need_place" sneed_place ["web", "place"] 4 (spneed_place K C) := by
  refine D.good fun f fd F => ?_
  obtain ⟨fis_below, dis_below, Ois_below, mis_below, kis_below, bis_below, Fis_below⟩ := his_below
  obtain ⟨qWeb_places, fWeb_places, dWeb_places, OWeb_places, pWeb_places, bWeb_places⟩ := hWeb_places
  refine F.ok scneed_place (fun vs H Q E h => ?_) (fun cdv A outer s H vs Q E hr h => ?_)
  · obtain ⟨a, N, ts, p, rfl, hw, hp, q⟩ := h
    first | rfl | (rcases h with ⟨_, _, rfl, _⟩ | ⟨_, rfl, _⟩ <;> rfl)
  obtain ⟨a, N, ts, p, rfl, hw, hp, q⟩ := h
  refine ⟨_, (pss_one (ps_if (pt_not (pt_val (pe_call Ois_below hr rfl mis_below kis_below bis_below .nil pass0 (pa_cons (pv 1) (pa_cons (pe_prop (pv 0) WK.cl pWeb_places OWeb_places (hr.mono (by decide)) bWeb_places .nil pass0 (by rfl)) pa_nil)))))
    (pss_one ps_never) pss_nil)), ?_⟩
  obtain ⟨dx, tl, fl, ol, h1, _⟩ := id hw
  exact ⟨_, rfl, _, rfl, a, dx, _, rfl, h1, a, N, ts, rfl, hw, _, some (p : Int), N, rfl, .int _, _, rfl, iteNb (inR_lt hp) q⟩
def spWeb_ties_from (_ : PySem.W.Frag) (C : Addr) : Sp := fun vs H Q _ => ∃ a N ts p, vs = [.ref a, .int ((p : Nat) : Int)] ∧ WebAt C a N ts H ∧ p < N ∧ ∀ H' l, H l = none → Same H H' → H' l = some (.lst (iv (frm ts p))) → Q (.ref l) H'
theorem okWeb_ties_from (D : DefM K C "ties_from" "Web.ties_from" sWeb_ties_from ["self", "place"]) (B : Bs mg) (Glb : Glo mg) (WK : WebK K mg C)
    (hneed_place : Good P w K mg base "need_place" sneed_place ["web", "place"] 4 (spneed_place K C)) :
    GoodM P w K mg base C "ties_from" "Web.ties_from" sWeb_ties_from ["self", "place"] 5 (spWeb_ties_from K C) := by
  refine D.good fun f fd F => ?_
  obtain ⟨fneed_place, dneed_place, Oneed_place, mneed_place, kneed_place, bneed_place, Fneed_place⟩ := hneed_place
  refine F.ok scWeb_ties_from (fun vs H Q E h => ?_) (fun cdv A outer s H vs Q E hr h => ?_)
  · obtain ⟨a, N, ts, p, rfl, hw, hp, q⟩ := h
    first | rfl | (rcases h with ⟨_, _, rfl, _⟩ | ⟨_, rfl, _⟩ <;> rfl)
  obtain ⟨a, N, ts, p, rfl, hw, hp, q⟩ := h
  refine ⟨_, (pss_cons (ps_expr (pe_call Oneed_place hr rfl mneed_place kneed_place bneed_place .nil pass0 (pa_cons (pv 0) (pa_cons (pv 1) pa_nil))))
  (pss_one (ps_ret (pe_callTy call_list_of (by rfl) B.list (by decide +kernel) (pa_cons (pe_ix ix_list (pe_fld (pv 0) rfl) (pv 1) (fun _ _ => rfl)) pa_nil))))), ?_⟩
  obtain ⟨dx, tl, fl, ol, h1, h2, h3, h4⟩ := id hw
  obtain ⟨x, xs, e1, e2, e3⟩ := h3.get hp
  exact ⟨_, rfl, _, rfl, a, N, ts, p, rfl, hw, hp, _, rfl, a, C, dx, _, _, rfl, h1, WK.cl, WK.nF, wf_F _ _ _ _, _, rfl, _, _, _, .ref x, rfl, rfl, SqL.of e1, e2, _, _, rfl, .inl (SqL.of e3), fun l nl => q _ l nl (same_new nl _) upd_same⟩
def spWeb_ties_to (_ : PySem.W.Frag) (C : Addr) : Sp := fun vs H Q _ => ∃ a N ts p, vs = [.ref a, .int ((p : Nat) : Int)] ∧ WebAt C a N ts H ∧ p < N ∧ ∀ H' l, H l = none → Same H H' → H' l = some (.lst (iv (frm (ts.map Prod.swap) p))) → Q (.ref l) H'
theorem okWeb_ties_to (D : DefM K C "ties_to" "Web.ties_to" sWeb_ties_to ["self", "place"]) (B : Bs mg) (Glb : Glo mg) (WK : WebK K mg C)
    (hneed_place : Good P w K mg base "need_place" sneed_place ["web", "place"] 4 (spneed_place K C)) :
    GoodM P w K mg base C "ties_to" "Web.ties_to" sWeb_ties_to ["self", "place"] 5 (spWeb_ties_to K C) := by
  refine D.good fun f fd F => ?_
  obtain ⟨fneed_place, dneed_place, Oneed_place, mneed_place, kneed_place, bneed_place, Fneed_place⟩ := hneed_place
  refine F.ok scWeb_ties_to (fun vs H Q E h => ?_) (fun cdv A outer s H vs Q E hr h => ?_)
  · obtain ⟨a, N, ts, p, rfl, hw, hp, q⟩ := h
    first | rfl | (rcases h with ⟨_, _, rfl, _⟩ | ⟨_, rfl, _⟩ <;> rfl)
  obtain ⟨a, N, ts, p, rfl, hw, hp, q⟩ := h
  refine ⟨_, (pss_cons (ps_expr (pe_call Oneed_place hr rfl mneed_place kneed_place bneed_place .nil pass0 (pa_cons (pv 0) (pa_cons (pv 1) pa_nil))))
  (pss_one (ps_ret (pe_callTy call_list_of (by rfl) B.list (by decide +kernel) (pa_cons (pe_ix ix_list (pe_fld (pv 0) rfl) (pv 1) (fun _ _ => rfl)) pa_nil))))), ?_⟩
  obtain ⟨dx, tl, fl, ol, h1, h2, h3, h4⟩ := id hw
  obtain ⟨x, xs, e1, e2, e3⟩ := h4.get hp
  exact ⟨_, rfl, _, rfl, a, N, ts, p, rfl, hw, hp, _, rfl, a, C, dx, _, _, rfl, h1, WK.cl, WK.nO, wf_O _ _ _ _, _, rfl, _, _, _, .ref x, rfl, rfl, SqL.of e1, e2, _, _, rfl, .inl (SqL.of e3), fun l nl => q _ l nl (same_new nl _) upd_same⟩
end
end My
set_option maxHeartbeats 4000000
namespace My
open PySem L2 PyProof.Rows
theorem frmN_filter (ts : List (Nat × Nat)) (p : Nat) : ∀ n, frmN ts p n = (List.range n).filter fun i => decide (ts[i]?.map Prod.fst = some p)
  | 0 => rfl
  | n + 1 => by
    unfold frmN
    rw [List.range_succ, List.filter_append, frmN_filter ts p n]
    by_cases c : ts[n]?.map Prod.fst = some p
    · rw [if_pos c, List.filter_cons_of_pos (by simpa using c)]; rfl
    · rw [if_neg c, List.filter_cons_of_neg (by simpa using c)]; simp
theorem frm_out (ts : List (Nat × Nat)) (p : Nat) : frm ts p = outB ts p := by
  unfold frm outB
  rw [frmN_filter]
  refine List.filter_congr fun i hi => ?_
  have hi := List.mem_range.mp hi
  unfold nearT
  rw [List.getElem?_eq_getElem hi]
  simp
def inB (ts : List (Nat × Nat)) (p : Nat) : List Nat := (List.range ts.length).filter fun t => decide (farT ts t = p)
theorem inB_mem {ts : List (Nat × Nat)} {p t : Nat} : t ∈ inB ts p ↔ t < ts.length ∧ farT ts t = p := by
  unfold inB
  rw [List.mem_filter, List.mem_range, decide_eq_true_eq]
theorem frm_in (ts : List (Nat × Nat)) (p : Nat) : frm (ts.map Prod.swap) p = inB ts p := by
  unfold frm inB
  rw [frmN_filter, List.length_map]
  refine List.filter_congr fun i hi => ?_
  have hi := List.mem_range.mp hi
  unfold farT
  rw [List.getElem?_map, List.getElem?_eq_getElem hi]
  simp
theorem outB_len (ts : List (Nat × Nat)) (p : Nat) : (outB ts p).length ≤ ts.length := by
  unfold outB
  have := List.length_filter_le (fun t => decide (nearT ts t = p)) (List.range ts.length)
  rwa [List.length_range] at this
theorem inB_len (ts : List (Nat × Nat)) (p : Nat) : (inB ts p).length ≤ ts.length := by
  unfold inB
  have := List.length_filter_le (fun t => decide (farT ts t = p)) (List.range ts.length)
  rwa [List.length_range] at this
theorem tie_at {H : Hp} {l t : Nat} {ts : List (Nat × Nat)} (h : TiesAt H l ts) (ht : t < ts.length) : ∃ (xs : List V) (p : Addr), H l = some (.lst xs) ∧ atI xs (t : Int) = some (.ref p) ∧ H p = some (.tup [.int ((nearT ts t : Nat) : Int), .int ((farT ts t : Nat) : Int)]) := by
  obtain ⟨tas, h1, h2⟩ := h
  have hl := paired_len h2
  have htl : t < tas.length := by rw [hl]; exact ht
  obtain ⟨e, he, hp⟩ := paired_get h2 (List.getElem?_eq_getElem htl)
  refine ⟨_, _, h1, atI_nat (j := t) (by rw [List.getElem?_map, List.getElem?_eq_getElem htl]; rfl), ?_⟩
  unfold nearT farT
  rw [he]
  exact hp
theorem iv_of {L : List Nat} {i : Nat} {y : V} (h : (iv L)[i]? = some y) : ∃ t : Nat, L[i]? = some t ∧ y = V.int (t : Int) := by
  rw [iv, List.getElem?_map] at h
  cases e : L[i]? with
  | none => rw [e] at h; cases h
  | some o => rw [e] at h; exact ⟨o, rfl, (Option.some.inj h).symm⟩
theorem take_one' {α : Type} {L : List α} {i : Nat} {e : α} (h : L[i]? = some e) : L.take (i + 1) = L.take i ++ [e] := by rw [List.take_succ, h]; rfl
theorem far_lt {N : Nat} {ts : List (Nat × Nat)} (ho : OkWeb N ts) {t : Nat} (ht : t < ts.length) : nearT ts t < N ∧ farT ts t < N := by
  unfold nearT farT
  rw [List.getElem?_eq_getElem ht]
  exact ho.ok _ (List.getElem_mem ht)
theorem inV_iv (n : Nat) (W : List Nat) : inV (.int (n : Int)) (iv W) = decide (n ∈ W) := by
  unfold inV iv
  induction W with
  | nil => rfl
  | cons a r ih =>
    rw [List.map_cons, List.any_cons, ih]
    by_cases h : a = n
    · subst h
      have e : eqV (V.int (a : Int)) (V.int (a : Int)) = true := by
        show ((a : Int) == (a : Int)) = true
        simp
      rw [e]
      simp
    · have e : eqV (V.int (a : Int)) (V.int (n : Int)) = false := by
        show ((a : Int) == (n : Int)) = false
        simp
        omega
      rw [e]
      have h2 : ¬ n = a := fun z => h z.symm
      simp [h2]
theorem flat_iv (W : List Nat) : (iv W).all flatV = true := by
  rw [List.all_eq_true]
  intro x hx
  obtain ⟨n, _, rfl⟩ := List.mem_map.mp hx
  rfl
theorem line200 {n : Nat} (h : n ≤ 200) : n < sizeLine := Nat.lt_of_le_of_lt h (by decide)
theorem wf_tf (N : Nat) (tl fl ol : Addr) : (wf N tl fl ol).lookup ("ties_from" : Str) = none := wf_no _ _ _ _ (by decide +kernel) (by decide +kernel) (by decide +kernel) (by decide +kernel)
theorem wf_tt (N : Nat) (tl fl ol : Addr) : (wf N tl fl ol).lookup ("ties_to" : Str) = none := wf_no _ _ _ _ (by decide +kernel) (by decide +kernel) (by decide +kernel) (by decide +kernel)
theorem wf_ti (N : Nat) (tl fl ol : Addr) : (wf N tl fl ol).lookup ("ties" : Str) = none := wf_no _ _ _ _ (by decide +kernel) (by decide +kernel) (by decide +kernel) (by decide +kernel)
theorem iv_nat (L : List Nat) : iv L = (L.map fun n : Nat => (n : Int)).map V.int := by rw [iv, List.map_map]; rfl
/-- a rising list of ints that are naturals -/
theorem nats_of {M : List Int} {R : List Nat} (h : ∀ k : Int, k ∈ M ↔ ∃ f ∈ R, k = ((f : Nat) : Int)) (hs : M.Pairwise (· < ·)) : ∃ M' : List Nat, M = M'.map (fun n : Nat => (n : Int)) ∧ M'.Nodup ∧ M'.Pairwise (· < ·) ∧ ∀ x, x ∈ M' ↔ x ∈ R := by
  have e : M = (M.map Int.toNat).map fun n : Nat => (n : Int) := by
    rw [List.map_map]
    conv => lhs; rw [← List.map_id M]
    refine List.map_congr_left fun k hk => ?_
    obtain ⟨f, _, rfl⟩ := (h k).mp hk
    rfl
  have hp : (M.map Int.toNat).Pairwise (· < ·) := by
    rw [List.pairwise_map]
    refine hs.imp_of_mem fun {a b} ha hb hab => ?_
    obtain ⟨f, _, rfl⟩ := (h a).mp ha
    obtain ⟨g, _, rfl⟩ := (h b).mp hb
    show f < g
    omega
  refine ⟨M.map Int.toNat, e, hp.imp fun {a b} z => Nat.ne_of_lt z, hp, fun x => ?_⟩
  rw [List.mem_map]
  constructor
  · rintro ⟨k, hk, rfl⟩
    obtain ⟨f, hf, rfl⟩ := (h k).mp hk
    exact hf
  · intro hx
    exact ⟨(x : Int), (h _).mpr ⟨x, hx, rfl⟩, rfl⟩
section
variable {P : Program} {w : World} {K : PySem.W.Frag} {mg : Str → Option Value} {base : Heap} {C : Addr}
def sp_need_places (_ : PySem.W.Frag) (C : Addr) : Sp := fun vs H Q _ => ∃ a N ts p r, vs = [.ref a, .int ((p : Nat) : Int), .int ((r : Nat) : Int)] ∧ WebAt C a N ts H ∧ p < N ∧ r < N ∧ Q .non H
theorem ok_need_places (D : Def K mg "_need_places" s_need_places ["web", "begin", "end"]) (B : Bs mg) (Glb : Glo mg) (WK : WebK K mg C)
    (hneed_web : Good P w K mg base "need_web" sneed_web ["web"] 3 (spneed_web K C))
    (hneed_place : Good P w K mg base "need_place" sneed_place ["web", "place"] 4 (spneed_place K C)) :
    Good P w K mg base "_need_places" s_need_places ["web", "begin", "end"] 5 (sp_need_places K C) := by
  refine D.good fun f fd F => ?_
  obtain ⟨fneed_web, dneed_web, Oneed_web, mneed_web, kneed_web, bneed_web, Fneed_web⟩ := hneed_web
  obtain ⟨fneed_place, dneed_place, Oneed_place, mneed_place, kneed_place, bneed_place, Fneed_place⟩ := hneed_place
  refine F.ok sc_need_places (fun vs H Q E h => ?_) (fun cdv A outer s H vs Q E hr h => ?_)
  · obtain ⟨a, N, ts, p, r, rfl, hw, hp, hrN, q⟩ := h
    first | rfl | (rcases h with ⟨_, _, rfl, _⟩ | ⟨_, rfl, _⟩ <;> rfl)
  obtain ⟨a, N, ts, p, r, rfl, hw, hp, hrN, q⟩ := h
  refine ⟨_, (pss_cons (ps_expr (pe_call Oneed_web (hr.mono (by decide)) rfl mneed_web kneed_web bneed_web .nil pass0 (pa_cons (pv 0) pa_nil)))
  (pss_cons (ps_expr (pe_call Oneed_place hr rfl mneed_place kneed_place bneed_place .nil pass0 (pa_cons (pv 0) (pa_cons (pv 1) pa_nil))))
  (pss_one (ps_expr (pe_call Oneed_place hr rfl mneed_place kneed_place bneed_place .nil pass0 (pa_cons (pv 0) (pa_cons (pv 2) pa_nil))))))), ?_⟩
  exact ⟨_, rfl, a, N, ts, rfl, hw, _, rfl, _, rfl, a, N, ts, p, rfl, hw, hp, _, rfl, _, rfl, a, N, ts, r, rfl, hw, hrN, q⟩
def sp_marked_with (_ : PySem.W.Frag) (C : Addr) : Sp := fun vs H Q _ => ∃ (a : Addr) (N : Nat) (ts : List (Nat × Nat)) (m : Addr) (M : List Nat) (p : Nat), vs = [.ref a, .ref m, .int ((p : Nat) : Int)] ∧ WebAt C a N ts H ∧ OkWeb N ts ∧ H m = some (.lst (iv M)) ∧ M.length ≤ 20 ∧ ts.length ≤ 20 ∧ p < N ∧ (∀ y ∈ M, y < N) ∧
  ∀ H' l, Same H H' → H l = none → H' l = some (.lst (iv (markF N ts M p))) → Q (.ref l) H'
theorem ok_marked_with (D : Def K mg "_marked_with" s_marked_with ["web", "marked", "place"]) (B : Bs mg) (Glb : Glo mg) (WK : WebK K mg C)
    (hWeb_ties_from : GoodM P w K mg base C "ties_from" "Web.ties_from" sWeb_ties_from ["self", "place"] 5 (spWeb_ties_from K C))
    (hWeb_ties : GoodM P w K mg base C "ties" "Web.ties" sWeb_ties ["self"] 1 (spWeb_ties K C)) :
    Good P w K mg base "_marked_with" s_marked_with ["web", "marked", "place"] 7 (sp_marked_with K C) := by
  refine D.good fun f fd F => ?_
  obtain ⟨fWeb_ties_from, dWeb_ties_from, OWeb_ties_from, tWeb_ties_from, bWeb_ties_from, FWeb_ties_from⟩ := hWeb_ties_from
  obtain ⟨fWeb_ties, dWeb_ties, OWeb_ties, tWeb_ties, bWeb_ties, FWeb_ties⟩ := hWeb_ties
  refine F.ok sc_marked_with (fun vs H Q E h => ?_) (fun cdv A outer s H vs Q E hr h => ?_)
  · obtain ⟨a, N, ts, m, M, p, rfl, hw, ho, hm, hM, ht, hp, hMN, q⟩ := h
    first | rfl | (rcases h with ⟨_, _, rfl, _⟩ | ⟨_, rfl, _⟩ <;> rfl)
  obtain ⟨a, N, ts, m, M, p, rfl, hw, ho, hm, hM, ht, hp, hMN, q⟩ := h
  refine ⟨_, (pss_cons (ps_setLc (i := 3) (own := [("tie", 4)]) (g := gName 4) (by rfl) sc_marked_with.nd rfl rfl (sw_true rfl rfl rfl (by decide +kernel)) (pi_list (pe_meth (pv 0) WK.cl tWeb_ties_from OWeb_ties_from (hr.mono (by decide)) bWeb_ties_from .nil pass0 (pa_cons (pv 2) pa_nil))) (blkOk_by (own := [("tie", 4)]) (N := ["web", "marked", "place", "ends", "tie", "other"]) (sc := defScope s_marked_with) (by decide +kernel)) (fun _ _ _ _ _ => (pg_name (i := 4) sc_marked_with.nd rfl (by first | exact Or.inl rfl | exact Or.inr rfl))) (fun _ _ _ _ _ => pts_nil) (fun _ _ _ _ _ => (pe_ix (ix_tupK (K := K) rfl) (pe_ix (ix_listK (K := K) rfl) (pe_meth0 (pv 0) WK.cl tWeb_ties OWeb_ties (hr.mono (by decide)) bWeb_ties .nil pass0) (pv 4) (by exact fun _ _ => rfl)) pe_int (by exact fun _ _ => rfl))))
  (pss_one (ps_ret (pe_callB (cr_sortIn rfl) (by rfl) B.sorted (by decide +kernel) (pa_cons (pe_callTy (cr_setIn rfl) (by rfl) B.set (by decide +kernel) (pa_cons (pe_op op_cat (pe_lc (own := [("other", 5)]) (g := gName 5) (by rfl) sc_marked_with.nd (pi_list (pv 1)) (blkOk_by (own := [("other", 5)]) (N := ["web", "marked", "place", "ends", "tie", "other"]) (sc := defScope s_marked_with) (by decide +kernel)) (fun _ _ _ _ _ => (pg_name (i := 5) sc_marked_with.nd rfl (by first | exact Or.inl rfl | exact Or.inr rfl))) (fun _ _ _ _ _ => (pts_one (pt_cmpR op_ne (pv 5) (pv 2) (nomark _)))) (fun _ _ _ _ _ => (pv 5))) (pv 3)) pa_nil)) pa_nil))))), ?_⟩
  have hol := outB_len ts p
  obtain ⟨dx, tl, fl, ol, h1, _⟩ := id hw
  refine ⟨_, rfl, a, dx, _, rfl, h1, wf_tf _ _ _ _, _, rfl, a, N, ts, p, rfl, hw, hp, fun H1 l1 nl1 S1 hl1 => ?_⟩
  rw [frm_out] at hl1
  refine ⟨l1, rfl, ⟨_, SqL.of hl1⟩, fun D nD => ?_⟩
  refine lc_list (K := K) (a := l1) (xs := iv (outB ts p)) (fun i H' => Same H1 H' ∧ H' D = some (.lst (iv (((outB ts p).take i).map (farT ts))))) ⟨same_new nD _, upd_same⟩ (fun i H' _ ⟨z, _⟩ => SqL.of (z _ _ hl1)) ?_ ?_
  · rintro i y H2 hy ⟨S2, hD2⟩
    obtain ⟨t, htj, rfl⟩ := iv_of hy
    obtain ⟨ht1, ht2⟩ := outB_mem.mp (List.mem_of_getElem? htj)
    have S12 := S1.trans S2
    have hw2 := hw.same S12
    refine ⟨rfl, _, rfl, a, dx, _, rfl, S12 _ _ h1, wf_ti _ _ _ _, a, N, ts, rfl, hw2, fun H3 l3 nl3 S3 hT3 => ?_⟩
    obtain ⟨xs, q3, e1, e2, e3⟩ := tie_at hT3 ht1
    refine ⟨_, rfl, _, _, _, .ref q3, rfl, rfl, SqL.of e1, e2, _, _, _, .int ((farT ts t : Nat) : Int), rfl, rfl, SqT.of e3, atI_nat (j := 1) rfl, _, S3 _ _ hD2, ?_, same_upd (S2.trans S3) nD, ?_⟩
    · rw [List.length_map, List.length_map, List.length_take]
      exact line200 (by omega)
    · rw [upd_same, take_one' htj, List.map_append, show List.map (farT ts) [t] = [farT ts t] from rfl, iv_app]
  · rintro H2 ⟨S2, hD2⟩
    rw [List.length_map, List.take_length] at hD2
    have S12 := S1.trans S2
    have hm2 := S12 _ _ hm
    refine ⟨_, rfl, m, rfl, ⟨_, SqL.of hm2⟩, fun D2 nD2 => ?_⟩
    refine lc_list (K := K) (a := m) (xs := iv M) (fun i H' => Same H2 H' ∧ H' D2 = some (.lst (iv ((M.take i).filter fun x => decide (x ≠ p))))) ⟨same_new nD2 _, upd_same⟩ (fun i H' _ ⟨z, _⟩ => SqL.of (z _ _ hm2)) ?_ ?_
    · rintro i y H3 hy ⟨S3, hD3⟩
      obtain ⟨x, hx, rfl⟩ := iv_of hy
      refine ⟨rfl, _, rfl, _, rfl, rfl, _, rfl, ?_⟩
      have hlt : ((M.take i).filter fun x => decide (x ≠ p)).length ≤ 20 := by
        have := List.length_filter_le (fun x => decide (x ≠ p)) (M.take i)
        rw [List.length_take] at this
        omega
      by_cases c : x = p
      · refine iteNot' (by rw [c]) ⟨S3, ?_⟩
        rw [take_one' hx, List.filter_append, List.filter_cons_of_neg (by simpa using c), List.filter_nil, List.append_nil]
        exact hD3
      · refine iteNot (fun z => c (by have := int_eq.mp z; omega)) ⟨_, rfl, _, hD3, by rw [List.length_map]; exact line200 (by omega), same_upd S3 nD2, ?_⟩
        rw [upd_same, take_one' hx, List.filter_append, List.filter_cons_of_pos (by simpa using c), List.filter_nil, iv_app]
    · rintro H3 ⟨S3, hD23⟩
      rw [List.length_map, List.take_length] at hD23
      have hD3 := S3 _ _ hD2
      have hl20 : (M.filter fun x => decide (x ≠ p)).length ≤ 20 := Nat.le_trans (List.length_filter_le _ _) hM
      refine ⟨_, rfl, D2, D, _, _, rfl, rfl, hD23, hD3, by rw [List.length_map, List.length_map, List.length_map]; exact Nat.le_of_lt (line200 (by omega)), fun l4 nl4 => ?_⟩
      have S4 := (S12.trans S3).trans (same_new nl4 (.lst (iv (M.filter fun x => decide (x ≠ p)) ++ iv ((outB ts p).map (farT ts)))))
      have h4 : upd H3 l4 (.lst (iv (M.filter fun x => decide (x ≠ p)) ++ iv ((outB ts p).map (farT ts)))) l4 = some (.lst ((((M.filter fun x => decide (x ≠ p)) ++ (outB ts p).map (farT ts)).map fun n : Nat => (n : Int)).map V.int)) := by
        rw [upd_same, ← iv_nat, iv, iv, iv, List.map_append]
      generalize upd H3 l4 (.lst (iv (M.filter fun x => decide (x ≠ p)) ++ iv ((outB ts p).map (farT ts)))) = H4 at S4 h4
      refine ⟨l4, _, rfl, SqL.of h4, by rw [List.length_map, List.length_append, List.length_map]; omega, fun sp n hn hle nsp => ?_⟩
      rw [List.length_map, List.length_append, List.length_map] at hle
      refine ⟨sp, _, n, rfl, upd_same, by omega, fun R mp hR hRm hRl nmp => ?_⟩
      obtain ⟨M', e', _, r', m'⟩ := nats_of (M := R) (R := (M.filter fun x => decide (x ≠ p)) ++ (outB ts p).map (farT ts)) (fun k => by
        rw [hRm]
        unfold inI
        rw [decide_eq_true_iff, List.mem_map]
        exact ⟨fun ⟨f, a, b⟩ => ⟨f, a, b.symm⟩, fun ⟨f, a, b⟩ => ⟨f, a, b.symm⟩⟩) hR
      subst e'
      have eM : M' = markF N ts M p := rise_eq r' (range_rise _ _) fun x => by
        rw [m', List.mem_append, List.mem_filter, List.mem_map, decide_eq_true_eq, markF_mem hMN (fun t ht => (far_lt ho ht).2)]
      refine q _ mp ((S4.trans (same_new nsp _)).trans (same_new nmp _)) (S4.free ((same_new nsp _).free nmp)) (by rw [upd_same, ← iv_nat, eM])
def sp_may_be_passed (_ : PySem.W.Frag) (C : Addr) : Sp := fun vs H Q _ => ∃ (a : Addr) (N : Nat) (ts : List (Nat × Nat)) (p : Nat) (m : Addr) (R : List Nat), vs = [.ref a, .int ((p : Nat) : Int), .ref m] ∧ WebAt C a N ts H ∧ ts.length ≤ 20 ∧ H m = some (.lst (iv R)) ∧ p < N ∧ R.length ≤ 100 ∧
  ∀ H', Same H H' → Q (.bl (mayB ts R p)) H'
theorem ok_may_be_passed (D : Def K mg "_may_be_passed" s_may_be_passed ["web", "place", "passed"]) (B : Bs mg) (Glb : Glo mg) (WK : WebK K mg C)
    (hWeb_ties_to : GoodM P w K mg base C "ties_to" "Web.ties_to" sWeb_ties_to ["self", "place"] 5 (spWeb_ties_to K C))
    (hWeb_ties : GoodM P w K mg base C "ties" "Web.ties" sWeb_ties ["self"] 1 (spWeb_ties K C)) :
    Good P w K mg base "_may_be_passed" s_may_be_passed ["web", "place", "passed"] 7 (sp_may_be_passed K C) := by
  refine D.good fun f fd F => ?_
  obtain ⟨fWeb_ties_to, dWeb_ties_to, OWeb_ties_to, tWeb_ties_to, bWeb_ties_to, FWeb_ties_to⟩ := hWeb_ties_to
  obtain ⟨fWeb_ties, dWeb_ties, OWeb_ties, tWeb_ties, bWeb_ties, FWeb_ties⟩ := hWeb_ties
  refine F.ok sc_may_be_passed (fun vs H Q E h => ?_) (fun cdv A outer s H vs Q E hr h => ?_)
  · obtain ⟨a, N, ts, p, m, R, rfl, hw, ht, hm, hp, hR, q⟩ := h
    first | rfl | (rcases h with ⟨_, _, rfl, _⟩ | ⟨_, rfl, _⟩ <;> rfl)
  obtain ⟨a, N, ts, p, m, R, rfl, hw, ht, hm, hp, hR, q⟩ := h
  refine ⟨_, (pss_one (ps_ret (pe_callB (cr_all rfl) (by rfl) B.all (by decide +kernel) (pa_cons (pe_lc (own := [("tie", 3)]) (g := gName 3) (by rfl) sc_may_be_passed.nd (pi_list (pe_meth (pv 0) WK.cl tWeb_ties_to OWeb_ties_to (hr.mono (by decide)) bWeb_ties_to .nil pass0 (pa_cons (pv 1) pa_nil))) (blkOk_by (own := [("tie", 3)]) (N := ["web", "place", "passed", "tie"]) (sc := defScope s_may_be_passed) (by decide +kernel)) (fun _ _ _ _ _ => (pg_name (i := 3) sc_may_be_passed.nd rfl (by first | exact Or.inl rfl | exact Or.inr rfl))) (fun _ _ _ _ _ => pts_nil) (fun _ _ _ _ _ => (pe_cmpR (op_in_seqK (K := K) rfl) (pe_ix (ix_tupK (K := K) rfl) (pe_ix (ix_listK (K := K) rfl) (pe_meth0 (pv 0) WK.cl tWeb_ties OWeb_ties (hr.mono (by decide)) bWeb_ties .nil pass0) (pv 3) (by exact fun _ _ => rfl)) pe_int (by exact fun _ _ => rfl)) (pv 2) (by rfl)))) pa_nil)))), ?_⟩
  have hol := inB_len ts p
  obtain ⟨dx, tl, fl, ol, h1, _⟩ := id hw
  refine ⟨_, rfl, a, dx, _, rfl, h1, wf_tt _ _ _ _, _, rfl, a, N, ts, p, rfl, hw, hp, fun H1 l1 nl1 S1 hl1 => ?_⟩
  rw [frm_in] at hl1
  refine ⟨l1, rfl, ⟨_, SqL.of hl1⟩, fun D nD => ?_⟩
  refine lc_list (K := K) (a := l1) (xs := iv (inB ts p)) (fun i H' => Same H1 H' ∧ H' D = some (.lst ((((inB ts p).take i).map fun t => decide (nearT ts t ∈ R)).map V.bl))) ⟨same_new nD _, upd_same⟩ (fun i H' _ ⟨z, _⟩ => SqL.of (z _ _ hl1)) ?_ ?_
  · rintro i y H2 hy ⟨S2, hD2⟩
    obtain ⟨t, htj, rfl⟩ := iv_of hy
    obtain ⟨ht1, ht2⟩ := inB_mem.mp (List.mem_of_getElem? htj)
    have S12 := S1.trans S2
    refine ⟨rfl, _, rfl, a, dx, _, rfl, S12 _ _ h1, wf_ti _ _ _ _, a, N, ts, rfl, hw.same S12, fun H3 l3 nl3 S3 hT3 => ?_⟩
    obtain ⟨xs, q3, e1, e2, e3⟩ := tie_at hT3 ht1
    have hm3 := S3 _ _ (S12 _ _ hm)
    refine ⟨_, rfl, _, _, _, .ref q3, rfl, rfl, SqL.of e1, e2, _, _, _, .int ((nearT ts t : Nat) : Int), rfl, rfl, SqT.of e3, atI_nat (j := 0) rfl, ?_⟩
    refine ⟨_, rfl, m, iv R, rfl, .inl (SqL.of hm3), rfl, flat_iv R, ?_⟩
    have ein : (if false = true then !inV (.int ((nearT ts t : Nat) : Int)) (iv R) else inV (.int ((nearT ts t : Nat) : Int)) (iv R)) = decide (nearT ts t ∈ R) := inV_iv _ R
    rw [ein]
    refine ⟨_, S3 _ _ hD2, ?_, same_upd (S2.trans S3) nD, ?_⟩
    · rw [List.length_map, List.length_map, List.length_take]
      exact line200 (by omega)
    · rw [upd_same, take_one' htj, List.map_append, List.map_append]
      rfl
  · rintro H2 ⟨S2, hD2⟩
    rw [List.length_map, List.take_length] at hD2
    refine ⟨D, _, rfl, SqL.of hD2, ?_⟩
    have eb : ((inB ts p).map fun t => decide (nearT ts t ∈ R)).all id = mayB ts R p := by
      rw [Bool.eq_iff_iff, mayB_iff, List.all_map, List.all_eq_true]
      unfold MayPass
      constructor
      · intro h t h1 h2
        simpa using h t (inB_mem.mpr ⟨h1, h2⟩)
      · intro h t h1
        obtain ⟨h2, h3⟩ := inB_mem.mp h1
        simpa using h t h2 h3
    rw [eb]
    exact q _ (S1.trans S2)
end
end My
set_option maxHeartbeats 4000000
namespace My
open PySem L2 PyProof.Rows
theorem atI_back {α : Type} {xs : List α} {v : α} (h : xs[xs.length - 1]? = some v) : atI xs (-1) = some v := by
  obtain ⟨ys, rfl⟩ : ∃ ys, xs = ys ++ [v] := by
    rw [← List.getLast?_eq_getElem?] at h
    exact List.getLast?_eq_some_iff.mp h
  exact atI_last _ _
theorem iv_back {L : List Nat} (h : 0 < L.length) : atI (iv L) (-1) = some (.int ((L.getLastD 0 : Nat) : Int)) := by
  refine atI_back ?_
  rw [List.length_map, List.getElem?_map, last_at h]
  rfl
theorem iv_nil {L : List Nat} : iv L = [] ↔ L = [] := List.map_eq_nil_iff
section
variable {P : Program} {w : World} {K : PySem.W.Frag} {mg : Str → Option Value} {base : Heap} {C : Addr}
def sp_searched (_ : PySem.W.Frag) (C : Addr) : Sp := fun vs H Q _ => ∃ (a : Addr) (N : Nat) (ts : List (Nat × Nat)) (b : Nat), vs = [.ref a, .int ((b : Nat) : Int)] ∧ WebAt C a N ts H ∧ OkWeb N ts ∧ ts.length ≤ 20 ∧ N ≤ 20 ∧ b < N ∧
  (searchB N ts b = none → ∀ H', Same H H' → Q .non H') ∧ ∀ P e, searchB N ts b = some (P, e) → ∀ H' t p, Same H H' → H t = none → H p = none → t ≠ p → H' t = some (.tup [.ref p, .int ((e : Nat) : Int)]) → H' p = some (.lst (iv P)) → Q (.ref t) H'
theorem ok_searched (D : Def K mg "_searched" s_searched ["web", "begin"]) (B : Bs mg) (Glb : Glo mg) (WK : WebK K mg C)
    (h_marked_with : Good P w K mg base "_marked_with" s_marked_with ["web", "marked", "place"] 7 (sp_marked_with K C))
    (h_may_be_passed : Good P w K mg base "_may_be_passed" s_may_be_passed ["web", "place", "passed"] 7 (sp_may_be_passed K C))
    (hWeb_ties_from : GoodM P w K mg base C "ties_from" "Web.ties_from" sWeb_ties_from ["self", "place"] 5 (spWeb_ties_from K C)) :
    Good P w K mg base "_searched" s_searched ["web", "begin"] 8 (sp_searched K C) := by
  refine D.good fun f fd F => ?_
  obtain ⟨f_marked_with, d_marked_with, O_marked_with, m_marked_with, k_marked_with, b_marked_with, F_marked_with⟩ := h_marked_with
  obtain ⟨f_may_be_passed, d_may_be_passed, O_may_be_passed, m_may_be_passed, k_may_be_passed, b_may_be_passed, F_may_be_passed⟩ := h_may_be_passed
  obtain ⟨fWeb_ties_from, dWeb_ties_from, OWeb_ties_from, tWeb_ties_from, bWeb_ties_from, FWeb_ties_from⟩ := hWeb_ties_from
  refine F.ok sc_searched (fun vs H Q E h => ?_) (fun cdv A outer s H vs Q E hr h => ?_)
  · obtain ⟨a, N, ts, b, rfl, hw, ho, ht, hN, hb, qN, qS⟩ := h
    first | rfl | (rcases h with ⟨_, _, rfl, _⟩ | ⟨_, rfl, _⟩ <;> rfl)
  obtain ⟨a, N, ts, b, rfl, hw, ho, ht, hN, hb, qN, qS⟩ := h
  refine ⟨_, (pss_cons (ps_if (pt_cmpR op_lt (pe_callB call_len_seq (by rfl) B.len (by decide +kernel) (pa_cons (pe_meth (pv 0) WK.cl tWeb_ties_from OWeb_ties_from (hr.mono (by decide)) bWeb_ties_from .nil pass0 (pa_cons (pv 1) pa_nil)) pa_nil)) pe_int (nomark _))
    (pss_one (ps_ret pe_non)) pss_nil)
  (pss_cons (ps_set (i := 2) sc_searched.nd rfl (by first | exact Or.inl rfl | exact Or.inr rfl) (pe_lst (pa_cons (pv 1) pa_nil)))
  (pss_cons (ps_set (i := 3) sc_searched.nd rfl (by first | exact Or.inl rfl | exact Or.inr rfl) (pe_call O_marked_with hr rfl m_marked_with k_marked_with b_marked_with .nil pass0 (pa_cons (pv 0) (pa_cons (pe_lst pa_nil) (pa_cons (pv 1) pa_nil)))))
  (pss_cons (ps_while PassesOwn.never (PW.pt (pw_and (pt_cmpR op_notIn_seq (pv 1) (pv 3) (by rfl)) (pw_and1 (pt_cmpR (op_neD hr.units) (pe_meth (pv 0) WK.cl tWeb_ties_from OWeb_ties_from (hr.mono (by decide)) bWeb_ties_from .nil pass0 (pa_cons (pe_ix ix_list (pv 2) (pe_un un_neg pe_int) (fun _ _ => rfl)) pa_nil)) (pe_lst pa_nil) (nomark _)))))
    (pss_cons (ps_setLc (i := 4) (own := [("place", 5)]) (g := gName 5) (by rfl) sc_searched.nd rfl rfl (sw_true rfl rfl rfl (by decide +kernel)) (pi_list (pv 3)) (blkOk_by (own := [("place", 5)]) (N := ["web", "begin", "passed", "marked", "free", "place"]) (sc := defScope s_searched) (by decide +kernel)) (fun _ _ _ _ _ => (pg_name (i := 5) sc_searched.nd rfl (by first | exact Or.inl rfl | exact Or.inr rfl))) (fun _ _ _ _ _ => (pts_one (pt_val (pe_call O_may_be_passed hr rfl m_may_be_passed k_may_be_passed b_may_be_passed .nil pass0 (pa_cons (pv 0) (pa_cons (pv 5) (pa_cons (pv 2) pa_nil))))))) (fun _ _ _ _ _ => (pv 5)))
  (pss_cons (ps_if (pt_cmpR (op_eqD hr.units) (pv 4) (pe_lst pa_nil) (nomark _))
    (pss_one (ps_ret pe_non)) pss_nil)
  (pss_cons (ps_if (pt_cmpR op_eq (pe_callB call_len_seq (by rfl) B.len (by decide +kernel) (pa_cons (pv 3) pa_nil)) pe_int (nomark _))
    (pss_one (ps_ret (pe_tup (pa_cons (pv 2) (pa_cons (pe_ix ix_list (pv 4) pe_int (fun _ _ => rfl)) pa_nil))))) pss_nil)
  (pss_cons (ps_expr (pe_bm PySem.F.plainAttrs_list PySem.F.slot_list_append PySem.F.type_list_append mt_append (pv 2) (pa_cons (pe_ix ix_list (pv 4) pe_int (fun _ _ => rfl)) pa_nil)))
  (pss_one (ps_set (i := 3) sc_searched.nd rfl (by first | exact Or.inl rfl | exact Or.inr rfl) (pe_call O_marked_with hr rfl m_marked_with k_marked_with b_marked_with .nil pass0 (pa_cons (pv 0) (pa_cons (pv 3) (pa_cons (pe_ix ix_list (pv 4) pe_int (fun _ _ => rfl)) pa_nil)))))))))))
  (pss_one (ps_ret pe_non)))))), ?_⟩
  have hf : FarOk N ts := fun t h => (far_lt ho h).2
  obtain ⟨dx, tl, fl, ol, h1, _⟩ := id hw
  refine ⟨_, rfl, a, dx, _, rfl, h1, wf_tf _ _ _ _, _, rfl, a, N, ts, b, rfl, hw, hb, fun H1 l1 nl1 S1 hl1 => ?_⟩
  rw [frm_out] at hl1
  unfold searchB at qN qS
  refine ⟨_, _, rfl, .inl (SqL.of hl1), _, _, rfl, rfl, _, rfl, ?_⟩
  by_cases h2 : (outB ts b).length < 2
  · rw [if_pos h2] at qN
    exact iteYes (by rw [List.length_map]; omega) (qN rfl _ S1)
  refine iteNo (by rw [List.length_map]; omega) ?_
  rw [if_neg h2] at qN qS
  refine ⟨_, rfl, (by show 1 ≤ sizeLine; decide), fun pl npl => ?_⟩
  have S2 := S1.trans (same_new npl (.lst [V.int (b : Int)]))
  have hpl : upd H1 pl (.lst [V.int (b : Int)]) pl = some (.lst (iv [b])) := upd_same
  generalize upd H1 pl (.lst [V.int (b : Int)]) = H2 at S2 hpl
  refine ⟨_, rfl, Nat.zero_le _, fun e0 ne0 => ⟨_, rfl, ?_⟩⟩
  have S3 := S2.trans (same_new ne0 (.lst []))
  have hpl3 := same_new ne0 (.lst []) _ _ hpl
  have he3 : upd H2 e0 (.lst []) e0 = some (.lst (iv [])) := upd_same
  have hpn : H pl = none := S1.free npl
  generalize upd H2 e0 (.lst []) = H3 at S3 hpl3 he3
  refine ⟨a, N, ts, e0, [], b, rfl, hw.same S3, ho, he3, by simp, ht, hb, (fun y hy => nomatch hy), fun H4 m S4 nm hm => ?_⟩
  have hI := Srch.init (N := N) (ts := ts) (b := b) (M := markF N ts [] b) hb (by omega) (fun x => by
    rw [markF_mem (fun y hy => by cases hy) hf]
    exact ⟨fun z => z.elim (fun y => nomatch y.1) id, .inr⟩)
  have S04 := S3.trans S4
  have hpl4 := S4 _ _ hpl3
  have hpm : pl ≠ m := ne_of_none hpl3 nm
  refine ⟨fun n σ H' => ∃ (v4 : Option V) (P M : List Nat) (m' : Addr), σ = [some (.ref a), some (.int (b : Int)), some (.ref pl), some (.ref m'), v4, none] ∧ Same H H' ∧ H' pl = some (.lst (iv P)) ∧ H' m' = some (.lst (iv M)) ∧ pl ≠ m' ∧ Srch N ts b P M ∧ (∀ y ∈ M, y < N) ∧ M.length ≤ N ∧ n + P.length = N + 2 ∧ srchF N ts b (N + 1) [b] (markF N ts [] b) = srchF N ts b n P M, ⟨N + 1, none, [b], markF N ts [] b, m, rfl, S04, hpl4, hm, hpm, hI, markF_lt, markF_len .., by simp, rfl⟩, ?_⟩
  rintro n σ H5 ⟨v4, P, M, m', rfl, S5, hp5, hm5, hne, hS, hMN, hMl, hn, hsr⟩
  have hPl : P.length ≤ N := nodup_len hS.nd hS.lt
  have h0 : 0 < P.length := (List.getElem?_eq_some_iff.mp hS.hd).1
  obtain ⟨k, rfl⟩ : ∃ k, n = k + 1 := ⟨n - 1, by omega⟩
  rw [hsr] at qN qS
  unfold srchF at qN qS
  have hbm : (if true = true then !inV (.int ((b : Nat) : Int)) (iv M) else inV (.int ((b : Nat) : Int)) (iv M)) = !decide (b ∈ M) := by
    show (!inV (.int ((b : Nat) : Int)) (iv M)) = _
    rw [inV_iv]
  refine ⟨_, rfl, _, rfl, m', iv M, rfl, .inl (SqL.of hm5), rfl, flat_iv M, ?_⟩
  rw [hbm]
  refine ⟨_, rfl, ?_⟩
  by_cases hb1 : b ∈ M
  · rw [if_pos hb1] at qN
    refine iteNot' hb1 ?_
    exact iteF (qN rfl _ S5)
  refine iteNot hb1 ?_
  rw [if_neg hb1] at qN qS
  obtain ⟨dx5, tl5, fl5, ol5, g1, _⟩ := id (hw.same S5)
  have hlast := last_at h0
  have hlN : P.getLastD 0 < N := hS.lt _ (List.mem_of_getElem? hlast)
  refine ⟨_, rfl, a, dx5, _, rfl, g1, wf_tf _ _ _ _, _, rfl, _, rfl, _, _, _, .int ((P.getLastD 0 : Nat) : Int), rfl, rfl, SqL.of hp5, iv_back h0, a, N, ts, P.getLastD 0, rfl, hw.same S5, hlN, fun H6 l6 nl6 S6 hl6 => ?_⟩
  rw [frm_out] at hl6
  refine ⟨Nat.zero_le _, fun e6 ne6 => ?_⟩
  have S7 := (S5.trans S6).trans (same_new ne6 (.lst []))
  have hp7 := same_new ne6 (.lst []) _ _ (S6 _ _ hp5)
  have hm7 := same_new ne6 (.lst []) _ _ (S6 _ _ hm5)
  have hl7 := same_new ne6 (.lst []) _ _ hl6
  have he7 : upd H6 e6 (.lst []) e6 = some (.lst (iv [])) := upd_same
  generalize upd H6 e6 (.lst []) = H7 at S7 hp7 hm7 hl7 he7
  refine ⟨_, _, dp_iv hl7, dp_iv he7, shaped_iz _, shaped_iz _, ?_⟩
  have ee : ∀ L : List Nat, PyData.eqv (dz (L.map fun n : Nat => (n : Int))) (dz (([] : List Nat).map fun n : Nat => (n : Int))) = decide (L = []) := fun L => by
    rw [show (([] : List Nat).map fun n : Nat => (n : Int)) = [] from rfl, eqv_empty]
    cases L <;> rfl
  rw [ee]
  refine ⟨_, rfl, ?_⟩
  by_cases ho1 : outB ts (P.getLastD 0) = []
  · rw [if_pos ho1] at qN
    refine iteNot' ho1 (qN rfl _ S7)
  rw [if_neg ho1] at qN qS
  refine iteNot ho1 ?_
  refine ⟨fun σ' H' => ∃ m', m' < k + 1 ∧ ∃ (v4 : Option V) (P M : List Nat) (m'' : Addr), σ' = [some (.ref a), some (.int (b : Int)), some (.ref pl), some (.ref m''), v4, none] ∧ Same H H' ∧ H' pl = some (.lst (iv P)) ∧ H' m'' = some (.lst (iv M)) ∧ pl ≠ m'' ∧ Srch N ts b P M ∧ (∀ y ∈ M, y < N) ∧ M.length ≤ N ∧ m' + P.length = N + 2 ∧ srchF N ts b (N + 1) [b] (markF N ts [] b) = srchF N ts b m' P M, fun σ' H' z => z, ?_⟩
  refine ⟨_, rfl, m', rfl, ⟨_, SqL.of hm7⟩, fun D nD => ?_⟩
  refine lc_list (K := K) (a := m') (xs := iv M) (fun i H' => Same H7 H' ∧ H' D = some (.lst (iv ((M.take i).filter (mayB ts P))))) ⟨same_new nD _, upd_same⟩ (fun i H' _ ⟨z, _⟩ => SqL.of (z _ _ hm7)) ?_ ?_
  · rintro i y H8 hy ⟨S8, hD8⟩
    obtain ⟨x, hx, rfl⟩ := iv_of hy
    refine ⟨rfl, _, rfl, _, rfl, _, rfl, a, N, ts, x, pl, P, rfl, hw.same (S7.trans S8), ht, S8 _ _ hp7, hMN x (List.mem_of_getElem? hx), by omega, fun H9 S9 => ⟨_, rfl, ?_⟩⟩
    cases hmb : mayB ts P x with
    | true =>
      refine iteT ⟨_, rfl, _, S9 _ _ hD8, ?_, same_upd (S8.trans S9) nD, ?_⟩
      · rw [List.length_map]
        have := List.length_filter_le (mayB ts P) (M.take i)
        rw [List.length_take] at this
        exact line200 (by omega)
      · rw [upd_same, take_one' hx, List.filter_append, List.filter_cons_of_pos hmb, List.filter_nil, iv_app]
    | false =>
      refine iteF ⟨S8.trans S9, ?_⟩
      rw [take_one' hx, List.filter_append, List.filter_cons_of_neg (by rw [hmb]; exact Bool.false_ne_true), List.filter_nil, List.append_nil]
      exact S9 _ _ hD8
  rintro H8 ⟨S8, hD8⟩
  rw [List.length_map, List.take_length] at hD8
  have S08 := S7.trans S8
  have hp8 := S8 _ _ hp7
  have hm8 := S8 _ _ hm7
  refine ⟨_, rfl, Nat.zero_le _, fun e9 ne9 => ?_⟩
  have S9 := S08.trans (same_new ne9 (.lst []))
  have hD9 := same_new ne9 (.lst []) _ _ hD8
  have hp9 := same_new ne9 (.lst []) _ _ hp8
  have hm9 := same_new ne9 (.lst []) _ _ hm8
  have he9 : upd H8 e9 (.lst []) e9 = some (.lst (iv [])) := upd_same
  have hDp : D ≠ pl := (ne_of_none hp7 nD).symm
  have hDm : D ≠ m' := (ne_of_none hm7 nD).symm
  generalize upd H8 e9 (.lst []) = H9 at S9 hD9 hp9 hm9 he9
  refine ⟨_, _, dp_iv hD9, dp_iv he9, shaped_iz _, shaped_iz _, ?_⟩
  rw [ee]
  refine ⟨_, rfl, ?_⟩
  cases hfr : M.filter (mayB ts P) with
  | nil =>
    rw [hfr] at qN
    exact iteYes rfl (qN rfl _ S9)
  | cons f r =>
    rw [hfr] at hD9 qN qS
    have hfm : f ∈ M.filter (mayB ts P) := by rw [hfr]; exact List.mem_cons_self
    obtain ⟨hfM, hfp⟩ := List.mem_filter.mp hfm
    have hmp := mayB_iff.mp hfp
    have hfN := hMN f hfM
    refine iteNo (fun z => nomatch z) ?_
    refine ⟨_, rfl, _, _, rfl, .inl (SqL.of hm9), rfl, _, rfl, ?_⟩
    by_cases h1M : M.length = 1
    · refine iteYes (by rw [List.length_map, h1M]; rfl) ?_
      refine ⟨_, rfl, _, rfl, _, _, _, .int ((f : Nat) : Int), rfl, rfl, SqL.of hD9, atI_nat (j := 0) rfl, (by show 2 ≤ sizeLine; decide), fun tp ntp => ?_⟩
      exact qS P f (if_pos h1M) _ tp pl (S9.trans (same_new ntp _)) (S9.free ntp) hpn (ne_of_none hp9 ntp).symm upd_same (same_new ntp _ _ _ hp9)
    · refine iteNo (fun z => h1M (by have := int_eq.mp z; rw [List.length_map] at this; omega)) ?_
      refine ⟨_, rfl, .inl ⟨rfl, _, SqL.of hp9⟩, _, rfl, _, _, _, .int ((f : Nat) : Int), rfl, rfl, SqL.of hD9, atI_nat (j := 0) rfl, pl, _, _, rfl, rfl, hp9, by rw [List.length_map]; exact line200 (by omega), ?_⟩
      rw [← iv_app]
      have S10 : Same H (upd H9 pl (.lst (iv (P ++ [f])))) := same_upd S9 hpn
      have hp10 : upd H9 pl (.lst (iv (P ++ [f]))) pl = some (.lst (iv (P ++ [f]))) := upd_same
      have hm10 : upd H9 pl (.lst (iv (P ++ [f]))) m' = some (.lst (iv M)) := by rw [upd_ne hne.symm]; exact hm9
      have hD10 : upd H9 pl (.lst (iv (P ++ [f]))) D = some (.lst (iv (f :: r))) := by rw [upd_ne hDp]; exact hD9
      generalize upd H9 pl (.lst (iv (P ++ [f]))) = H10 at S10 hp10 hm10 hD10
      refine ⟨_, rfl, _, rfl, _, rfl, _, _, _, .int ((f : Nat) : Int), rfl, rfl, SqL.of hD10, atI_nat (j := 0) rfl, a, N, ts, m', M, f, rfl, hw.same S10, ho, hm10, by omega, ht, hfN, hMN, fun H11 m11 S11 nm11 hm11 => ?_⟩
      refine ⟨k, by omega, _, P ++ [f], markF N ts M f, m11, rfl, S10.trans S11, S11 _ _ hp10, hm11, ne_of_none hp10 nm11, hS.step hb1 hfM hfN hmp (fun q hq => by rw [hlast] at hq; cases hq; exact ho1) (fun x => markF_mem hMN hf), markF_lt, markF_len .., by rw [List.length_append]; show k + (P.length + 1) = _; omega, ?_⟩
      rw [hsr]
      conv => lhs; unfold srchF
      rw [if_neg hb1, if_neg ho1, hfr]
      show (if M.length = 1 then _ else _) = _
      rw [if_neg h1M]
end
end My
set_option maxHeartbeats 4000000
namespace My
open PySem L2 PyProof.Rows
def endV : Option (List Nat × Nat) → V
  | none => .non
  | some r => .int ((r.2 : Nat) : Int)
def bubsF (N : Nat) (ts : List (Nat × Nat)) (L : List Nat) : List (Nat × Nat) := L.filterMap fun b => (searchB N ts b).map fun r => (b, r.2)
def bubsB (N : Nat) (ts : List (Nat × Nat)) : List (Nat × Nat) := bubsF N ts (List.range N)
theorem bubs_mem {N : Nat} {ts : List (Nat × Nat)} {L : List Nat} {x : Nat × Nat} (h : x ∈ bubsF N ts L) : x.1 ∈ L ∧ ∃ P, searchB N ts x.1 = some (P, x.2) := by
  obtain ⟨b, hb, e⟩ := List.mem_filterMap.mp h
  cases hs : searchB N ts b with
  | none => rw [hs] at e; cases e
  | some r =>
    rw [hs] at e
    cases e
    exact ⟨hb, r.1, hs⟩
theorem bubs_len (N : Nat) (ts : List (Nat × Nat)) (L : List Nat) : (bubsF N ts L).length ≤ L.length := List.length_filterMap_le _ _
def EndAt (N : Nat) (ts : List (Nat × Nat)) (H : Hp) (p : Addr) (b : Nat) : Prop := H p = some (.tup [.int ((b : Nat) : Int), endV (searchB N ts b)])
theorem inside_sort {N : Nat} {ts : List (Nat × Nat)} {b e : Nat} {P : List Nat} (B : Bub N ts b e P) {ns : List Int} (hp : ns.Perm ((P ++ [e]).map fun n : Nat => (n : Int))) (hs : ns.Pairwise (· ≤ ·)) : ns = (insideB N P e).map fun n : Nat => (n : Int) := by
  have hn : (P ++ [e]).Nodup := by
    rw [List.nodup_append]
    exact ⟨B.nd, by simp, fun a ha c hc => by rw [List.mem_singleton.mp hc]; rintro rfl; exact B.enot ha⟩
  have hp2 : ((insideB N P e).map fun n : Nat => (n : Int)).Perm ((P ++ [e]).map fun n : Nat => (n : Int)) := by
    refine List.Perm.map _ ?_
    refine (List.perm_ext_iff_of_nodup (List.nodup_range.filter _) hn).mpr fun x => ?_
    rw [show x ∈ List.filter (fun x => decide (x ∈ P ∨ x = e)) (List.range N) ↔ x ∈ insideB N P e from Iff.rfl, inside_mem B]
    simp
  have hs2 : ((insideB N P e).map fun n : Nat => (n : Int)).Pairwise (· ≤ ·) := by
    rw [List.pairwise_map]
    exact (range_rise N _).imp fun {a c} h => by omega
  exact (hp.trans hp2.symm).eq_of_pairwise (fun a c _ _ h1 h2 => Int.le_antisymm h1 h2) hs hs2
section
variable {P : Program} {w : World} {K : PySem.W.Frag} {mg : Str → Option Value} {base : Heap} {C : Addr}
def sp_end_of (_ : PySem.W.Frag) (C : Addr) : Sp := fun vs H Q _ => ∃ (a : Addr) (N : Nat) (ts : List (Nat × Nat)) (b : Nat), vs = [.ref a, .int ((b : Nat) : Int)] ∧ WebAt C a N ts H ∧ OkWeb N ts ∧ ts.length ≤ 20 ∧ N ≤ 20 ∧ b < N ∧ ∀ H', Same H H' → Q (endV (searchB N ts b)) H'
theorem ok_end_of (D : Def K mg "_end_of" s_end_of ["web", "place"]) (B : Bs mg) (Glb : Glo mg) (WK : WebK K mg C)
    (h_searched : Good P w K mg base "_searched" s_searched ["web", "begin"] 8 (sp_searched K C)) :
    Good P w K mg base "_end_of" s_end_of ["web", "place"] 9 (sp_end_of K C) := by
  refine D.good fun f fd F => ?_
  obtain ⟨f_searched, d_searched, O_searched, m_searched, k_searched, b_searched, F_searched⟩ := h_searched
  refine F.ok sc_end_of (fun vs H Q E h => ?_) (fun cdv A outer s H vs Q E hr h => ?_)
  · obtain ⟨a, N, ts, b, rfl, hw, ho, ht, hN, hb, q⟩ := h
    first | rfl | (rcases h with ⟨_, _, rfl, _⟩ | ⟨_, rfl, _⟩ <;> rfl)
  obtain ⟨a, N, ts, b, rfl, hw, ho, ht, hN, hb, q⟩ := h
  refine ⟨_, (pss_cons (ps_set (i := 2) sc_end_of.nd rfl (by first | exact Or.inl rfl | exact Or.inr rfl) (pe_call O_searched hr rfl m_searched k_searched b_searched .nil pass0 (pa_cons (pv 0) (pa_cons (pv 1) pa_nil))))
  (pss_one (ps_ret (pe_ifExp (pt_cmpR op_isN (pv 2) pe_non (nomark _)) pe_non (pe_ix ix_tup (pv 2) pe_int (fun _ _ => rfl)))))), ?_⟩
  refine ⟨_, rfl, _, rfl, a, N, ts, b, rfl, hw, ho, ht, hN, hb, fun h H1 S1 => ?_, fun P e h H1 t p S1 nt np ntp h1 h2 => ?_⟩
  · rw [h] at q
    exact ⟨_, rfl, rfl, _, rfl, iteYes rfl (q _ S1)⟩
  · rw [h] at q
    exact ⟨_, rfl, rfl, _, rfl, iteNo (fun z => nomatch z) ⟨_, rfl, _, _, _, .int ((e : Nat) : Int), rfl, rfl, SqT.of h1, atI_nat (j := 1) rfl, q _ S1⟩⟩
def sp_passed_within (_ : PySem.W.Frag) (C : Addr) : Sp := fun vs H Q _ => ∃ (a : Addr) (N : Nat) (ts : List (Nat × Nat)) (b e : Nat) (P : List Nat), vs = [.ref a, .int ((b : Nat) : Int), .int ((e : Nat) : Int)] ∧ WebAt C a N ts H ∧ OkWeb N ts ∧ ts.length ≤ 20 ∧ N ≤ 20 ∧ b < N ∧ searchB N ts b = some (P, e) ∧ ∀ H' p, Same H H' → H p = none → H' p = some (.lst (iv P)) → Q (.ref p) H'
theorem ok_passed_within (D : Def K mg "_passed_within" s_passed_within ["web", "begin", "end"]) (B : Bs mg) (Glb : Glo mg) (WK : WebK K mg C)
    (h_searched : Good P w K mg base "_searched" s_searched ["web", "begin"] 8 (sp_searched K C)) :
    Good P w K mg base "_passed_within" s_passed_within ["web", "begin", "end"] 9 (sp_passed_within K C) := by
  refine D.good fun f fd F => ?_
  obtain ⟨f_searched, d_searched, O_searched, m_searched, k_searched, b_searched, F_searched⟩ := h_searched
  refine F.ok sc_passed_within (fun vs H Q E h => ?_) (fun cdv A outer s H vs Q E hr h => ?_)
  · obtain ⟨a, N, ts, b, e, P, rfl, hw, ho, ht, hN, hb, hs, q⟩ := h
    first | rfl | (rcases h with ⟨_, _, rfl, _⟩ | ⟨_, rfl, _⟩ <;> rfl)
  obtain ⟨a, N, ts, b, e, P, rfl, hw, ho, ht, hN, hb, hs, q⟩ := h
  refine ⟨_, (pss_cons (ps_set (i := 3) sc_passed_within.nd rfl (by first | exact Or.inl rfl | exact Or.inr rfl) (pe_call O_searched hr rfl m_searched k_searched b_searched .nil pass0 (pa_cons (pv 0) (pa_cons (pv 1) pa_nil))))
  (pss_cons (ps_if (PW.pt (pw_or (pt_cmpR op_isN (pv 3) pe_non (nomark _)) (pw_or1 (pt_cmpR op_ne (pe_ix ix_tup (pv 3) pe_int (fun _ _ => rfl)) (pv 2) (nomark _)))))
    (pss_one ps_never) pss_nil)
  (pss_one (ps_ret (pe_ix ix_tup (pv 3) pe_int (fun _ _ => rfl)))))), ?_⟩
  refine ⟨_, rfl, _, rfl, a, N, ts, b, rfl, hw, ho, ht, hN, hb, fun h H1 S1 => ?_, fun P' e' h H1 t p S1 nt np ntp h1 h2 => ?_⟩
  · rw [hs] at h; cases h
  · rw [hs] at h
    cases h
    refine ⟨_, rfl, rfl, _, rfl, iteNo (fun z => nomatch z) ?_⟩
    refine ⟨_, rfl, _, _, _, .int ((e : Nat) : Int), rfl, rfl, SqT.of h1, atI_nat (j := 1) rfl, _, rfl, rfl, _, rfl, iteNot' rfl ?_⟩
    exact ⟨_, rfl, _, _, _, .ref p, rfl, rfl, SqT.of h1, atI_nat (j := 0) rfl, q _ p S1 np h2⟩
def spinside (_ : PySem.W.Frag) (C : Addr) : Sp := fun vs H Q _ => ∃ (a : Addr) (N : Nat) (ts : List (Nat × Nat)) (b e : Nat) (P : List Nat), vs = [.ref a, .int ((b : Nat) : Int), .int ((e : Nat) : Int)] ∧ WebAt C a N ts H ∧ OkWeb N ts ∧ ts.length ≤ 20 ∧ N ≤ 20 ∧ b < N ∧ searchB N ts b = some (P, e) ∧ ∀ H' p, Same H H' → H p = none → H' p = some (.lst (iv (insideB N P e))) → Q (.ref p) H'
theorem okinside (D : Def K mg "inside" sinside ["web", "begin", "end"]) (B : Bs mg) (Glb : Glo mg) (WK : WebK K mg C)
    (h_need_places : Good P w K mg base "_need_places" s_need_places ["web", "begin", "end"] 5 (sp_need_places K C))
    (h_passed_within : Good P w K mg base "_passed_within" s_passed_within ["web", "begin", "end"] 9 (sp_passed_within K C)) :
    Good P w K mg base "inside" sinside ["web", "begin", "end"] 10 (spinside K C) := by
  refine D.good fun f fd F => ?_
  obtain ⟨f_need_places, d_need_places, O_need_places, m_need_places, k_need_places, b_need_places, F_need_places⟩ := h_need_places
  obtain ⟨f_passed_within, d_passed_within, O_passed_within, m_passed_within, k_passed_within, b_passed_within, F_passed_within⟩ := h_passed_within
  refine F.ok scinside (fun vs H Q E h => ?_) (fun cdv A outer s H vs Q E hr h => ?_)
  · obtain ⟨a, N, ts, b, e, P, rfl, hw, ho, ht, hN, hb, hs, q⟩ := h
    first | rfl | (rcases h with ⟨_, _, rfl, _⟩ | ⟨_, rfl, _⟩ <;> rfl)
  obtain ⟨a, N, ts, b, e, P, rfl, hw, ho, ht, hN, hb, hs, q⟩ := h
  refine ⟨_, (pss_cons (ps_expr (pe_call O_need_places (hr.mono (by decide)) rfl m_need_places k_need_places b_need_places .nil pass0 (pa_cons (pv 0) (pa_cons (pv 1) (pa_cons (pv 2) pa_nil)))))
  (pss_one (ps_ret (pe_callB cr_sortedI (by rfl) B.sorted (by decide +kernel) (pa_cons (pe_op op_cat (pe_call O_passed_within hr rfl m_passed_within k_passed_within b_passed_within .nil pass0 (pa_cons (pv 0) (pa_cons (pv 1) (pa_cons (pv 2) pa_nil)))) (pe_lst (pa_cons (pv 2) pa_nil))) pa_nil))))), ?_⟩
  have B := search_bub (fun t h => (far_lt ho h).2) hb hs
  have hlen := B.len
  refine ⟨_, rfl, _, rfl, _, rfl, a, N, ts, b, e, rfl, hw, hb, B.elt, ?_⟩
  refine ⟨_, rfl, _, rfl, _, rfl, a, N, ts, b, e, P, rfl, hw, ho, ht, hN, hb, hs, fun H1 p S1 np hp => ?_⟩
  refine ⟨_, rfl, (by show 1 ≤ sizeLine; decide), fun p2 np2 => ?_⟩
  have S2 := S1.trans (same_new np2 (.lst [V.int (e : Int)]))
  have hp2 := same_new np2 (.lst [V.int (e : Int)]) _ _ hp
  have hq2 : upd H1 p2 (.lst [V.int (e : Int)]) p2 = some (.lst [V.int (e : Int)]) := upd_same
  generalize upd H1 p2 (.lst [V.int (e : Int)]) = H2 at S2 hp2 hq2
  refine ⟨p, p2, _, _, rfl, rfl, hp2, hq2, by rw [List.length_map]; exact Nat.le_of_lt (line200 (by show P.length + 1 ≤ 200; omega)), fun p3 np3 => ?_⟩
  have S3 := S2.trans (same_new np3 (.lst (iv P ++ [V.int (e : Int)])))
  have h3 : upd H2 p3 (.lst (iv P ++ [V.int (e : Int)])) p3 = some (.lst (((P ++ [e]).map fun n : Nat => (n : Int)).map V.int)) := by
    rw [upd_same, ← iv_nat, iv_app]
  generalize upd H2 p3 (.lst (iv P ++ [V.int (e : Int)])) = H3 at S3 h3
  refine ⟨p3, _, rfl, SqL.of h3, fun ns' p4 hperm hrise np4 => ?_⟩
  rw [inside_sort B hperm hrise, ← iv_nat]
  exact q _ p4 (S3.trans (same_new np4 _)) (S3.free np4) upd_same
def spbubbles (_ : PySem.W.Frag) (C : Addr) : Sp := fun vs H Q _ => ∃ (a : Addr) (N : Nat) (ts : List (Nat × Nat)), vs = [.ref a] ∧ WebAt C a N ts H ∧ OkWeb N ts ∧ ts.length ≤ 20 ∧ N ≤ 20 ∧ ∀ H' l, Same H H' → H l = none → TiesAt H' l (bubsB N ts) → Q (.ref l) H'
theorem okbubbles (D : Def K mg "bubbles" sbubbles ["web"]) (B : Bs mg) (Glb : Glo mg) (WK : WebK K mg C)
    (hneed_web : Good P w K mg base "need_web" sneed_web ["web"] 3 (spneed_web K C))
    (h_end_of : Good P w K mg base "_end_of" s_end_of ["web", "place"] 9 (sp_end_of K C))
    (hWeb_places : GoodP P w K mg base C "places" "Web.places" sWeb_places ["self"] 1 (spWeb_places K C)) :
    Good P w K mg base "bubbles" sbubbles ["web"] 10 (spbubbles K C) := by
  refine D.good fun f fd F => ?_
  obtain ⟨fneed_web, dneed_web, Oneed_web, mneed_web, kneed_web, bneed_web, Fneed_web⟩ := hneed_web
  obtain ⟨f_end_of, d_end_of, O_end_of, m_end_of, k_end_of, b_end_of, F_end_of⟩ := h_end_of
  obtain ⟨qWeb_places, fWeb_places, dWeb_places, OWeb_places, pWeb_places, bWeb_places⟩ := hWeb_places
  refine F.ok scbubbles (fun vs H Q E h => ?_) (fun cdv A outer s H vs Q E hr h => ?_)
  · obtain ⟨a, N, ts, rfl, hw, ho, ht, hN, q⟩ := h
    first | rfl | (rcases h with ⟨_, _, rfl, _⟩ | ⟨_, rfl, _⟩ <;> rfl)
  obtain ⟨a, N, ts, rfl, hw, ho, ht, hN, q⟩ := h
  refine ⟨_, (pss_cons (ps_expr (pe_call Oneed_web (hr.mono (by decide)) rfl mneed_web kneed_web bneed_web .nil pass0 (pa_cons (pv 0) pa_nil)))
  (pss_cons (ps_setLc (i := 1) (own := [("place", 2)]) (g := gName 2) (by rfl) scbubbles.nd rfl rfl (sw_true rfl rfl rfl (by decide +kernel)) (pi_range1 (by rfl) B.range (pa_cons (pe_prop (pv 0) WK.cl pWeb_places OWeb_places (hr.mono (by decide)) bWeb_places .nil pass0 (by rfl)) pa_nil)) (blkOk_by (own := [("place", 2)]) (N := ["web", "ends", "place", "begin", "end"]) (sc := defScope sbubbles) (by decide +kernel)) (fun _ _ _ _ _ => (pg_name (i := 2) scbubbles.nd rfl (by first | exact Or.inl rfl | exact Or.inr rfl))) (fun _ _ _ _ _ => pts_nil) (fun _ _ _ _ _ => (pe_tup (pa_cons (pv 2) (pa_cons (pe_call O_end_of hr rfl m_end_of k_end_of b_end_of .nil pass0 (pa_cons (pv 0) (pa_cons (pv 2) pa_nil))) pa_nil)))))
  (pss_one (ps_ret (pe_lc (own := [("begin", 3), ("end", 4)]) (g := gTup K 2 (gCons (gName 3) (gCons (gName 4) gNil))) (by rfl) scbubbles.nd (pi_list (pv 1)) (blkOk_by (own := [("begin", 3), ("end", 4)]) (N := ["web", "ends", "place", "begin", "end"]) (sc := defScope sbubbles) (by decide +kernel)) (fun _ _ _ _ _ => (pg_tup rfl (pgs_cons (pg_name (i := 3) scbubbles.nd rfl (by first | exact Or.inl rfl | exact Or.inr rfl)) (pgs_cons (pg_name (i := 4) scbubbles.nd rfl (by first | exact Or.inl rfl | exact Or.inr rfl)) pgs_nil)))) (fun _ _ _ _ _ => (pts_one (pt_cmpR op_notN (pv 4) pe_non (nomark _)))) (fun _ _ _ _ _ => (pe_tup (pa_cons (pv 3) (pa_cons (pv 4) pa_nil))))))))), ?_⟩
  obtain ⟨dx, tl, fl, ol, h1, _⟩ := id hw
  refine ⟨_, rfl, a, N, ts, rfl, hw, ?_⟩
  refine ⟨_, rfl, a, dx, _, rfl, h1, a, N, ts, rfl, hw, _, rfl, by omega, by omega, fun D nD => ?_⟩
  refine lc_range (lo := 0) (n := N) (fun i H' => Same H H' ∧ ∃ es : List Addr, H' D = some (.lst (es.map V.ref)) ∧ Paired (EndAt N ts H') es (List.range i)) ⟨same_new nD _, [], upd_same, .nil⟩ ?_ ?_
  · rintro i H1 hi ⟨S1, es, hD, hE⟩
    rw [Int.zero_add]
    refine ⟨rfl, _, rfl, _, rfl, _, rfl, a, N, ts, i, rfl, hw.same S1, ho, ht, hN, hi, fun H2 S2 => ⟨(by show 2 ≤ sizeLine; decide), fun tp ntp => ?_⟩⟩
    have S3 := S2.trans (same_new ntp (.tup [V.int (i : Int), endV (searchB N ts i)]))
    have htp : upd H2 tp (.tup [V.int (i : Int), endV (searchB N ts i)]) tp = some (.tup [V.int (i : Int), endV (searchB N ts i)]) := upd_same
    generalize upd H2 tp (.tup [V.int (i : Int), endV (searchB N ts i)]) = H3 at S3 htp
    have hD3 := S3 _ _ hD
    have hel := paired_len hE
    rw [List.length_range] at hel
    refine ⟨_, hD3, by rw [List.length_map]; exact line200 (by omega), same_upd (S1.trans S3) nD, es ++ [tp], by rw [upd_same, List.map_append]; rfl, ?_⟩
    rw [List.range_succ]
    refine paired_app (paired_mono (fun t b hb => ?_) hE) ?_
    · have nt : t ≠ D := ne_of hb hD (by intro z; cases z)
      show upd _ _ _ t = _
      rw [upd_ne nt]
      exact S3 _ _ hb
    · have nt : tp ≠ D := ne_of htp hD3 (by intro z; cases z)
      show upd _ _ _ tp = _
      rw [upd_ne nt]
      exact htp
  rintro H1 ⟨S1, es, hD, hE⟩
  have hel := paired_len hE
  rw [List.length_range] at hel
  refine ⟨_, rfl, D, rfl, ⟨_, SqL.of hD⟩, fun D2 nD2 => ?_⟩
  refine lc_list (K := K) (a := D) (xs := es.map V.ref) (fun i H' => Same H1 H' ∧ TiesAt H' D2 (bubsF N ts ((List.range N).take i))) ⟨same_new nD2 _, TiesAt.nil⟩ (fun i H' _ ⟨z, _⟩ => SqL.of (z _ _ hD)) ?_ ?_
  · rintro i v H2 hv ⟨S2, hT2⟩
    obtain ⟨tp, hp, rfl⟩ : ∃ tp, es[i]? = some tp ∧ v = .ref tp := by
      rw [List.getElem?_map] at hv
      cases e : es[i]? with
      | none => rw [e] at hv; cases hv
      | some p => rw [e] at hv; exact ⟨p, rfl, (Option.some.inj hv).symm⟩
    obtain ⟨b, hb, hbe⟩ := paired_get hE hp
    have hbe2 : H2 tp = some (.tup [.int ((b : Nat) : Int), endV (searchB N ts b)]) := S2 _ _ hbe
    have hsn : bubsF N ts ((List.range N).take (i + 1)) = bubsF N ts ((List.range N).take i) ++ bubsF N ts [b] := by
      unfold bubsF
      rw [take_one' hb, List.filterMap_append]
    have hbl := bubs_len N ts ((List.range N).take i)
    rw [List.length_take, List.length_range] at hbl
    refine ⟨tp, _, rfl, SqT.of hbe2, rfl, _, _, rfl, _, _, rfl, rfl, ?_⟩
    refine ⟨rfl, _, rfl, rfl, _, rfl, ?_⟩
    cases hs : searchB N ts b with
    | none =>
      refine iteNot' rfl ⟨S2, ?_⟩
      rw [hsn]
      have : bubsF N ts [b] = [] := by unfold bubsF; simp [hs]
      rw [this, List.append_nil]
      exact hT2
    | some r =>
      refine iteNot (fun z => nomatch z) ?_
      refine ⟨_, rfl, _, rfl, (by show 2 ≤ sizeLine; decide), fun t2 nt2 => ?_⟩
      obtain ⟨xs, g1, g2, g3⟩ := hT2.push (u := b) (v := r.2) nt2
      refine ⟨xs, g1, by rw [g2]; exact line200 (by omega), same_upd (S2.trans (same_new nt2 _)) nD2, ?_⟩
      rw [hsn]
      have : bubsF N ts [b] = [(b, r.2)] := by unfold bubsF; simp [hs]
      rw [this]
      exact g3
  · rintro H2 ⟨S2, hT2⟩
    rw [List.length_map, hel, List.take_of_length_le (by rw [List.length_range]; exact Nat.le_refl _)] at hT2
    exact q _ D2 (S1.trans S2) (S1.free nD2) hT2
end
end My
set_option maxHeartbeats 4000000
namespace My
open PySem L2 PyProof.Rows
theorem get_of_mem' {α : Type} {P : List α} {x : α} (h : x ∈ P) : ∃ i : Nat, P[i]? = some x := by
  obtain ⟨i, hi, e⟩ := List.getElem_of_mem h
  exact ⟨i, by rw [List.getElem?_eq_getElem hi, e]⟩
theorem paired_mem_mono {α β : Type} {F G : α → β → Prop} : ∀ {l1 : List α} {l2 : List β}, Paired F l1 l2 → (∀ a b, a ∈ l1 → F a b → G a b) → Paired G l1 l2
  | _, _, .nil, _ => .nil
  | _, _, .cons h r, k => .cons (k _ _ List.mem_cons_self h) (paired_mem_mono r fun a b ha => k a b (List.mem_cons_of_mem _ ha))
/-- lists of naturals, by their objects -/
abbrev LisN (H : Hp) (as : List Addr) (ws : List (List Nat)) : Prop := Paired (fun (p : Addr) (w : List Nat) => H p = some (.lst (iv w))) as ws
theorem LisN.same {H H' : Hp} {as : List Addr} {ws : List (List Nat)} (h : LisN H as ws) (s : Same H H') : LisN H' as ws := paired_mono (fun p w z => s _ _ z) h
theorem gone_app (ts : List (Nat × Nat)) (e : Nat) (a b : List (List Nat)) : goneOn ts e (a ++ b) = goneOn ts e a ++ goneOn ts e b := goneOn_app a b
theorem gone_take (ts : List (Nat × Nat)) (e : Nat) (ws : List (List Nat)) (i : Nat) : (goneOn ts e (ws.take i)).length ≤ (goneOn ts e ws).length := by
  conv => rhs; rw [← List.take_append_drop i ws, gone_app, List.length_append]
  omega
theorem gone_le {ts : List (Nat × Nat)} (e : Nat) {k : Nat} : ∀ {ws : List (List Nat)}, (∀ p, (outB ts p).length ≤ k) → 1 ≤ k → (goneOn ts e ws).length ≤ ws.length * k := fun h hk => by
  unfold goneOn
  refine flat_le fun w _ => ?_
  split
  · simpa using hk
  · rw [List.length_map]; exact h _
theorem LisN.self {H : Hp} {D : Addr} {as : List Addr} {ws : List (List Nat)} (h : H D = some (.lst (as.map V.ref))) (L : LisN H as ws) : D ∉ as := by
  intro z
  obtain ⟨j, hj⟩ := get_of_mem' z
  obtain ⟨w, _, hw⟩ := paired_get L hj
  have e : as.map V.ref = iv w := by
    have := h.symm.trans hw
    injection this with this
    injection this
  cases as with
  | nil => cases z
  | cons a r =>
    cases w with
    | nil => cases e
    | cons b r' => cases e
theorem LisN.push {H : Hp} {D p : Addr} {as : List Addr} {ws : List (List Nat)} {w : List Nat} {o : HO} (L : LisN H as ws) (hD : D ∉ as) (hp : H p = some (.lst (iv w))) (hn : D ≠ p) : LisN (upd H D o) (as ++ [p]) (ws ++ [w]) := by
  refine paired_app (paired_mem_mono L fun q u hq hu => ?_) ?_
  · show upd H D o q = _
    rw [upd_ne (fun z => hD (by rw [← z]; exact hq))]
    exact hu
  · show upd H D o p = _
    rw [upd_ne hn.symm]
    exact hp
theorem LisN.apart {H : Hp} {D : Addr} {as : List Addr} {ws : List (List Nat)} {o : HO} (L : LisN H as ws) (hD : D ∉ as) : LisN (upd H D o) as ws := by
  refine paired_mem_mono L fun q u hq hu => ?_
  show upd H D o q = _
  rw [upd_ne (fun z => hD (by rw [← z]; exact hq))]
  exact hu
theorem LisN.app {H : Hp} {as bs : List Addr} {ws vs : List (List Nat)} (L : LisN H as ws) (M : LisN H bs vs) : LisN H (as ++ bs) (ws ++ vs) := by
  induction L with
  | nil => exact M
  | cons h _ ih => exact .cons h ih
section
variable {P : Program} {w : World} {K : PySem.W.Frag} {mg : Str → Option Value} {base : Heap} {C : Addr}
def sp_gone_on (_ : PySem.W.Frag) (C : Addr) : Sp := fun vs H Q _ => ∃ (a : Addr) (N : Nat) (ts : List (Nat × Nat)) (e : Nat) (ws : List (List Nat)) (wl : Addr) (as : List Addr), vs = [.ref a, .int ((e : Nat) : Int), .ref wl] ∧ WebAt C a N ts H ∧ OkWeb N ts ∧ ts.length ≤ 20 ∧ N ≤ 20 ∧ H wl = some (.lst (as.map V.ref)) ∧ LisN H as ws ∧ ws.length ≤ 400 ∧ (∀ w ∈ ws, w ≠ [] ∧ w.length ≤ 20 ∧ ∀ t ∈ w, t < ts.length) ∧
  ∀ H' l as', Same H H' → H l = none → (∀ p ∈ as', p ∈ as ∨ H p = none) → H' l = some (.lst (as'.map V.ref)) → LisN H' as' (goneOn ts e ws) → Q (.ref l) H'
theorem ok_gone_on (D : Def K mg "_gone_on" s_gone_on ["web", "end", "walks"]) (B : Bs mg) (Glb : Glo mg) (WK : WebK K mg C)
    (hWeb_ties : GoodM P w K mg base C "ties" "Web.ties" sWeb_ties ["self"] 1 (spWeb_ties K C))
    (hWeb_ties_from : GoodM P w K mg base C "ties_from" "Web.ties_from" sWeb_ties_from ["self", "place"] 5 (spWeb_ties_from K C)) :
    Good P w K mg base "_gone_on" s_gone_on ["web", "end", "walks"] 7 (sp_gone_on K C) := by
  refine D.good fun f fd F => ?_
  obtain ⟨fWeb_ties, dWeb_ties, OWeb_ties, tWeb_ties, bWeb_ties, FWeb_ties⟩ := hWeb_ties
  obtain ⟨fWeb_ties_from, dWeb_ties_from, OWeb_ties_from, tWeb_ties_from, bWeb_ties_from, FWeb_ties_from⟩ := hWeb_ties_from
  refine F.ok sc_gone_on (fun vs H Q E h => ?_) (fun cdv A outer s H vs Q E hr h => ?_)
  · obtain ⟨a, N, ts, e, ws, wl, as, rfl, hw, ho, ht, hN, hwl, hp, hws, hok, q⟩ := h
    first | rfl | (rcases h with ⟨_, _, rfl, _⟩ | ⟨_, rfl, _⟩ <;> rfl)
  obtain ⟨a, N, ts, e, ws, wl, as, rfl, hw, ho, ht, hN, hwl, hp, hws, hok, q⟩ := h
  refine ⟨_, (pss_cons (ps_set (i := 3) sc_gone_on.nd rfl (by first | exact Or.inl rfl | exact Or.inr rfl) (pe_meth0 (pv 0) WK.cl tWeb_ties OWeb_ties (hr.mono (by decide)) bWeb_ties .nil pass0))
  (pss_cons (ps_set (i := 4) sc_gone_on.nd rfl (by first | exact Or.inl rfl | exact Or.inr rfl) (pe_lst pa_nil))
  (pss_cons (ps_for PassesOwn.never rfl (pi_list (pv 2)) (pg_name (i := 5) sc_gone_on.nd rfl (by first | exact Or.inl rfl | exact Or.inr rfl))
    (pss_cons (ps_set (i := 6) sc_gone_on.nd rfl (by first | exact Or.inl rfl | exact Or.inr rfl) (pe_ix ix_tup (pe_ix ix_list (pv 3) (pe_ix ix_list (pv 5) (pe_un un_neg pe_int) (fun _ _ => rfl)) (fun _ _ => rfl)) pe_int (fun _ _ => rfl)))
  (pss_one (ps_if (pt_cmpR op_eq (pv 6) (pv 1) (nomark _))
    (pss_one (ps_expr (pe_bm PySem.F.plainAttrs_list PySem.F.slot_list_append PySem.F.type_list_append mt_append (pv 4) (pa_cons (pv 5) pa_nil)))) (pss_one (ps_expr (pe_bm PySem.F.plainAttrs_list PySem.F.slot_list_extend PySem.F.type_list_extend mt_extend (pv 4) (pa_cons (pe_lc (own := [("tie", 7)]) (g := gName 7) (by rfl) sc_gone_on.nd (pi_list (pe_meth (pv 0) WK.cl tWeb_ties_from OWeb_ties_from (hr.mono (by decide)) bWeb_ties_from .nil pass0 (pa_cons (pv 6) pa_nil))) (blkOk_by (own := [("tie", 7)]) (N := ["web", "end", "walks", "ties", "longer", "walk", "place", "tie"]) (sc := defScope s_gone_on) (by decide +kernel)) (fun _ _ _ _ _ => (pg_name (i := 7) sc_gone_on.nd rfl (by first | exact Or.inl rfl | exact Or.inr rfl))) (fun _ _ _ _ _ => pts_nil) (fun _ _ _ _ _ => (pe_op op_cat (pv 5) (pe_lst (pa_cons (pv 7) pa_nil))))) pa_nil))))))))
  (pss_one (ps_ret (pv 4)))))), ?_⟩
  have hal := paired_len hp
  obtain ⟨dx, tl, fl, ol, h1, _⟩ := id hw
  refine ⟨_, rfl, a, dx, _, rfl, h1, wf_ti _ _ _ _, a, N, ts, rfl, hw, fun H1 l1 nl1 S1 hT1 => ?_⟩
  refine ⟨Nat.zero_le _, fun D nD => ?_⟩
  have S2 := same_new nD (.lst [])
  have hD2 : upd H1 D (.lst []) D = some (.lst []) := upd_same
  have hDn : H D = none := S1.free nD
  generalize upd H1 D (.lst []) = H2 at S2 hD2
  refine ⟨_, rfl, wl, rfl, ⟨_, SqL.of (S2 _ _ (S1 _ _ hwl))⟩, ?_⟩
  refine for_list (K := K) (a := wl) (xs := as.map V.ref) (fun i σ H' => Same H1 H' ∧ (∃ as', H' D = some (.lst (as'.map V.ref)) ∧ LisN H' as' (goneOn ts e (ws.take i)) ∧ ∀ p ∈ as', p ∈ as ∨ H p = none) ∧ ∃ v5 v6 : Option V, σ = [some (.ref a), some (.int (e : Int)), some (.ref wl), some (.ref l1), some (.ref D), v5, v6, none]) ⟨S2, ⟨[], hD2, .nil, fun p hp => nomatch hp⟩, none, none, rfl⟩ (fun i σ H' _ ⟨z, _⟩ => SqL.of (z _ _ (S1 _ _ hwl))) ?_ ?_
  · rintro i v σ H3 hv ⟨S13, ⟨as', hD3, hL3, hn3⟩, v5, v6, rfl⟩
    have S3 := S1.trans S13
    have hT3 := hT1.same S13
    obtain ⟨p, hpi, rfl⟩ : ∃ p, as[i]? = some p ∧ v = .ref p := by
      rw [List.getElem?_map] at hv
      cases z : as[i]? with
      | none => rw [z] at hv; cases hv
      | some p => rw [z] at hv; exact ⟨p, rfl, (Option.some.inj hv).symm⟩
    obtain ⟨wk, hwk, hpw⟩ := paired_get hp hpi
    obtain ⟨k1, k2, k3⟩ := hok wk (List.mem_of_getElem? hwk)
    have k0 : 0 < wk.length := List.length_pos_iff.mpr k1
    have hpw3 := S3 _ _ hpw
    have hlt : lastT wk < ts.length := k3 _ (List.mem_of_getElem? (last_at k0))
    obtain ⟨xs, q3, e1, e2, e3⟩ := tie_at hT3 hlt
    have hstep : goneOn ts e (ws.take (i + 1)) = goneOn ts e (ws.take i) ++ goneOn ts e [wk] := by rw [take_one' hwk, gone_app]
    have hgl := gone_le (ts := ts) e (k := 20) (ws := ws) (fun p => Nat.le_trans (outB_len ts p) ht) (by omega)
    have hgi := gone_take ts e ws i
    have hal3 := paired_len hL3
    have hDr := LisN.self hD3 hL3
    have hDr' : D ∉ as := fun z => by
      obtain ⟨j, hj⟩ := get_of_mem' z
      obtain ⟨u, _, hu⟩ := paired_get hp hj
      rw [hDn] at hu
      cases hu
    refine ⟨_, rfl, _, rfl, _, rfl, _, _, _, .int ((lastT wk : Nat) : Int), rfl, rfl, SqL.of hpw3, iv_back k0, _, _, _, .ref q3, rfl, rfl, SqL.of e1, e2, _, _, _, .int ((farT ts (lastT wk) : Nat) : Int), rfl, rfl, SqT.of e3, atI_nat (j := 1) rfl, _, rfl, _, rfl, rfl, _, rfl, ?_⟩
    by_cases c : farT ts (lastT wk) = e
    · refine iteYes (by rw [c]) ?_
      have hone : goneOn ts e [wk] = [wk] := by
        show (if farT ts (lastT wk) = e then [wk] else _) ++ [] = _
        rw [if_pos c, List.append_nil]
      have hDp : D ≠ p := fun z => hDr' (z ▸ List.mem_of_getElem? hpi)
      refine ⟨_, rfl, .inl ⟨rfl, _, SqL.of hD3⟩, _, rfl, D, _, _, rfl, rfl, hD3, by rw [List.length_map]; exact Nat.lt_of_le_of_lt (show as'.length ≤ 8000 by omega) (by decide), same_upd S13 nD, ⟨as' ++ [p], by rw [upd_same, List.map_append]; rfl, ?_, fun r hr => ?_⟩, _, _, rfl⟩
      · rw [hstep, hone]
        exact hL3.push hDr hpw3 hDp
      · rcases List.mem_append.mp hr with z | z
        · exact hn3 r z
        · rw [List.mem_singleton.mp z]; exact .inl (List.mem_of_getElem? hpi)
    · refine iteNo (fun z => c (by have := int_eq.mp z; omega)) ?_
      have hfN := (far_lt ho hlt).2
      have hone : goneOn ts e [wk] = (outB ts (farT ts (lastT wk))).map fun t => wk ++ [t] := by
        show (if farT ts (lastT wk) = e then [wk] else _) ++ [] = _
        rw [if_neg c, List.append_nil]
      refine ⟨_, rfl, .inl ⟨rfl, _, SqL.of hD3⟩, _, rfl, a, dx, _, rfl, S3 _ _ h1, wf_tf _ _ _ _, _, rfl, a, N, ts, _, rfl, hw.same S3, hfN, fun H4 l4 nl4 S4 hl4 => ?_⟩
      rw [frm_out] at hl4
      refine ⟨l4, rfl, ⟨_, SqL.of hl4⟩, fun D2 nD2 => ?_⟩
      refine lc_list (K := K) (a := l4) (xs := iv (outB ts (farT ts (lastT wk)))) (fun i H' => Same H4 H' ∧ ∃ bs : List Addr, H' D2 = some (.lst (bs.map V.ref)) ∧ LisN H' bs (((outB ts (farT ts (lastT wk))).take i).map fun t => wk ++ [t]) ∧ ∀ p ∈ bs, H4 p = none) ⟨same_new nD2 _, [], upd_same, .nil, fun p hp => nomatch hp⟩ (fun i H' _ ⟨z, _⟩ => SqL.of (z _ _ hl4)) ?_ ?_
      · rintro i x H5 hx ⟨S5, bs, hb5, hM5, hn5⟩
        obtain ⟨t, htj, rfl⟩ := iv_of hx
        have hbl := paired_len hM5
        rw [List.length_map, List.length_take] at hbl
        have hol := outB_len ts (farT ts (lastT wk))
        have hpw5 := S5 _ _ (S4 _ _ hpw3)
        have hbD := LisN.self hb5 hM5
        refine ⟨rfl, _, rfl, _, rfl, (by show 1 ≤ sizeLine; decide), fun p1 np1 => ?_⟩
        have S6 := S5.trans (same_new np1 (.lst [V.int (t : Int)]))
        have S56 := same_new np1 (.lst [V.int (t : Int)])
        have e6 : upd H5 p1 (.lst [V.int (t : Int)]) p1 = some (.lst [V.int (t : Int)]) := upd_same
        generalize upd H5 p1 (.lst [V.int (t : Int)]) = H6 at S6 S56 e6
        refine ⟨p, p1, _, _, rfl, rfl, S56 _ _ hpw5, e6, by rw [List.length_map]; exact Nat.le_of_lt (line200 (by show wk.length + 1 ≤ 200; omega)), fun p2 np2 => ?_⟩
        rw [← iv_app]
        have S67 := same_new np2 (.lst (iv (wk ++ [t])))
        have e7 : upd H6 p2 (.lst (iv (wk ++ [t]))) p2 = some (.lst (iv (wk ++ [t]))) := upd_same
        generalize upd H6 p2 (.lst (iv (wk ++ [t]))) = H7 at S67 e7
        have hDn : D2 ≠ p2 := ne_of_none (S56 _ _ hb5) np2
        refine ⟨_, S67 _ _ (S56 _ _ hb5), by rw [List.length_map]; exact line200 (by omega), same_upd (S6.trans S67) nD2, bs ++ [p2], by rw [upd_same, List.map_append]; rfl, ?_, fun r hr => ?_⟩
        · rw [take_one' htj, List.map_append]
          exact ((hM5.same S56).same S67).push hbD e7 hDn
        · rcases List.mem_append.mp hr with z | z
          · exact hn5 r z
          · rw [List.mem_singleton.mp z]; exact S6.free np2
      · rintro H5 ⟨S5, bs, hb5, hM5, hn5⟩
        rw [List.length_map, List.take_length] at hM5
        have hbl := paired_len hM5
        rw [List.length_map] at hbl
        have hol := outB_len ts (farT ts (lastT wk))
        have S35 := S4.trans S5
        have hD5 := S35 _ _ hD3
        have hDb : D ∉ bs := fun z => by
          have := hn5 D z
          rw [S4 _ _ hD3] at this
          cases this
        refine ⟨D, D2, _, _, rfl, rfl, hD5, hb5, by rw [List.length_map, List.length_map]; exact Nat.le_trans (show as'.length + bs.length ≤ 9000 by omega) (by decide), same_upd (S13.trans S35) nD, ⟨as' ++ bs, by rw [upd_same, List.map_append], ?_, fun r hr => ?_⟩, _, _, rfl⟩
        · rw [hstep, hone]
          exact ((hL3.same S35).apart hDr).app (hM5.apart hDb)
        · rcases List.mem_append.mp hr with z | z
          · exact hn3 r z
          · exact .inr ((S3.trans S4).free (hn5 r z))
  · rintro σ H3 ⟨S13, ⟨as', hD3, hL3, hn3⟩, v5, v6, rfl⟩
    have S3 := S1.trans S13
    rw [List.length_map, hal, List.take_length] at hL3
    exact ⟨_, rfl, q _ D as' S3 hDn hn3 hD3 hL3⟩
end
end My
set_option maxHeartbeats 4000000
namespace My
open PySem L2 PyProof.Rows
def leW (p q : List Nat) : Bool := decide (iz' p ≤ iz' q)
def sortW (ws : List (List Nat)) : List (List Nat) := ws.mergeSort leW
theorem leW_trans (a b c : List Nat) : leW a b = true → leW b c = true → leW a c = true := fun h k => decide_eq_true (List.le_trans (of_decide_eq_true h) (of_decide_eq_true k))
theorem leW_total (a b : List Nat) : (leW a b || leW b a) = true := by
  rw [Bool.or_eq_true]
  exact (List.le_total (iz' a) (iz' b)).imp decide_eq_true decide_eq_true
theorem sortW_perm (ws : List (List Nat)) : (sortW ws).Perm ws := List.mergeSort_perm _ _
theorem sortW_mem {ws : List (List Nat)} {w : List Nat} : w ∈ sortW ws ↔ w ∈ ws := (sortW_perm ws).mem_iff
theorem sortW_sorted (ws : List (List Nat)) : (sortW ws).Pairwise fun a b => leW a b = true := List.pairwise_mergeSort leW_trans leW_total ws
theorem sortW_eq {ws vs : List (List Nat)} (h : ws.Perm vs) : sortW ws = sortW vs :=
  ((sortW_perm ws).trans (h.trans (sortW_perm vs).symm)).eq_of_pairwise (fun a b _ _ h1 h2 => iz'_inj (List.le_antisymm (of_decide_eq_true h1) (of_decide_eq_true h2))) (sortW_sorted ws) (sortW_sorted vs)
abbrev encW (w : List Nat) : PyData := dz (iz' w)
theorem sort_enc (ws : List (List Nat)) : (ws.map encW).mergeSort (PySem.W.dataLe false id) = (sortW ws).map encW := by
  unfold sortW
  rw [List.map_mergeSort (s := PySem.W.dataLe false id)]
  intro a _ b _
  have := congrFun (congrFun (PySem.W.dataLe_rows iz') a) b
  show decide (iz' a ≤ iz' b) = PySem.W.dataLe false (fun b => PyData.list ((iz' b).map .int)) a b
  rw [this]
theorem encW_inj {a b : List Nat} (h : encW a = encW b) : a = b := by
  have h : (iz' a).map PyData.int = (iz' b).map PyData.int := by injection h
  refine iz'_inj ((List.map_inj_right (fun x y z => ?_)).mp h)
  injection z
theorem dpAll_lis {K : PySem.W.Frag} {H : Hp} : ∀ {as : List Addr} {ws : List (List Nat)}, LisN H as ws → DpAll K H (as.map V.ref) (ws.map encW)
  | _, _, .nil => .nil
  | _, _, .cons h t => .cons (dp_iv h) (dpAll_lis t)
theorem alike_W (ws : List (List Nat)) : PySem.W.AllAlike (ws.map encW) := PySem.W.AllAlike.of fun a b => by
  show PySem.W.alike (.list ((iz' a).map .int)) (.list ((iz' b).map .int)) = true
  rw [PySem.W.alike]
  exact PySem.W.alike_ints _ _
theorem sortable_W (ws : List (List Nat)) : PySem.W.Sortable (ws.map encW) := PySem.W.Sortable.others fun b => ⟨(fun z => nomatch z), (fun xs z => nomatch z)⟩
theorem depth_W (w : List Nat) : (encW w).depth ≤ 8 := by
  show (PyData.list ((iz' w).map .int)).depth ≤ 8
  rw [PyData.depth, PySem.W.depth_ints]
  omega
/-- what stands in the sorted list -/
theorem sorted_lis {H : Hp} {as : List Addr} {ws : List (List Nat)} {zs : List V} (L : LisN H as ws) (h : Paired (fun (z : V) (d : PyData) => ∃ j : Nat, (as.map V.ref)[j]? = some z ∧ (ws.map encW)[j]? = some d) zs ((ws.map encW).mergeSort (PySem.W.dataLe false id))) :
    ∃ bs : List Addr, zs = bs.map V.ref ∧ (∀ p ∈ bs, p ∈ as) ∧ LisN H bs (sortW ws) := by
  rw [sort_enc] at h
  generalize sortW ws = vs at h
  induction vs generalizing zs with
  | nil => cases h; exact ⟨[], rfl, (fun p hp => nomatch hp), .nil⟩
  | cons v r ih =>
    cases h with
    | cons h t =>
      obtain ⟨bs, rfl, h2, h3⟩ := ih t
      obtain ⟨j, hj, ej⟩ := h
      rw [List.getElem?_map] at hj ej
      cases hp : as[j]? with
      | none => rw [hp] at hj; cases hj
      | some p =>
        rw [hp] at hj
        cases hj
        obtain ⟨u, hu, hpu⟩ := paired_get L hp
        rw [hu] at ej
        have e := encW_inj (Option.some.inj ej)
        subst e
        exact ⟨p :: bs, rfl, fun q hq => (List.mem_cons.mp hq).elim (fun z => z ▸ List.mem_of_getElem? hp) (h2 q), .cons hpu h3⟩
theorem wW_ok (ts : List (Nat × Nat)) (e : Nat) : ∀ (n p : Nat), ∀ w ∈ wW ts e n p, w.length ≤ n + 1 ∧ ∀ t ∈ w, t < ts.length
  | 0, p, w, h => by
    obtain ⟨t, ht, rfl⟩ := List.mem_map.mp h
    exact ⟨by simp, fun u hu => by rw [List.mem_singleton.mp hu]; exact (outB_mem.mp ht).1⟩
  | n + 1, p, w, h => by
    obtain ⟨t, ht, h⟩ := List.mem_flatMap.mp h
    have h1 := (outB_mem.mp ht).1
    split at h
    · rw [List.mem_singleton.mp h]
      exact ⟨by simp, fun u hu => by rw [List.mem_singleton.mp hu]; exact h1⟩
    · obtain ⟨v, hv, rfl⟩ := List.mem_map.mp h
      obtain ⟨a, c⟩ := wW_ok ts e n _ v hv
      exact ⟨by simp; omega, fun u hu => (List.mem_cons.mp hu).elim (fun z => z ▸ h1) (c u)⟩
section
variable {P : Program} {w : World} {K : PySem.W.Frag} {mg : Str → Option Value} {base : Heap} {C : Addr}
def spways_through (_ : PySem.W.Frag) (C : Addr) : Sp := fun vs H Q _ => ∃ (a : Addr) (N : Nat) (ts : List (Nat × Nat)) (b e : Nat) (P : List Nat), vs = [.ref a, .int ((b : Nat) : Int), .int ((e : Nat) : Int)] ∧ WebAt C a N ts H ∧ OkWeb N ts ∧ ts.length ≤ 10 ∧ N ≤ 5 ∧ b < N ∧ searchB N ts b = some (P, e) ∧
  ∀ H' l as, Same H H' → H l = none → (∀ p ∈ as, H p = none) → H' l = some (.lst (as.map V.ref)) → LisN H' as (sortW (waysB ts e P b)) → Q (.ref l) H'
theorem okways_through (D : Def K mg "ways_through" sways_through ["web", "begin", "end"]) (B : Bs mg) (Glb : Glo mg) (WK : WebK K mg C)
    (h_need_places : Good P w K mg base "_need_places" s_need_places ["web", "begin", "end"] 5 (sp_need_places K C))
    (h_passed_within : Good P w K mg base "_passed_within" s_passed_within ["web", "begin", "end"] 9 (sp_passed_within K C))
    (h_gone_on : Good P w K mg base "_gone_on" s_gone_on ["web", "end", "walks"] 7 (sp_gone_on K C))
    (hWeb_ties_from : GoodM P w K mg base C "ties_from" "Web.ties_from" sWeb_ties_from ["self", "place"] 5 (spWeb_ties_from K C)) :
    Good P w K mg base "ways_through" sways_through ["web", "begin", "end"] 10 (spways_through K C) := by
  refine D.good fun f fd F => ?_
  obtain ⟨f_need_places, d_need_places, O_need_places, m_need_places, k_need_places, b_need_places, F_need_places⟩ := h_need_places
  obtain ⟨f_passed_within, d_passed_within, O_passed_within, m_passed_within, k_passed_within, b_passed_within, F_passed_within⟩ := h_passed_within
  obtain ⟨f_gone_on, d_gone_on, O_gone_on, m_gone_on, k_gone_on, b_gone_on, F_gone_on⟩ := h_gone_on
  obtain ⟨fWeb_ties_from, dWeb_ties_from, OWeb_ties_from, tWeb_ties_from, bWeb_ties_from, FWeb_ties_from⟩ := hWeb_ties_from
  refine F.ok scways_through (fun vs H Q E h => ?_) (fun cdv A outer s H vs Q E hr h => ?_)
  · obtain ⟨a, N, ts, b, e, P, rfl, hw, ho, ht, hN, hb, hs, q⟩ := h
    first | rfl | (rcases h with ⟨_, _, rfl, _⟩ | ⟨_, rfl, _⟩ <;> rfl)
  obtain ⟨a, N, ts, b, e, P, rfl, hw, ho, ht, hN, hb, hs, q⟩ := h
  refine ⟨_, (pss_cons (ps_expr (pe_call O_need_places (hr.mono (by decide)) rfl m_need_places k_need_places b_need_places .nil pass0 (pa_cons (pv 0) (pa_cons (pv 1) (pa_cons (pv 2) pa_nil)))))
  (pss_cons (ps_set (i := 3) scways_through.nd rfl (by first | exact Or.inl rfl | exact Or.inr rfl) (pe_call O_passed_within hr rfl m_passed_within k_passed_within b_passed_within .nil pass0 (pa_cons (pv 0) (pa_cons (pv 1) (pa_cons (pv 2) pa_nil)))))
  (pss_cons (ps_setLc (i := 4) (own := [("tie", 6)]) (g := gName 6) (by rfl) scways_through.nd rfl rfl (sw_true rfl rfl rfl (by decide +kernel)) (pi_list (pe_meth (pv 0) WK.cl tWeb_ties_from OWeb_ties_from (hr.mono (by decide)) bWeb_ties_from .nil pass0 (pa_cons (pv 1) pa_nil))) (blkOk_by (own := [("tie", 6)]) (N := ["web", "begin", "end", "passed", "walks", "_", "tie"]) (sc := defScope sways_through) (by decide +kernel)) (fun _ _ _ _ _ => (pg_name (i := 6) scways_through.nd rfl (by first | exact Or.inl rfl | exact Or.inr rfl))) (fun _ _ _ _ _ => pts_nil) (fun _ _ _ _ _ => (pe_lst (pa_cons (pv 6) pa_nil))))
  (pss_cons (ps_for PassesOwn.never rfl (pi_list (pv 3)) (pg_name (i := 5) scways_through.nd rfl (by first | exact Or.inl rfl | exact Or.inr rfl))
    (pss_cons (ps_if (pt_cmpR op_gt (pe_callB call_len_seq (by rfl) B.len (by decide +kernel) (pa_cons (pv 4) pa_nil)) (pe_globI Glb.MOST_WAYS) (nomark _))
    (pss_one ps_never) pss_nil)
  (pss_one (ps_set (i := 4) scways_through.nd rfl (by first | exact Or.inl rfl | exact Or.inr rfl) (pe_call O_gone_on (hr.mono (by decide)) rfl m_gone_on k_gone_on b_gone_on .nil pass0 (pa_cons (pv 0) (pa_cons (pv 2) (pa_cons (pv 4) pa_nil))))))))
  (pss_one (ps_ret (pe_callB (cr_sortD hr.units) (by rfl) B.sorted (by decide +kernel) (pa_cons (pv 4) pa_nil)))))))), ?_⟩
  have B := search_bub (fun t h => (far_lt ho h).2) hb hs
  have hlen := B.len
  obtain ⟨dx, tl, fl, ol, h1, _⟩ := id hw
  refine ⟨_, rfl, _, rfl, _, rfl, a, N, ts, b, e, rfl, hw, hb, B.elt, ?_⟩
  refine ⟨_, rfl, _, rfl, _, rfl, a, N, ts, b, e, P, rfl, hw, ho, by omega, by omega, hb, hs, fun H1 p S1 np hp => ?_⟩
  refine ⟨_, rfl, a, dx, _, rfl, S1 _ _ h1, wf_tf _ _ _ _, _, rfl, a, N, ts, b, rfl, hw.same S1, hb, fun H2 l2 nl2 S2 hl2 => ?_⟩
  rw [frm_out] at hl2
  have hol := outB_len ts b
  refine ⟨l2, rfl, ⟨_, SqL.of hl2⟩, fun D nD => ?_⟩
  have S02 := S1.trans S2
  refine lc_list (K := K) (a := l2) (xs := iv (outB ts b)) (fun i H' => Same H2 H' ∧ ∃ bs : List Addr, H' D = some (.lst (bs.map V.ref)) ∧ LisN H' bs (((outB ts b).take i).map fun t => [t]) ∧ ∀ p ∈ bs, H p = none) ⟨same_new nD _, [], upd_same, .nil, fun p hp => nomatch hp⟩ (fun i H' _ ⟨z, _⟩ => SqL.of (z _ _ hl2)) ?_ ?_
  · rintro i x H5 hx ⟨S5, bs, hb5, hM5, hn5⟩
    obtain ⟨t, htj, rfl⟩ := iv_of hx
    have hbl := paired_len hM5
    rw [List.length_map, List.length_take] at hbl
    have hbD := LisN.self hb5 hM5
    refine ⟨rfl, _, rfl, (by show 1 ≤ sizeLine; decide), fun p1 np1 => ?_⟩
    have S56 := same_new np1 (.lst (iv [t]))
    have e6 : upd H5 p1 (.lst (iv [t])) p1 = some (.lst (iv [t])) := upd_same
    have hDn : D ≠ p1 := ne_of_none hb5 np1
    refine ⟨_, S56 _ _ hb5, by rw [List.length_map]; exact line200 (by omega), same_upd (S5.trans S56) nD, bs ++ [p1], by rw [upd_same, List.map_append]; rfl, ?_, fun r hr => ?_⟩
    · rw [take_one' htj, List.map_append]
      exact (hM5.same S56).push hbD e6 hDn
    · rcases List.mem_append.mp hr with z | z
      · exact hn5 r z
      · rw [List.mem_singleton.mp z]; exact (S02.trans S5).free np1
  rintro H3 ⟨S3, as, hb3, hM3, hn3⟩
  rw [List.length_map, List.take_length] at hM3
  have S03 := S02.trans S3
  refine ⟨_, rfl, p, rfl, ⟨_, SqL.of (S3 _ _ (S2 _ _ hp))⟩, ?_⟩
  refine for_list (K := K) (a := p) (xs := iv P) (fun i σ H' => Same H H' ∧ Same H1 H' ∧ ∃ (wl : Addr) (as : List Addr) (v5 : Option V), H wl = none ∧ H' wl = some (.lst (as.map V.ref)) ∧ LisN H' as (wW ts e i b) ∧ (∀ p ∈ as, H p = none) ∧ σ = [some (.ref a), some (.int (b : Int)), some (.int (e : Int)), some (.ref p), some (.ref wl), v5, none]) ⟨S03, S2.trans S3, D, as, none, S02.free nD, hb3, hM3, hn3, rfl⟩ (fun i σ H' _ ⟨_, z, _⟩ => SqL.of (z _ _ hp)) ?_ ?_
  · rintro i v σ H4 hv ⟨S4, S14, wl, as4, v5, nwl, hwl, hL4, hn4, rfl⟩
    have hi : i < P.length := by
      have := (List.getElem?_eq_some_iff.mp hv).1
      rwa [List.length_map] at this
    have hal := paired_len hL4
    have hfew := B.few hN ht i
    refine ⟨_, rfl, _, _, rfl, .inl (SqL.of hwl), _, _, rfl, rfl, _, rfl, iteNo (by rw [List.length_map]; omega) ?_⟩
    refine ⟨_, rfl, _, rfl, _, rfl, a, N, ts, e, wW ts e i b, wl, as4, rfl, hw.same S4, ho, by omega, by omega, hwl, hL4, hfew, (fun w hw => ?_), fun H5 l5 as5 S5 nl5 hn5 hl5 hL5 => ?_⟩
    · obtain ⟨k1, k2⟩ := wW_ok ts e i b w hw
      exact ⟨wW_ne ts e i b w hw, by omega, k2⟩
    · refine ⟨S4.trans S5, S14.trans S5, l5, as5, _, S4.free nl5, hl5, by rw [← goneOn_W]; exact hL5, fun r hr => ?_, rfl⟩
      rcases hn5 r hr with z | z
      · exact hn4 r z
      · exact S4.free z
  · rintro σ H4 ⟨S4, S14, wl, as4, v5, nwl, hwl, hL4, hn4, rfl⟩
    rw [List.length_map, B.ways_W] at hL4
    have hal := paired_len hL4
    have hfew := B.few hN ht P.length
    rw [B.ways_W] at hfew
    refine ⟨_, rfl, wl, _, (waysB ts e P b).map encW, rfl, SqL.of hwl, dpAll_lis hL4, alike_W _, sortable_W _, (fun d hd => ?_), by rw [List.length_map]; omega, fun zs p2 hz np2 => ?_⟩
    · obtain ⟨w, _, rfl⟩ := List.mem_map.mp hd
      exact depth_W w
    obtain ⟨bs, rfl, hb1, hb2⟩ := sorted_lis hL4 hz
    exact q _ p2 bs (S4.trans (same_new np2 _)) (S4.free np2) (fun r hr => hn4 r (hb1 r hr)) upd_same (hb2.same (same_new np2 _))
end
end My
set_option maxHeartbeats 4000000
namespace My
open PySem L2 PyProof.Rows
section
variable {P : Program} {w : World} {K : PySem.W.Frag} {mg : Str → Option Value} {base : Heap} {C : Addr}
def sp_law_ties (_ : PySem.W.Frag) (_ : Addr) : Sp := fun vs H Q _ => ∃ a N, vs = [.ref a, .int ((N : Nat) : Int)] ∧ PotAt H a ∧ 0 < N ∧ N ≤ 5 ∧ ∀ l ts H', ts.length ≤ 10 → (∀ e ∈ ts, e.1 < N ∧ e.2 < N) → Kept a H H' → PotAt H' a → H l = none → TiesAt H' l ts → Q (.ref l) H'
theorem ok_law_ties (D : Def K mg "_law_ties" s_law_ties ["_law_pot_here", "_law_places"]) (B : Bs mg) (Glb : Glo mg) (WK : WebK K mg C)
    (h_law_draw : Good P w K mg base "_law_draw" s_law_draw ["_law_pot_here", "_law_sides"] 1 (sp_law_draw K C)) :
    Good P w K mg base "_law_ties" s_law_ties ["_law_pot_here", "_law_places"] 2 (sp_law_ties K C) := by
  refine D.good fun f fd F => ?_
  obtain ⟨f_law_draw, d_law_draw, O_law_draw, m_law_draw, k_law_draw, b_law_draw, F_law_draw⟩ := h_law_draw
  refine F.ok sc_law_ties (fun vs H Q E h => ?_) (fun cdv A outer s H vs Q E hr h => ?_)
  · obtain ⟨a, N, rfl, hp, hN, hN2, q⟩ := h
    first | rfl | (rcases h with ⟨_, _, rfl, _⟩ | ⟨_, rfl, _⟩ <;> rfl)
  obtain ⟨a, N, rfl, hp, hN, hN2, q⟩ := h
  refine ⟨_, (pss_cons (ps_par (i := 2) (j := 3) (by rfl) sc_law_ties.nd rfl rfl (by decide) rfl rfl (pa_cons (pe_lst pa_nil) (pa_cons (pe_cmpR op_gt (pe_call O_law_draw hr rfl m_law_draw k_law_draw b_law_draw .nil pass0 (pa_cons (pv 0) (pa_cons pe_int pa_nil))) pe_int (nomark _)) pa_nil)) (by rfl))
  (pss_cons (ps_for PassesOwn.never rfl (pi_range1 (by rfl) B.range (pa_cons (pe_op op_add pe_int (pe_call O_law_draw hr rfl m_law_draw k_law_draw b_law_draw .nil pass0 (pa_cons (pv 0) (pa_cons pe_int pa_nil)))) pa_nil)) (pg_name (i := 4) sc_law_ties.nd rfl (by first | exact Or.inl rfl | exact Or.inr rfl))
    (pss_cons (ps_par (i := 5) (j := 6) (by rfl) sc_law_ties.nd rfl rfl (by decide) rfl rfl (pa_cons (pe_call O_law_draw hr rfl m_law_draw k_law_draw b_law_draw .nil pass0 (pa_cons (pv 0) (pa_cons (pv 1) pa_nil))) (pa_cons (pe_call O_law_draw hr rfl m_law_draw k_law_draw b_law_draw .nil pass0 (pa_cons (pv 0) (pa_cons (pv 1) pa_nil))) pa_nil)) (by rfl))
  (pss_cons (ps_if (PW.pt (pw_and (pt_val (pv 3)) (pw_and1 (pt_cmpR op_gt (pv 5) (pv 6) (nomark _)))))
    (pss_one (ps_par (i := 5) (j := 6) (by rfl) sc_law_ties.nd rfl rfl (by decide) rfl rfl (pa_cons (pv 6) (pa_cons (pv 5) pa_nil)) (by rfl))) pss_nil)
  (pss_one (ps_if (PW.pt (pw_or (pt_not (pt_val (pv 3))) (pw_or (pt_cmpR op_ne (pv 5) (pv 6) (nomark _)) (pw_or1 (pt_cmpR op_eq (pe_call O_law_draw hr rfl m_law_draw k_law_draw b_law_draw .nil pass0 (pa_cons (pv 0) (pa_cons pe_int pa_nil))) pe_int (nomark _))))))
    (pss_one (ps_expr (pe_bm PySem.F.plainAttrs_list PySem.F.slot_list_append PySem.F.type_list_append mt_append (pv 2) (pa_cons (pe_tup (pa_cons (pv 5) (pa_cons (pv 6) pa_nil))) pa_nil)))) pss_nil)))))
  (pss_cons (ps_if (PW.pt (pw_and (pt_val (pv 3)) (pw_and1 (pt_cmpR op_eq (pe_call O_law_draw hr rfl m_law_draw k_law_draw b_law_draw .nil pass0 (pa_cons (pv 0) (pa_cons pe_int pa_nil))) pe_int (nomark _)))))
    (pss_one (ps_expr (pe_bm PySem.F.plainAttrs_list PySem.F.slot_list_append PySem.F.type_list_append mt_append (pv 2) (pa_cons (pe_tup (pa_cons (pe_op op_sub (pv 1) pe_int) (pa_cons pe_int pa_nil))) pa_nil)))) pss_nil)
  (pss_one (ps_ret (pv 2)))))), ?_⟩
  refine ⟨Nat.zero_le _, fun l nl => ?_⟩
  have hla : l ≠ a := hp.ne nl
  refine ⟨_, rfl, a, 3, rfl, hp.new nl, by omega, by omega, fun d0 H1 hd0 hk1 hp1 => ?_⟩
  refine ⟨_, _, rfl, rfl, ?_⟩
  refine ⟨_, _, rfl, _, rfl, a, 7, rfl, hp1, by omega, by omega, fun d1 H2 hd1 hk2 hp2 => ⟨_, _, rfl, rfl, _, rfl, by omega, by omega, ?_⟩⟩
  have hT2 := (TiesAt.nil.kept hk1 (hp.new nl) hla).kept hk2 hp1 hla
  refine for_range (lo := 0) (n := ((3 : Int) + (d1 : Int)).toNat) (fun i σ H' => ∃ (fw : Bool) (v4 v5 v6 : Option V) (ts : List (Nat × Nat)), σ = [some (.ref a), some (.int (N : Int)), some (.ref l), some (.bl fw), v4, v5, v6] ∧ ts.length ≤ i ∧ (∀ e ∈ ts, e.1 < N ∧ e.2 < N) ∧ Kept a H H' ∧ PotAt H' a ∧ TiesAt H' l ts) ?_ ?_ ?_
  · exact ⟨_, none, none, none, [], rfl, Nat.le_refl _, (fun e he => nomatch he), ((Same.kept (same_new nl _)).trans hk1).trans hk2, hp2, hT2⟩
  · rintro i σ H3 hi ⟨fw, v4, v5, v6, ts, rfl, hlen, hts, hk, hpp, hT⟩
    refine ⟨_, rfl, _, rfl, a, N, rfl, hpp, hN, by omega, fun u H4 hu hk4 hp4 => ⟨_, rfl, _, rfl, a, N, rfl, hp4, hN, by omega, fun x H5 hx hk5 hp5 => ⟨_, _, rfl, ?_⟩⟩⟩
    have hT5 := (hT.kept hk4 hpp hla).kept hk5 hp4 hla
    have hk5' := (hk.trans hk4).trans hk5
    have app : ∀ (fw : Bool) (u x : Nat) (v4 : Option V) (H6 : Hp), u < N → x < N → Kept a H H6 → PotAt H6 a → TiesAt H6 l ts → ∀ tp, H6 tp = none → ∃ xs, upd H6 tp (.tup [.int (u : Int), .int (x : Int)]) l = some (.lst xs) ∧ xs.length < sizeLine ∧ ∃ (fw' : Bool) (v4' v5' v6' : Option V) (ts' : List (Nat × Nat)), [some (V.ref a), some (.int (N : Int)), some (.ref l), some (.bl fw), v4, some (.int (u : Int)), some (.int (x : Int))] = [some (V.ref a), some (.int (N : Int)), some (.ref l), some (.bl fw'), v4', v5', v6'] ∧ ts'.length ≤ i + 1 ∧ (∀ e ∈ ts', e.1 < N ∧ e.2 < N) ∧ Kept a H (upd (upd H6 tp (.tup [.int (u : Int), .int (x : Int)])) l (.lst (xs ++ [.ref tp]))) ∧ PotAt (upd (upd H6 tp (.tup [.int (u : Int), .int (x : Int)])) l (.lst (xs ++ [.ref tp]))) a ∧ TiesAt (upd (upd H6 tp (.tup [.int (u : Int), .int (x : Int)])) l (.lst (xs ++ [.ref tp]))) l ts' := by
      intro fw u x v4 H6 hu hx hk6 hp6 hT6 tp ntp
      obtain ⟨xs, g1, g2, g3⟩ := hT6.push (u := u) (v := x) ntp
      refine ⟨xs, g1, by rw [g2]; exact line200 (by omega), fw, v4, _, _, ts ++ [(u, x)], rfl, by rw [List.length_append]; show ts.length + 1 ≤ _; omega, fun e he => ?_, (hk6.new ntp).put nl, (hp6.new ntp).put hla, g3⟩
      rcases List.mem_append.mp he with h | h
      · exact hts e h
      · rw [List.mem_singleton.mp h]; exact ⟨hu, hx⟩
    obtain ⟨xs5, hxs5, _⟩ := hT5.get
    cases fw with
    | false =>
      refine ⟨_, rfl, _, rfl, iteF (iteF ?_)⟩
      refine ⟨_, rfl, _, rfl, iteT (iteT ⟨_, rfl, .inl ⟨rfl, _, SqL.of hxs5⟩, _, rfl, _, rfl, (by show 2 ≤ sizeLine; decide), fun tp ntp => ?_⟩)⟩
      obtain ⟨xs, g1, g2, g3⟩ := app false u x (some (.int (0 + (i : Int)))) H5 hu hx hk5' hp5 hT5 tp ntp
      exact ⟨l, xs, _, rfl, rfl, g1, g2, g3⟩
    | true =>
      refine ⟨_, rfl, _, rfl, iteT ⟨_, rfl, _, rfl, _, _, rfl, rfl, _, rfl, ?_⟩⟩
      refine ite2 (fun c1 => ⟨_, rfl, _, rfl, _, _, rfl, ?_⟩) (fun c1 => ?_)
      · refine ⟨_, rfl, _, rfl, iteF ⟨_, rfl, _, rfl, rfl, _, rfl, ?_⟩⟩
        by_cases c : x = u
        · refine iteNot' (by rw [c]) ?_
          refine ⟨_, rfl, a, 6, rfl, hp5, by omega, by omega, fun d6 H6 hd6 hk6 hp6 => ⟨rfl, _, rfl, ?_⟩⟩
          have hT6 := hT5.kept hk6 hp5 hla
          obtain ⟨xs6, hxs6, _⟩ := hT6.get
          refine ite2 (fun c1 => ?_) (fun c1 => ?_)
          · refine ⟨_, rfl, .inl ⟨rfl, _, SqL.of hxs6⟩, _, rfl, _, rfl, (by show 2 ≤ sizeLine; decide), fun tp ntp => ?_⟩
            obtain ⟨xs, g1, g2, g3⟩ := app true x u (some (.int (0 + (i : Int)))) H6 hx hu (hk5'.trans hk6) hp6 hT6 tp ntp
            exact ⟨l, xs, _, rfl, rfl, g1, g2, g3⟩
          · exact ⟨_, _, _, _, ts, rfl, by omega, hts, hk5'.trans hk6, hp6, hT6⟩
        · refine iteNot (fun z => c (by have := int_eq.mp z; omega)) ?_
          refine iteT ⟨_, rfl, .inl ⟨rfl, _, SqL.of hxs5⟩, _, rfl, _, rfl, (by show 2 ≤ sizeLine; decide), fun tp ntp => ?_⟩
          obtain ⟨xs, g1, g2, g3⟩ := app true x u (some (.int (0 + (i : Int)))) H5 hx hu hk5' hp5 hT5 tp ntp
          exact ⟨l, xs, _, rfl, rfl, g1, g2, g3⟩
      · refine ⟨_, rfl, _, rfl, iteF ⟨_, rfl, _, rfl, rfl, _, rfl, ?_⟩⟩
        by_cases c : u = x
        · refine iteNot' (by rw [c]) ?_
          refine ⟨_, rfl, a, 6, rfl, hp5, by omega, by omega, fun d6 H6 hd6 hk6 hp6 => ⟨rfl, _, rfl, ?_⟩⟩
          have hT6 := hT5.kept hk6 hp5 hla
          obtain ⟨xs6, hxs6, _⟩ := hT6.get
          refine ite2 (fun c1 => ?_) (fun c1 => ?_)
          · refine ⟨_, rfl, .inl ⟨rfl, _, SqL.of hxs6⟩, _, rfl, _, rfl, (by show 2 ≤ sizeLine; decide), fun tp ntp => ?_⟩
            obtain ⟨xs, g1, g2, g3⟩ := app true u x (some (.int (0 + (i : Int)))) H6 hu hx (hk5'.trans hk6) hp6 hT6 tp ntp
            exact ⟨l, xs, _, rfl, rfl, g1, g2, g3⟩
          · exact ⟨_, _, _, _, ts, rfl, by omega, hts, hk5'.trans hk6, hp6, hT6⟩
        · refine iteNot (fun z => c (by have := int_eq.mp z; omega)) ?_
          refine iteT ⟨_, rfl, .inl ⟨rfl, _, SqL.of hxs5⟩, _, rfl, _, rfl, (by show 2 ≤ sizeLine; decide), fun tp ntp => ?_⟩
          obtain ⟨xs, g1, g2, g3⟩ := app true u x (some (.int (0 + (i : Int)))) H5 hu hx hk5' hp5 hT5 tp ntp
          exact ⟨l, xs, _, rfl, rfl, g1, g2, g3⟩
  · rintro σ H3 ⟨fw, v4, v5, v6, ts, rfl, hlen, hts, hk, hpp, hT⟩
    cases fw with
    | false =>
      refine ⟨_, rfl, _, rfl, iteF (iteF ?_)⟩
      exact ⟨_, rfl, q l ts H3 (by omega) hts hk hpp nl hT⟩
    | true =>
      refine ⟨_, rfl, _, rfl, iteT ⟨_, rfl, a, 2, rfl, hpp, by omega, by omega, fun d6 H6 hd6 hk6 hp6 => ⟨rfl, _, rfl, ?_⟩⟩⟩
      have hT6 := hT.kept hk6 hpp hla
      obtain ⟨xs6, hxs6, _⟩ := hT6.get
      refine ite2 (fun c1 => ?_) (fun c1 => ?_)
      · refine ⟨_, rfl, .inl ⟨rfl, _, SqL.of hxs6⟩, _, rfl, _, _, rfl, rfl, (by show 2 ≤ sizeLine; decide), fun tp ntp => ?_⟩
        obtain ⟨xs, g1, g2, g3⟩ := hT6.pushV (u := N - 1) (v := 0) (congrArg V.int (show (N : Int) - 1 = ((N - 1 : Nat) : Int) by omega)) rfl ntp
        refine ⟨l, xs, _, rfl, rfl, g1, by rw [g2]; exact line200 (by omega), _, rfl, q l (ts ++ [(N - 1, 0)]) _ (by rw [List.length_append]; show ts.length + 1 ≤ 10; omega) (fun e he => ?_) (((hk.trans hk6).new ntp).put nl) ((hp6.new ntp).put hla) nl g3⟩
        rcases List.mem_append.mp he with h | h
        · exact hts e h
        · rw [List.mem_singleton.mp h]; exact ⟨by show N - 1 < N; omega, hN⟩
      · exact ⟨_, rfl, q l ts H6 (by omega) hts (hk.trans hk6) hp6 nl hT6⟩
end
end My
set_option maxHeartbeats 4000000
namespace My
open PySem L2 PyProof.Rows
section
variable {P : Program} {w : World} {K : PySem.W.Frag} {mg : Str → Option Value} {base : Heap} {C : Addr}
def sp_law_lots (_ : PySem.W.Frag) (_ : Addr) : Sp := fun vs H Q _ => ∃ (N b e : Nat), vs = [.int ((N : Nat) : Int), .int ((b : Nat) : Int), .int ((e : Nat) : Int)] ∧ N ≤ 5 ∧ ∀ H' l as, Same H H' → H l = none → (∀ p ∈ as, H p = none) → H' l = some (.lst (as.map V.ref)) → LisN H' as (lotsN b e N) → Q (.ref l) H'
theorem ok_law_lots (D : Def K mg "_law_lots" s_law_lots ["_law_places", "_law_begin", "_law_end"]) (B : Bs mg) (Glb : Glo mg) (WK : WebK K mg C) :
    Good P w K mg base "_law_lots" s_law_lots ["_law_places", "_law_begin", "_law_end"] 1 (sp_law_lots K C) := by
  refine D.good fun f fd F => ?_
  refine F.ok sc_law_lots (fun vs H Q E h => ?_) (fun cdv A outer s H vs Q E hr h => ?_)
  · obtain ⟨N, b, e, rfl, hN, q⟩ := h
    first | rfl | (rcases h with ⟨_, _, rfl, _⟩ | ⟨_, rfl, _⟩ <;> rfl)
  obtain ⟨N, b, e, rfl, hN, q⟩ := h
  refine ⟨_, (pss_cons (ps_set (i := 3) sc_law_lots.nd rfl (by first | exact Or.inl rfl | exact Or.inr rfl) (pe_lst (pa_cons (pe_lst pa_nil) pa_nil)))
  (pss_cons (ps_for PassesOwn.never rfl (pi_range1 (by rfl) B.range (pa_cons (pv 0) pa_nil)) (pg_name (i := 4) sc_law_lots.nd rfl (by first | exact Or.inl rfl | exact Or.inr rfl))
    (pss_cons (ps_setLc (i := 5) (own := [("_law_lot", 6)]) (g := gName 6) (by rfl) sc_law_lots.nd rfl rfl (sw_true rfl rfl rfl (by decide +kernel)) (pi_list (pv 3)) (blkOk_by (own := [("_law_lot", 6)]) (N := ["_law_places", "_law_begin", "_law_end", "_law_found", "_law_place", "_law_more", "_law_lot"]) (sc := defScope s_law_lots) (by decide +kernel)) (fun _ _ _ _ _ => (pg_name (i := 6) sc_law_lots.nd rfl (by first | exact Or.inl rfl | exact Or.inr rfl))) (fun _ _ _ _ _ => pts_nil) (fun _ _ _ _ _ => (pe_op op_cat (pv 6) (pe_lst (pa_cons (pv 4) pa_nil)))))
  (pss_one (ps_set (i := 3) sc_law_lots.nd rfl (by first | exact Or.inl rfl | exact Or.inr rfl) (pe_ifExp (pt_cmpR op_in_seq (pv 4) (pe_tup (pa_cons (pv 1) (pa_cons (pv 2) pa_nil))) (by rfl)) (pv 5) (pe_op op_cat (pv 3) (pv 5)))))))
  (pss_one (ps_ret (pv 3))))), ?_⟩
  refine ⟨Nat.zero_le _, fun p0 np0 => ⟨(by show 1 ≤ sizeLine; decide), fun l0 nl0 => ?_⟩⟩
  have S1 := same_new np0 (.lst [])
  have e0 : upd H p0 (.lst []) p0 = some (.lst (iv [])) := upd_same
  generalize upd H p0 (.lst []) = H1 at S1 e0 nl0 ⊢
  have S2 := same_new nl0 (.lst [V.ref p0])
  have e1 : upd H1 l0 (.lst [V.ref p0]) l0 = some (.lst (([p0] : List Addr).map V.ref)) := upd_same
  have e0' := S2 _ _ e0
  generalize upd H1 l0 (.lst [V.ref p0]) = H2 at S2 e0' e1 ⊢
  refine ⟨_, rfl, _, rfl, by omega, by omega, ?_⟩
  refine for_range (lo := 0) (n := (N : Int).toNat) (fun i σ H' => Same H H' ∧ ∃ (v4 v5 : Option V) (l : Addr) (as : List Addr), H l = none ∧ (∀ p ∈ as, H p = none) ∧ H' l = some (.lst (as.map V.ref)) ∧ LisN H' as (lotsN b e i) ∧ σ = [some (.int (N : Int)), some (.int (b : Int)), some (.int (e : Int)), some (.ref l), v4, v5, none]) ⟨S1.trans S2, none, none, l0, [p0], S1.free nl0, (fun p hp => by rw [List.mem_singleton.mp hp]; exact np0), e1, .cons e0' .nil, rfl⟩ ?_ ?_
  · rintro i σ H3 hi ⟨S3, v4, v5, l, as, nl, has, hl, hL, rfl⟩
    have hal := paired_len hL
    have hll := lots_len b e i
    refine ⟨_, rfl, l, rfl, ⟨_, SqL.of hl⟩, fun D nD => ?_⟩
    refine lc_list (K := K) (a := l) (xs := as.map V.ref) (fun j H' => Same H3 H' ∧ ∃ bs : List Addr, H' D = some (.lst (bs.map V.ref)) ∧ LisN H' bs (((lotsN b e i).take j).map (· ++ [i])) ∧ ∀ p ∈ bs, H p = none) ⟨same_new nD _, [], upd_same, .nil, fun p hp => nomatch hp⟩ (fun i H' _ ⟨z, _⟩ => SqL.of (z _ _ hl)) ?_ ?_
    · rintro j y H4 hy ⟨S4, bs, hb4, hM4, hn4⟩
      obtain ⟨p, hp, rfl⟩ : ∃ p, as[j]? = some p ∧ y = .ref p := by
        rw [List.getElem?_map] at hy
        cases z : as[j]? with
        | none => rw [z] at hy; cases hy
        | some p => rw [z] at hy; exact ⟨p, rfl, (Option.some.inj hy).symm⟩
      obtain ⟨L, hLj, hpL⟩ := paired_get hL hp
      have hLl := (lots_lt (List.mem_of_getElem? hLj)).2.1
      have hbl := paired_len hM4
      rw [List.length_map, List.length_take] at hbl
      have h32 : 2 ^ i ≤ 32 := Nat.le_trans (Nat.pow_le_pow_right (by omega) (show i ≤ 5 by omega)) (by decide)
      have hbD := LisN.self hb4 hM4
      refine ⟨rfl, _, rfl, _, rfl, (by show 1 ≤ sizeLine; decide), fun p1 np1 => ?_⟩
      have S5 := same_new np1 (.lst [V.int (0 + (i : Int))])
      have e5 : upd H4 p1 (.lst [V.int (0 + (i : Int))]) p1 = some (.lst (iv [i])) := by rw [upd_same, Int.zero_add]; rfl
      refine ⟨p, p1, _, _, rfl, rfl, S5 _ _ (S4 _ _ hpL), e5, by rw [List.length_map]; exact Nat.le_of_lt (line200 (by show L.length + 1 ≤ 200; omega)), fun p2 np2 => ?_⟩
      rw [show iv L ++ iv [i] = iv (L ++ [i]) by rw [iv_app]; rfl]
      have S6 := same_new np2 (.lst (iv (L ++ [i])))
      have e6 : upd (upd H4 p1 (.lst [V.int (0 + (i : Int))])) p2 (.lst (iv (L ++ [i]))) p2 = some (.lst (iv (L ++ [i]))) := upd_same
      have S46 := S5.trans S6
      refine ⟨_, S46 _ _ hb4, by rw [List.length_map]; exact line200 (by omega), same_upd (S4.trans S46) nD, bs ++ [p2], by rw [upd_same, List.map_append]; rfl, ?_, fun r hr => ?_⟩
      · rw [take_one' hLj, List.map_append]
        exact (hM4.same S46).push hbD e6 (ne_of_none (S5 _ _ hb4) np2)
      · rcases List.mem_append.mp hr with z | z
        · exact hn4 r z
        · rw [List.mem_singleton.mp z]; exact ((S3.trans S4).trans S5).free np2
    rintro H4 ⟨S4, bs, hb4, hM4, hn4⟩
    rw [List.length_map, hal, List.take_length] at hM4
    rw [Int.zero_add]
    refine ⟨_, rfl, _, rfl, _, rfl, (by show 2 ≤ sizeLine; decide), fun tp ntp => ?_⟩
    have S5 := same_new ntp (.tup (iv [b, e]))
    have e5 : upd H4 tp (.tup (iv [b, e])) tp = some (.tup (iv [b, e])) := upd_same
    have S35 := S4.trans S5
    have hb5 := S5 _ _ hb4
    have hM5 := hM4.same S5
    have hl5 := S35 _ _ hl
    have hL5 := hL.same S35
    have h32 : 2 ^ i ≤ 32 := Nat.le_trans (Nat.pow_le_pow_right (by omega) (show i ≤ 5 by omega)) (by decide)
    have hbl := paired_len hM5
    rw [List.length_map] at hbl
    refine ⟨tp, iv [b, e], rfl, .inr (SqT.of e5), rfl, flat_iv _, _, rfl, ?_⟩
    have ein : (if false = true then !inV (.int ((i : Nat) : Int)) (iv [b, e]) else inV (.int ((i : Nat) : Int)) (iv [b, e])) = decide (i ∈ [b, e]) := inV_iv _ _
    rw [ein]
    by_cases c : i ∈ [b, e]
    · refine iteYes c ⟨_, rfl, S3.trans S35, _, _, D, bs, S3.free nD, hn4, hb5, ?_, rfl⟩
      unfold lotsN
      rw [if_pos (by simpa using c)]
      exact hM5
    · refine iteNo c ⟨_, rfl, _, rfl, l, D, _, _, rfl, rfl, hl5, hb5, by rw [List.length_map, List.length_map]; exact Nat.le_of_lt (line200 (by omega)), fun p3 np3 => ?_⟩
      have S6 := same_new np3 (.lst (as.map V.ref ++ bs.map V.ref))
      refine ⟨(S3.trans S35).trans S6, _, _, p3, as ++ bs, (S3.trans S35).free np3, (fun r hr => (List.mem_append.mp hr).elim (has r) (hn4 r)), by rw [List.map_append]; exact upd_same, ?_, rfl⟩
      unfold lotsN
      rw [if_neg (by simpa using c)]
      exact (hL5.same S6).app (hM5.same S6)
  · rintro σ H3 ⟨S3, v4, v5, l, as, nl, has, hl, hL, rfl⟩
    have hNN : (N : Int).toNat = N := by omega
    rw [hNN] at hL
    exact ⟨_, rfl, q _ l as S3 nl has hl hL⟩
end
end My
set_option maxHeartbeats 4000000
namespace My
open PySem L2 PyProof.Rows
/-- a search: what is met, and what of it is still to be gone on from -/
structure Met (N : Nat) (ts : List (Nat × Nat)) (I : List Nat) (p : Nat) (M R : List Nat) (h : Option Nat) (J : List Nat) : Prop where
  nd : M.Nodup
  lt : ∀ x ∈ M, x < N
  pm : p ∈ M
  sub : ∀ x ∈ R, x ∈ M
  rc : ∀ x ∈ M, Rc ts (fun t => t ∈ I) p x
  cl : ∀ x ∈ M, x ∉ R → some x ≠ h → ∀ t ∈ I, nearT ts t = x → farT ts t ∈ M
  hm : ∀ x, h = some x → x ∈ M
  hc : ∀ x, h = some x → ∀ t ∈ J, nearT ts t = x → farT ts t ∈ M
section
variable {N : Nat} {ts : List (Nat × Nat)} {I : List Nat} {p : Nat} {M R : List Nat}
theorem Met.init (hp : p < N) : Met N ts I p [p] [p] none [] :=
  ⟨by simp, fun x hx => by rw [List.mem_singleton.mp hx]; exact hp, by simp, fun x hx => hx, fun x hx => by rw [List.mem_singleton.mp hx]; exact .refl, fun x hx hn => absurd hx hn, (fun x z => nomatch z), (fun x z => nomatch z)⟩
theorem Met.pop {x : Nat} (h : Met N ts I p M (R ++ [x]) none []) : Met N ts I p M R (some x) [] :=
  ⟨h.nd, h.lt, h.pm, fun y hy => h.sub y (List.mem_append_left _ hy), h.rc, fun y hy hn hx t ht e => h.cl y hy (fun z => (List.mem_append.mp z).elim hn fun z => hx (by rw [List.mem_singleton.mp z])) (fun z => nomatch z) t ht e, fun y e => by cases e; exact h.sub x (by simp), fun y _ t ht => nomatch ht⟩
theorem Met.skip {x t : Nat} {J : List Nat} (h : Met N ts I p M R (some x) J) (k : nearT ts t = x → farT ts t ∈ M) : Met N ts I p M R (some x) (J ++ [t]) :=
  ⟨h.nd, h.lt, h.pm, h.sub, h.rc, h.cl, h.hm, fun y e u hu z => (List.mem_append.mp hu).elim (fun w => h.hc y e u w z) fun w => by
    rw [List.mem_singleton.mp w] at z ⊢
    cases e
    exact k z⟩
theorem Met.put {x t : Nat} {J : List Nat} (h : Met N ts I p M R (some x) J) (hI : t ∈ I) (ht : t < ts.length) (hf : farT ts t < N) (hn : nearT ts t = x) (hM : farT ts t ∉ M) : Met N ts I p (M ++ [farT ts t]) (R ++ [farT ts t]) (some x) (J ++ [t]) := by
  refine ⟨?_, fun y hy => ?_, List.mem_append_left _ h.pm, fun y hy => ?_, fun y hy => ?_, fun y hy hR hx u hu e => ?_, fun y e => List.mem_append_left _ (h.hm y e), fun y e u hu z => ?_⟩
  · rw [List.nodup_append]
    exact ⟨h.nd, by simp, fun a ha c hc => by rw [List.mem_singleton.mp hc]; rintro rfl; exact hM ha⟩
  · rcases List.mem_append.mp hy with z | z
    · exact h.lt y z
    · rw [List.mem_singleton.mp z]; exact hf
  · rcases List.mem_append.mp hy with z | z
    · exact List.mem_append_left _ (h.sub y z)
    · exact List.mem_append_right _ z
  · rcases List.mem_append.mp hy with z | z
    · exact h.rc y z
    · rw [List.mem_singleton.mp z]
      exact .step (h.rc x (h.hm x rfl)) ht hI hn
  · have hyM : y ∈ M := (List.mem_append.mp hy).resolve_right fun z => hR (List.mem_append_right _ z)
    exact List.mem_append_left _ (h.cl y hyM (fun z => hR (List.mem_append_left _ z)) hx u hu e)
  · rcases List.mem_append.mp hu with w | w
    · exact List.mem_append_left _ (h.hc y e u w z)
    · rw [List.mem_singleton.mp w]; exact List.mem_append_right _ (by simp)
theorem Met.turn {x : Nat} (h : Met N ts I p M R (some x) I) : Met N ts I p M R none [] :=
  ⟨h.nd, h.lt, h.pm, h.sub, h.rc, fun y hy hn _ t ht e => by
    by_cases c : y = x
    · exact h.hc x rfl t ht (e.trans c)
    · exact h.cl y hy hn (fun z => c (Option.some.inj z)) t ht e, (fun y e => nomatch e), (fun y e => nomatch e)⟩
theorem Met.done (h : Met N ts I p M [] none []) (x : Nat) : x ∈ M ↔ Rc ts (fun t => t ∈ I) p x := by
  refine ⟨h.rc x, fun r => ?_⟩
  induction r with
  | refl => exact h.pm
  | step _ ht hi hn ih => exact h.cl _ ih (by simp) (fun z => nomatch z) _ hi hn
end
section
variable {P : Program} {w : World} {K : PySem.W.Frag} {mg : Str → Option Value} {base : Heap} {C : Addr}
def sp_law_come_to (_ : PySem.W.Frag) (_ : Addr) : Sp := fun vs H Q _ => ∃ (l il : Addr) (N : Nat) (ts : List (Nat × Nat)) (I : List Nat) (p : Nat), vs = [.ref l, .ref il, .int ((p : Nat) : Int)] ∧ TiesAt H l ts ∧ H il = some (.lst (iv I)) ∧ OkWeb N ts ∧ N ≤ 5 ∧ p < N ∧ (∀ t ∈ I, t < ts.length) ∧
  ∀ H' m M, Same H H' → H m = none → H' m = some (.lst (iv M)) → M.length ≤ 5 → (∀ x, x ∈ M ↔ Rc ts (fun t => t ∈ I) p x) → Q (.ref m) H'
theorem ok_law_come_to (D : Def K mg "_law_come_to" s_law_come_to ["_law_ties_here", "_law_inner_here", "_law_place"]) (B : Bs mg) (Glb : Glo mg) (WK : WebK K mg C) :
    Good P w K mg base "_law_come_to" s_law_come_to ["_law_ties_here", "_law_inner_here", "_law_place"] 1 (sp_law_come_to K C) := by
  refine D.good fun f fd F => ?_
  refine F.ok sc_law_come_to (fun vs H Q E h => ?_) (fun cdv A outer s H vs Q E hr h => ?_)
  · obtain ⟨l, il, N, ts, I, p, rfl, hT, hI, ho, hN, hp, hIt, q⟩ := h
    first | rfl | (rcases h with ⟨_, _, rfl, _⟩ | ⟨_, rfl, _⟩ <;> rfl)
  obtain ⟨l, il, N, ts, I, p, rfl, hT, hI, ho, hN, hp, hIt, q⟩ := h
  refine ⟨_, (pss_cons (ps_par (i := 3) (j := 4) (by rfl) sc_law_come_to.nd rfl rfl (by decide) rfl rfl (pa_cons (pe_lst (pa_cons (pv 2) pa_nil)) (pa_cons (pe_lst (pa_cons (pv 2) pa_nil)) pa_nil)) (by rfl))
  (pss_cons (ps_while PassesOwn.never (pt_cmpR (op_neD hr.units) (pv 4) (pe_lst pa_nil) (nomark _))
    (pss_cons (ps_set (i := 5) sc_law_come_to.nd rfl (by first | exact Or.inl rfl | exact Or.inr rfl) (pe_bm0 PySem.F.plainAttrs_list PySem.F.slot_list_pop PySem.F.type_list_pop mt_pop (pv 4)))
  (pss_one (ps_for PassesOwn.never rfl (pi_list (pv 1)) (pg_name (i := 6) sc_law_come_to.nd rfl (by first | exact Or.inl rfl | exact Or.inr rfl))
    (pss_one (ps_if (PW.pt (pw_and (pt_cmpR op_eq (pe_ix ix_tup (pe_ix ix_list (pv 0) (pv 6) (fun _ _ => rfl)) pe_int (fun _ _ => rfl)) (pv 5) (nomark _)) (pw_and1 (pt_cmpR op_notIn_seq (pe_ix ix_tup (pe_ix ix_list (pv 0) (pv 6) (fun _ _ => rfl)) pe_int (fun _ _ => rfl)) (pv 3) (by rfl)))))
    (pss_cons (ps_expr (pe_bm PySem.F.plainAttrs_list PySem.F.slot_list_append PySem.F.type_list_append mt_append (pv 3) (pa_cons (pe_ix ix_tup (pe_ix ix_list (pv 0) (pv 6) (fun _ _ => rfl)) pe_int (fun _ _ => rfl)) pa_nil)))
  (pss_one (ps_expr (pe_bm PySem.F.plainAttrs_list PySem.F.slot_list_append PySem.F.type_list_append mt_append (pv 4) (pa_cons (pe_ix ix_tup (pe_ix ix_list (pv 0) (pv 6) (fun _ _ => rfl)) pe_int (fun _ _ => rfl)) pa_nil))))) pss_nil))))))
  (pss_one (ps_ret (pv 3))))), ?_⟩
  refine ⟨_, rfl, (by show 1 ≤ sizeLine; decide), fun m nm => ⟨_, rfl, (by show 1 ≤ sizeLine; decide), fun r nr => ⟨_, _, rfl, ?_⟩⟩⟩
  have S1 := same_new nm (.lst [V.int (p : Int)])
  have em : upd H m (.lst [V.int (p : Int)]) m = some (.lst (iv [p])) := upd_same
  have hmr : m ≠ r := ne_of_none em nr
  have S2 := same_new nr (.lst [V.int (p : Int)])
  have er : upd (upd H m (.lst [V.int (p : Int)])) r (.lst [V.int (p : Int)]) r = some (.lst (iv [p])) := upd_same
  have em2 := S2 _ _ em
  have S02 := S1.trans S2
  have nr0 : H r = none := S1.free nr
  generalize upd (upd H m (.lst [V.int (p : Int)])) r (.lst [V.int (p : Int)]) = H2 at S02 er em2 ⊢
  refine ⟨fun n σ H' => ∃ (M R : List Nat) (v5 v6 : Option V), σ = [some (.ref l), some (.ref il), some (.int (p : Int)), some (.ref m), some (.ref r), v5, v6] ∧ Same H H' ∧ H' m = some (.lst (iv M)) ∧ H' r = some (.lst (iv R)) ∧ Met N ts I p M R none [] ∧ n + 2 * M.length = 2 * N + R.length ∧ R.length ≤ M.length, ⟨2 * N - 1, [p], [p], none, none, rfl, S02, em2, er, Met.init hp, by show 2 * N - 1 + 2 * 1 = 2 * N + 1; omega, Nat.le_refl _⟩, ?_⟩
  rintro n σ H3 ⟨M, R, v5, v6, rfl, S3, hm3, hr3, hM, hn, hRM⟩
  have hMl : M.length ≤ N := nodup_len hM.nd hM.lt
  refine ⟨_, rfl, Nat.zero_le _, fun e0 ne0 => ?_⟩
  have Se := same_new ne0 (.lst [])
  have ee0 : upd H3 e0 (.lst []) e0 = some (.lst (iv [])) := upd_same
  have hm4 := Se _ _ hm3
  have hr4 := Se _ _ hr3
  have S4 := S3.trans Se
  generalize upd H3 e0 (.lst []) = H4 at Se ee0 hm4 hr4 S4 ⊢
  refine ⟨_, _, dp_iv hr4, dp_iv ee0, shaped_iz _, shaped_iz _, ?_⟩
  have ee : ∀ L : List Nat, PyData.eqv (dz (L.map fun n : Nat => (n : Int))) (dz (([] : List Nat).map fun n : Nat => (n : Int))) = decide (L = []) := fun L => by
    rw [show (([] : List Nat).map fun n : Nat => (n : Int)) = [] from rfl, eqv_empty]
    cases L <;> rfl
  rw [ee]
  refine ⟨_, rfl, ?_⟩
  by_cases hR : R = []
  · subst hR
    exact iteNot' rfl ⟨_, rfl, q _ m M S4 nm hm4 (by omega) hM.done⟩
  refine iteNot hR ?_
  obtain ⟨R', x, rfl⟩ : ∃ R' x, R = R' ++ [x] := ⟨R.dropLast, R.getLast hR, (List.dropLast_concat_getLast hR).symm⟩
  refine ⟨fun σ' H' => ∃ m', m' < n ∧ ∃ (M R : List Nat) (v5 v6 : Option V), σ' = [some (.ref l), some (.ref il), some (.int (p : Int)), some (.ref m), some (.ref r), v5, v6] ∧ Same H H' ∧ H' m = some (.lst (iv M)) ∧ H' r = some (.lst (iv R)) ∧ Met N ts I p M R none [] ∧ m' + 2 * M.length = 2 * N + R.length ∧ R.length ≤ M.length, fun σ' H' z => z, ?_⟩
  have hRM' : R'.length + 1 ≤ M.length := by rw [List.length_append] at hRM; exact hRM
  have hlast : (iv (R' ++ [x]))[(iv (R' ++ [x])).length - 1]? = some (.int ((x : Nat) : Int)) := by
    rw [iv_app, List.length_append, List.getElem?_append_right (by show _ ≤ _ + 1 - 1; omega)]
    simp
  refine ⟨_, rfl, .inl ⟨rfl, _, SqL.of hr4⟩, r, _, _, rfl, rfl, hr4, hlast, ?_⟩
  have S5 : Same H (upd H4 r (.lst (iv (R' ++ [x])).dropLast)) := same_upd S4 nr0
  have hr5 : upd H4 r (.lst (iv (R' ++ [x])).dropLast) r = some (.lst (iv R')) := by rw [upd_same, iv_app, List.dropLast_concat]
  have hm5 : upd H4 r (.lst (iv (R' ++ [x])).dropLast) m = some (.lst (iv M)) := by rw [upd_ne hmr]; exact hm4
  generalize upd H4 r (.lst (iv (R' ++ [x])).dropLast) = H5 at S5 hr5 hm5 ⊢
  refine ⟨_, rfl, il, rfl, ⟨_, SqL.of (S5 _ _ hI)⟩, ?_⟩
  refine for_list (K := K) (a := il) (xs := iv I) (fun j σ H' => ∃ (M1 R1 : List Nat) (v6 : Option V), σ = [some (.ref l), some (.ref il), some (.int (p : Int)), some (.ref m), some (.ref r), some (.int (x : Int)), v6] ∧ Same H H' ∧ H' m = some (.lst (iv M1)) ∧ H' r = some (.lst (iv R1)) ∧ Met N ts I p M1 R1 (some x) (I.take j) ∧ R1.length + M.length = R'.length + M1.length ∧ M.length ≤ M1.length) ⟨M, R', v6, rfl, S5, hm5, hr5, hM.pop, by omega, Nat.le_refl _⟩ (fun i σ H' _ ⟨_, _, _, _, z, _⟩ => SqL.of (z _ _ hI)) ?_ ?_
  · rintro j v σ H6 hv ⟨M1, R1, v6, rfl, S6, hm6, hr6, hM6, hl6, hl6'⟩
    obtain ⟨t, htj, rfl⟩ := iv_of hv
    have htI := List.mem_of_getElem? htj
    have htl := hIt t htI
    obtain ⟨xs, q3, e1, e2, e3⟩ := tie_at (hT.same S6) htl
    have hfN := (far_lt ho htl).2
    have hM1 : M1.length ≤ N := nodup_len hM6.nd hM6.lt
    refine ⟨_, rfl, _, rfl, _, _, _, .ref q3, rfl, rfl, SqL.of e1, e2, _, _, _, .int ((nearT ts t : Nat) : Int), rfl, rfl, SqT.of e3, atI_nat (j := 0) rfl, _, rfl, rfl, _, rfl, ?_⟩
    by_cases c : nearT ts t = x
    · refine iteYes (by rw [c]) ?_
      refine ⟨_, rfl, _, rfl, _, _, _, .ref q3, rfl, rfl, SqL.of e1, e2, _, _, _, .int ((farT ts t : Nat) : Int), rfl, rfl, SqT.of e3, atI_nat (j := 1) rfl, _, rfl, m, iv M1, rfl, .inl (SqL.of hm6), rfl, flat_iv M1, _, rfl, ?_⟩
      have ein : (if true = true then !inV (.int ((farT ts t : Nat) : Int)) (iv M1) else inV (.int ((farT ts t : Nat) : Int)) (iv M1)) = !decide (farT ts t ∈ M1) := by
        show (!inV _ _) = _
        rw [inV_iv]
      rw [ein]
      by_cases c2 : farT ts t ∈ M1
      · refine iteNot' c2 ⟨M1, R1, _, rfl, S6, hm6, hr6, ?_, hl6, hl6'⟩
        rw [take_one' htj]
        exact hM6.skip fun _ => c2
      · refine iteNot c2 ?_
        refine ⟨_, rfl, .inl ⟨rfl, _, SqL.of hm6⟩, _, rfl, _, rfl, _, _, _, .ref q3, rfl, rfl, SqL.of e1, e2, _, _, _, .int ((farT ts t : Nat) : Int), rfl, rfl, SqT.of e3, atI_nat (j := 1) rfl, m, _, _, rfl, rfl, hm6, by rw [List.length_map]; exact line200 (by omega), ?_⟩
        have S7 : Same H (upd H6 m (.lst (iv M1 ++ [V.int ((farT ts t : Nat) : Int)]))) := same_upd S6 nm
        have hm7 : upd H6 m (.lst (iv M1 ++ [V.int ((farT ts t : Nat) : Int)])) m = some (.lst (iv (M1 ++ [farT ts t]))) := by rw [upd_same, iv_app]
        have hr7 : upd H6 m (.lst (iv M1 ++ [V.int ((farT ts t : Nat) : Int)])) r = some (.lst (iv R1)) := by rw [upd_ne hmr.symm]; exact hr6
        generalize upd H6 m (.lst (iv M1 ++ [V.int ((farT ts t : Nat) : Int)])) = H7 at S7 hm7 hr7 ⊢
        obtain ⟨ys, q4, d1, d2, d3⟩ := tie_at (hT.same S7) htl
        refine ⟨_, rfl, .inl ⟨rfl, _, SqL.of hr7⟩, _, rfl, _, rfl, _, _, _, .ref q4, rfl, rfl, SqL.of d1, d2, _, _, _, .int ((farT ts t : Nat) : Int), rfl, rfl, SqT.of d3, atI_nat (j := 1) rfl, r, _, _, rfl, rfl, hr7, by rw [List.length_map]; exact line200 (by omega), ?_⟩
        refine ⟨M1 ++ [farT ts t], R1 ++ [farT ts t], _, rfl, same_upd S7 nr0, by rw [upd_ne hmr]; exact hm7, by rw [upd_same, iv_app], ?_, by rw [List.length_append, List.length_append]; simp; omega, by rw [List.length_append]; omega⟩
        rw [take_one' htj]
        exact hM6.put htI htl hfN c c2
    · refine iteNo (fun z => c (by have := int_eq.mp z; omega)) (iteF ⟨M1, R1, _, rfl, S6, hm6, hr6, ?_, hl6, hl6'⟩)
      rw [take_one' htj]
      exact hM6.skip fun z => absurd z c
  · rintro σ H6 ⟨M1, R1, v6, rfl, S6, hm6, hr6, hM6, hl6, hl6'⟩
    rw [List.length_map, List.take_length] at hM6
    have hM1 : M1.length ≤ N := nodup_len hM6.nd hM6.lt
    rw [List.length_append] at hn
    exact ⟨2 * N + R1.length - 2 * M1.length, by show _ < n; simp at hn; omega, M1, R1, _, _, rfl, S6, hm6, hr6, hM6.turn, by omega, by rw [List.length_append] at hRM; simp at hRM; omega⟩
end
end My
set_option maxHeartbeats 4000000
namespace My
open PySem L2 PyProof.Rows
theorem Rc.mono {ts : List (Nat × Nat)} {I J : Nat → Prop} {p x : Nat} (h : ∀ t, t < ts.length → I t → J t) (r : Rc ts I p x) : Rc ts J p x := by
  induction r with
  | refl => exact .refl
  | step _ ht hi hn ih => exact .step ih ht (h _ ht hi) hn
theorem Rc_inn {ts : List (Nat × Nat)} {L : List Nat} {e p x : Nat} : Rc ts (fun t => t ∈ innB ts L e) p x ↔ Rc ts (InnT ts L e) p x :=
  ⟨Rc.mono fun t _ h => (innB_mem.mp h).2, Rc.mono fun t ht h => innB_mem.mpr ⟨ht, h⟩⟩
theorem Rc.lt {N : Nat} {ts : List (Nat × Nat)} {I : Nat → Prop} {p x : Nat} (hf : FarOk N ts) (hp : p < N) (r : Rc ts I p x) : x < N := by
  cases r with
  | refl => exact hp
  | step _ ht _ _ => exact hf _ ht
def goesB (ts : List (Nat × Nat)) (L : List Nat) (e t : Nat) : Bool := decide (nearT ts t ∈ L ∧ nearT ts t ≠ e)
def comesB (ts : List (Nat × Nat)) (L : List Nat) (b t : Nat) : Bool := decide (farT ts t ∈ L ∧ farT ts t ≠ b)
theorem andV {c d : Bool} {tb : TE} {σ : L2.St} {H : Hp} {k : VK} (h : ∀ k' : VK, k' (.bl d) H → tb σ H k') (q : k (.bl (c && d)) H) : if c = true then tb σ H k else k (.bl false) H := by
  cases c with
  | false => exact iteF q
  | true => exact iteT (h k q)
theorem goes_eq {n e : Nat} {L : List Nat} : ((if false = true then !inV (.int ((n : Nat) : Int)) (iv L) else inV (.int ((n : Nat) : Int)) (iv L)) && !decide (V.int ((n : Nat) : Int) = V.int ((e : Nat) : Int))) = decide (n ∈ L ∧ n ≠ e) := by
  rw [show (if false = true then !inV (.int ((n : Nat) : Int)) (iv L) else inV (.int ((n : Nat) : Int)) (iv L)) = decide (n ∈ L) from inV_iv n L, Bool.eq_iff_iff, Bool.and_eq_true, decide_eq_true_eq, decide_eq_true_eq, Bool.not_eq_true', decide_eq_false_iff_not]
  exact and_congr Iff.rfl (not_congr ⟨fun z => by have := int_eq.mp z; omega, fun z => by rw [z]⟩)
theorem notin_iv {n : Nat} {L : List Nat} : (if true = true then !inV (.int ((n : Nat) : Int)) (iv L) else inV (.int ((n : Nat) : Int)) (iv L)) = !decide (n ∈ L) := by
  show (!inV _ _) = _
  rw [inV_iv]
theorem in_iv {n : Nat} {L : List Nat} : (if false = true then !inV (.int ((n : Nat) : Int)) (iv L) else inV (.int ((n : Nat) : Int)) (iv L)) = decide (n ∈ L) := inV_iv n L
section
variable {P : Program} {w : World} {K : PySem.W.Frag} {mg : Str → Option Value} {base : Heap} {C : Addr}
def sp_law_inner (_ : PySem.W.Frag) (_ : Addr) : Sp := fun vs H Q _ => ∃ (l ol : Addr) (N : Nat) (ts : List (Nat × Nat)) (L : List Nat) (b e : Nat), vs = [.ref l, .ref ol, .int ((b : Nat) : Int), .int ((e : Nat) : Int)] ∧ TiesAt H l ts ∧ H ol = some (.lst (iv L)) ∧ OkWeb N ts ∧ N ≤ 5 ∧ ts.length ≤ 10 ∧ b < N ∧ (∀ x ∈ L, x < N) ∧
  (¬ Shut ts L b e → ∀ H', Same H H' → Q .non H') ∧ (Shut ts L b e → ∀ H' p, Same H H' → H p = none → H' p = some (.lst (iv (innB ts L e))) → Q (.ref p) H')
theorem ok_law_inner (D : Def K mg "_law_inner" s_law_inner ["_law_ties_here", "_law_lot", "_law_begin", "_law_end"]) (B : Bs mg) (Glb : Glo mg) (WK : WebK K mg C)
    (h_law_come_to : Good P w K mg base "_law_come_to" s_law_come_to ["_law_ties_here", "_law_inner_here", "_law_place"] 1 (sp_law_come_to K C)) :
    Good P w K mg base "_law_inner" s_law_inner ["_law_ties_here", "_law_lot", "_law_begin", "_law_end"] 2 (sp_law_inner K C) := by
  refine D.good fun f fd F => ?_
  obtain ⟨f_law_come_to, d_law_come_to, O_law_come_to, m_law_come_to, k_law_come_to, b_law_come_to, F_law_come_to⟩ := h_law_come_to
  refine F.ok sc_law_inner (fun vs H Q E h => ?_) (fun cdv A outer s H vs Q E hr h => ?_)
  · obtain ⟨l, ol, N, ts, L, b, e, rfl, hT, hL, ho, hN, hm, hb, hLN, qN, qS⟩ := h
    first | rfl | (rcases h with ⟨_, _, rfl, _⟩ | ⟨_, rfl, _⟩ <;> rfl)
  obtain ⟨l, ol, N, ts, L, b, e, rfl, hT, hL, ho, hN, hm, hb, hLN, qN, qS⟩ := h
  refine ⟨_, (pss_cons (ps_set (i := 4) sc_law_inner.nd rfl (by first | exact Or.inl rfl | exact Or.inr rfl) (pe_lst pa_nil))
  (pss_cons (ps_for PassesOwn.never rfl (pi_enum (by rfl) B.enumerate (pa_cons (pv 0) pa_nil)) (pg_tup rfl (pgs_cons (pg_name (i := 5) sc_law_inner.nd rfl (by first | exact Or.inl rfl | exact Or.inr rfl)) (pgs_cons (pg_tup rfl (pgs_cons (pg_name (i := 6) sc_law_inner.nd rfl (by first | exact Or.inl rfl | exact Or.inr rfl)) (pgs_cons (pg_name (i := 7) sc_law_inner.nd rfl (by first | exact Or.inl rfl | exact Or.inr rfl)) pgs_nil))) pgs_nil)))
    (pss_cons (ps_set (i := 8) sc_law_inner.nd rfl (by first | exact Or.inl rfl | exact Or.inr rfl) (pe_and (pe_cmpR op_in_seq (pv 6) (pv 1) (by rfl)) (pe_one (pe_cmpR op_ne (pv 6) (pv 3) (nomark _)))))
  (pss_cons (ps_set (i := 9) sc_law_inner.nd rfl (by first | exact Or.inl rfl | exact Or.inr rfl) (pe_and (pe_cmpR op_in_seq (pv 7) (pv 1) (by rfl)) (pe_one (pe_cmpR op_ne (pv 7) (pv 2) (nomark _)))))
  (pss_cons (ps_if (pt_cmpR op_ne (pv 8) (pv 9) (nomark _))
    (pss_one (ps_ret pe_non)) pss_nil)
  (pss_one (ps_if (pt_val (pv 8))
    (pss_one (ps_expr (pe_bm PySem.F.plainAttrs_list PySem.F.slot_list_append PySem.F.type_list_append mt_append (pv 4) (pa_cons (pv 5) pa_nil)))) pss_nil))))))
  (pss_cons (ps_for PassesOwn.never rfl (pi_list (pv 1)) (pg_name (i := 10) sc_law_inner.nd rfl (by first | exact Or.inl rfl | exact Or.inr rfl))
    (pss_cons (ps_set (i := 11) sc_law_inner.nd rfl (by first | exact Or.inl rfl | exact Or.inr rfl) (pe_call O_law_come_to hr rfl m_law_come_to k_law_come_to b_law_come_to .nil pass0 (pa_cons (pv 0) (pa_cons (pv 4) (pa_cons (pv 10) pa_nil)))))
  (pss_cons (ps_if (PW.pt (pw_or (pt_cmpR op_notIn_seq (pv 3) (pv 11) (by rfl)) (pw_or1 (pt_cmpR op_notIn_seq (pv 10) (pe_call O_law_come_to hr rfl m_law_come_to k_law_come_to b_law_come_to .nil pass0 (pa_cons (pv 0) (pa_cons (pv 4) (pa_cons (pv 2) pa_nil)))) (by rfl)))))
    (pss_one (ps_ret pe_non)) pss_nil)
  (pss_one (ps_for PassesOwn.never rfl (pi_list (pv 4)) (pg_name (i := 5) sc_law_inner.nd rfl (by first | exact Or.inl rfl | exact Or.inr rfl))
    (pss_one (ps_if (PW.pt (pw_and (pt_cmpR op_eq (pe_ix ix_tup (pe_ix ix_list (pv 0) (pv 5) (fun _ _ => rfl)) pe_int (fun _ _ => rfl)) (pv 10) (nomark _)) (pw_and1 (pt_cmpR op_in_seq (pv 10) (pe_call O_law_come_to hr rfl m_law_come_to k_law_come_to b_law_come_to .nil pass0 (pa_cons (pv 0) (pa_cons (pv 4) (pa_cons (pe_ix ix_tup (pe_ix ix_list (pv 0) (pv 5) (fun _ _ => rfl)) pe_int (fun _ _ => rfl)) pa_nil)))) (by rfl)))))
    (pss_one (ps_ret pe_non)) pss_nil)))))))
  (pss_one (ps_ret (pv 4)))))), ?_⟩
  obtain ⟨tas, htl, hP⟩ := id hT
  have htas := paired_len hP
  refine ⟨Nat.zero_le _, fun D nD => ?_⟩
  have S1 := same_new nD (.lst [])
  have eD : upd H D (.lst []) D = some (.lst []) := upd_same
  generalize upd H D (.lst []) = H1 at S1 eD ⊢
  refine ⟨_, rfl, l, _, rfl, SqL.of (S1 _ _ htl), ?_⟩
  refine for_it (walk_enum (K := K) (a := l) (xs := tas.map V.ref)) (fun i σ H' => Same H H' ∧ H' D = some (.lst (iv ((List.range i).filter (goesB ts L e)))) ∧ (∀ t, t < i → goesB ts L e t = comesB ts L b t) ∧ ∃ v5 v6 v7 v8 v9 : Option V, σ = [some (.ref l), some (.ref ol), some (.int (b : Int)), some (.int (e : Int)), some (.ref D), v5, v6, v7, v8, v9, none, none]) ⟨S1, eD, (fun t ht => absurd ht (Nat.not_lt_zero _)), none, none, none, none, none, rfl⟩ (fun i σ H' hi ⟨z, _⟩ => SqL.of (z _ _ htl)) ?_ ?_
  · rintro i x σ H2 H3 hi ⟨S2, hD2, hgc, v5, v6, v7, v8, v9, rfl⟩ ⟨T0, x1, x2, rfl, nT0, rfl, e1, e2⟩
    cases e1
    rw [List.length_map] at hi
    replace e2 : (tas.map V.ref)[i]? = some x2 := e2
    rw [List.getElem?_map, List.getElem?_eq_getElem hi] at e2
    cases e2
    obtain ⟨uv, he, hpe⟩ := paired_get hP (List.getElem?_eq_getElem hi)
    have hu : nearT ts i = uv.1 := by unfold nearT; rw [he]; rfl
    have hv : farT ts i = uv.2 := by unfold farT; rw [he]; rfl
    have S3 := same_new nT0 (.tup [V.int (i : Int), V.ref tas[i]])
    have hT3 : upd H2 T0 (.tup [V.int (i : Int), V.ref tas[i]]) T0 = some (.tup [V.int (i : Int), V.ref tas[i]]) := upd_same
    have hD3 := S3 _ _ hD2
    have S03 := S2.trans S3
    have hp3 := S03 _ _ hpe
    have hL3 := S03 _ _ hL
    generalize upd H2 T0 (.tup [V.int (i : Int), V.ref tas[i]]) = H3 at S3 hT3 hD3 S03 hp3 hL3 ⊢
    refine ⟨T0, _, rfl, SqT.of hT3, rfl, _, _, rfl, _, _, rfl, tas[i], _, rfl, SqT.of hp3, rfl, _, _, rfl, _, _, rfl, rfl, rfl, ?_⟩
    refine ⟨_, rfl, _, rfl, ol, iv L, rfl, .inl (SqL.of hL3), rfl, flat_iv L, _, rfl, andV (fun k' q' => ⟨_, rfl, _, rfl, rfl, q'⟩) ?_⟩
    rw [goes_eq, ← hu]
    refine ⟨_, rfl, _, rfl, ol, iv L, rfl, .inl (SqL.of hL3), rfl, flat_iv L, _, rfl, andV (fun k' q' => ⟨_, rfl, _, rfl, rfl, q'⟩) ?_⟩
    rw [goes_eq, ← hv]
    generalize hg : decide (nearT ts i ∈ L ∧ nearT ts i ≠ e) = g
    generalize hc : decide (farT ts i ∈ L ∧ farT ts i ≠ b) = c
    have hits : i < ts.length := by omega
    refine ⟨_, rfl, _, rfl, rfl, _, rfl, ?_⟩
    by_cases d : g = c
    · refine iteNot' (by rw [d]) ⟨_, rfl, _, rfl, ?_⟩
      have hgc' : ∀ t, t < i + 1 → goesB ts L e t = comesB ts L b t := fun t ht => by
        by_cases z : t = i
        · subst z
          show decide _ = decide _
          rw [hg, hc, d]
        · exact hgc t (by omega)
      cases g with
      | true =>
        refine iteT ⟨_, rfl, .inl ⟨rfl, _, SqL.of hD3⟩, _, rfl, D, _, _, rfl, rfl, hD3, ?_, same_upd S03 nD, ?_, hgc', _, _, _, _, _, rfl⟩
        · rw [List.length_map]
          have := List.length_filter_le (goesB ts L e) (List.range i)
          rw [List.length_range] at this
          exact line200 (by omega)
        · rw [upd_same, range_filter_succ, if_pos (show goesB ts L e i = true from hg), iv_app]
      | false =>
        refine iteF ⟨S03, ?_, hgc', _, _, _, _, _, rfl⟩
        rw [range_filter_succ, if_neg (by rw [show goesB ts L e i = false from hg]; exact Bool.false_ne_true), List.append_nil]
        exact hD3
    · refine iteNot (fun z => d (by injection z)) (qN (fun S => d ?_) _ S03)
      rw [← hg, ← hc]
      exact decide_eq_decide.mpr (S.1 i hits)
  · rintro σ H2 ⟨S2, hD2, hgc, v5, v6, v7, v8, v9, rfl⟩
    rw [List.length_map, htas] at hD2 hgc
    have hc1 : Cond1 ts L b e := fun t ht => decide_eq_decide.mp (hgc t ht)
    replace hD2 : H2 D = some (.lst (iv (innB ts L e))) := hD2
    have hIt : ∀ t ∈ innB ts L e, t < ts.length := fun t ht => (innB_mem.mp ht).1
    have hf : FarOk N ts := fun t h => (far_lt ho h).2
    refine ⟨_, rfl, ol, rfl, ⟨_, SqL.of (S2 _ _ hL)⟩, ?_⟩
    refine for_list (K := K) (a := ol) (xs := iv L) (fun j σ H' => Same H H' ∧ H' D = some (.lst (iv (innB ts L e))) ∧ (∀ x ∈ L.take j, Cond3 ts L b e x) ∧ ∃ v5 v6 v7 v8 v9 v10 v11 : Option V, σ = [some (.ref l), some (.ref ol), some (.int (b : Int)), some (.int (e : Int)), some (.ref D), v5, v6, v7, v8, v9, v10, v11]) ⟨S2, hD2, (fun x hx => nomatch hx), _, _, _, _, _, _, _, rfl⟩ (fun i σ H' _ ⟨z, _⟩ => SqL.of (z _ _ hL)) ?_ ?_
    · rintro j v σ H3 hv ⟨S3, hD3, h3, v5, v6, v7, v8, v9, v10, v11, rfl⟩
      obtain ⟨x, hx, rfl⟩ := iv_of hv
      have hxL := List.mem_of_getElem? hx
      have hxN := hLN x hxL
      refine ⟨_, rfl, _, rfl, _, rfl, l, D, N, ts, innB ts L e, x, rfl, hT.same S3, hD3, ho, hN, hxN, hIt, fun H4 m M S4 nm hm4 hMl hM => ?_⟩
      have S04 := S3.trans S4
      have hD4 := S4 _ _ hD3
      refine ⟨_, rfl, _, rfl, m, iv M, rfl, .inl (SqL.of hm4), rfl, flat_iv M, _, rfl, ?_⟩
      rw [notin_iv]
      by_cases he : e ∈ M
      · refine iteNot' he ⟨_, rfl, _, rfl, _, rfl, _, rfl, l, D, N, ts, innB ts L e, b, rfl, hT.same S04, hD4, ho, hN, hb, hIt, fun H5 m2 M2 S5 nm2 hm5 hMl2 hM2 => ⟨m2, iv M2, rfl, .inl (SqL.of hm5), rfl, flat_iv M2, _, rfl, ?_⟩⟩
        rw [notin_iv]
        have S05 := S04.trans S5
        have hD5 := S5 _ _ hD4
        by_cases hx2 : x ∈ M2
        · refine iteNot' hx2 ?_
          refine ⟨_, rfl, D, rfl, ⟨_, SqL.of hD5⟩, ?_⟩
          refine for_list (K := K) (a := D) (xs := iv (innB ts L e)) (fun k σ H' => Same H5 H' ∧ (∀ t ∈ (innB ts L e).take k, nearT ts t = x → ¬ Rc ts (InnT ts L e) (farT ts t) x) ∧ ∃ v5 : Option V, σ = [some (.ref l), some (.ref ol), some (.int (b : Int)), some (.int (e : Int)), some (.ref D), v5, v6, v7, v8, v9, some (.int (x : Int)), some (.ref m)]) ⟨(fun _ _ z => z), (fun t ht => nomatch ht), _, rfl⟩ (fun i σ H' _ ⟨z, _⟩ => SqL.of (z _ _ hD5)) ?_ ?_
          · rintro k v σ H6 hv ⟨S6, h6, v5, rfl⟩
            obtain ⟨t, htk, rfl⟩ := iv_of hv
            have htI := List.mem_of_getElem? htk
            have htl := hIt t htI
            have S06 := S05.trans S6
            have hD6 := S6 _ _ hD5
            obtain ⟨xs, q3, e1, e2, e3⟩ := tie_at (hT.same S06) htl
            refine ⟨_, rfl, _, rfl, _, _, _, .ref q3, rfl, rfl, SqL.of e1, e2, _, _, _, .int ((nearT ts t : Nat) : Int), rfl, rfl, SqT.of e3, atI_nat (j := 0) rfl, _, rfl, rfl, _, rfl, ?_⟩
            by_cases c : nearT ts t = x
            · refine iteYes (by rw [c]) ?_
              refine ⟨_, rfl, _, rfl, _, rfl, _, rfl, _, rfl, _, _, _, .ref q3, rfl, rfl, SqL.of e1, e2, _, _, _, .int ((farT ts t : Nat) : Int), rfl, rfl, SqT.of e3, atI_nat (j := 1) rfl, l, D, N, ts, innB ts L e, farT ts t, rfl, hT.same S06, hD6, ho, hN, hf t htl, hIt, fun H7 m3 M3 S7 nm3 hm7 hMl3 hM3 => ⟨m3, iv M3, rfl, .inl (SqL.of hm7), rfl, flat_iv M3, _, rfl, ?_⟩⟩
              rw [in_iv]
              by_cases d : x ∈ M3
              · refine iteYes d (qN (fun S => (S.2 x hxL).2.2 t htI c (Rc_inn.mp ((hM3 x).mp d))) _ (S06.trans S7))
              · refine iteNo d ⟨S6.trans S7, fun u hu => ?_, _, rfl⟩
                rw [take_one' htk] at hu
                rcases List.mem_append.mp hu with z | z
                · exact h6 u z
                · rw [List.mem_singleton.mp z]
                  exact fun _ r => d ((hM3 x).mpr (Rc_inn.mpr r))
            · refine iteNo (fun z => c (by have := int_eq.mp z; omega)) (iteF ⟨S6, fun u hu => ?_, _, rfl⟩)
              rw [take_one' htk] at hu
              rcases List.mem_append.mp hu with z | z
              · exact h6 u z
              · rw [List.mem_singleton.mp z]
                exact fun z => absurd z c
          · rintro σ H6 ⟨S6, h6, v5, rfl⟩
            rw [List.length_map, List.take_length] at h6
            refine ⟨S05.trans S6, S6 _ _ hD5, fun y hy => ?_, _, _, _, _, _, _, _, rfl⟩
            rw [take_one' hx] at hy
            rcases List.mem_append.mp hy with z | z
            · exact h3 y z
            · rw [List.mem_singleton.mp z]
              exact ⟨Rc_inn.mp ((hM e).mp he), Rc_inn.mp ((hM2 x).mp hx2), h6⟩
        · exact iteNot hx2 (qN (fun S => hx2 ((hM2 x).mpr (Rc_inn.mpr (S.2 x hxL).2.1))) _ S05)
      · exact iteNot he (iteT (qN (fun S => he ((hM e).mpr (Rc_inn.mpr (S.2 x hxL).1))) _ S04))
    · rintro σ H3 ⟨S3, hD3, h3, v5, v6, v7, v8, v9, v10, v11, rfl⟩
      rw [List.length_map, List.take_length] at h3
      exact ⟨_, rfl, qS ⟨hc1, h3⟩ _ D S3 nD hD3⟩
end
end My
namespace My
/-! ### parts by two searches in depth -/
theorem rch_refl {E : Nat → Nat → Prop} (u : Nat) : Rch E u u := ⟨0, .nil u⟩
theorem rch_trans {E : Nat → Nat → Prop} {u v w : Nat} (a : Rch E u v) (b : Rch E v w) : Rch E u w := by
  obtain ⟨j, a⟩ := a
  obtain ⟨k, b⟩ := b
  exact ⟨j + k, wk_append a b⟩
theorem rch_one {E : Nat → Nat → Prop} {u v : Nat} (a : E u v) : Rch E u v := ⟨1, .snoc (.nil u) a⟩
theorem rch_closed {E : Nat → Nat → Prop} {S : Nat → Prop} (h : ∀ u v, S u → E u v → S v) {u v : Nat} (hu : S u) (r : Rch E u v) : S v := by
  obtain ⟨k, r⟩ := r
  induction r with
  | nil => exact hu
  | snoc _ e ih => exact h _ _ (ih hu) e
theorem rch_flip {E : Nat → Nat → Prop} {u v : Nat} (r : Rch E u v) : Rch (fun a b => E b a) v u := by
  obtain ⟨k, r⟩ := r
  induction r with
  | nil => exact rch_refl _
  | snoc _ e ih => exact rch_trans (rch_one e) (ih)
/-- walking from inside a lot to outside of it, one leaves it somewhere -/
theorem rch_leave {E : Nat → Nat → Prop} {S : Nat → Prop} {u v : Nat} (hu : S u) (hv : ¬ S v) (r : Rch E u v) : ∃ x y, S x ∧ ¬ S y ∧ E x y ∧ Rch E u x ∧ Rch E y v := by
  obtain ⟨k, r⟩ := r
  induction r with
  | nil => exact absurd hu hv
  | @snoc k u x v a e ih =>
    by_cases c : S x
    · exact ⟨x, v, c, hv, e, ⟨_, a⟩, rch_refl v⟩
    · obtain ⟨x', y', h1, h2, h3, h4, h5⟩ := ih hu c
      exact ⟨x', y', h1, h2, h3, h4, rch_trans h5 (rch_one e)⟩
/-- a search in depth: what it left, its trail -/
structure Dfs (adj : Nat → List Nat) (p0 : Nat) (S0 seen : Nat → Prop) (left : List Nat) (tr : List (Nat × Nat)) : Prop where
  nd : (left ++ tr.map Prod.fst).Nodup
  iff_ : ∀ x, seen x ↔ S0 x ∨ x ∈ left ∨ x ∈ tr.map Prod.fst
  new : ∀ x, x ∈ left ∨ x ∈ tr.map Prod.fst → ¬ S0 x
  fin : ∀ x ∈ left, ∀ y ∈ adj x, seen y
  frm : ∀ f ∈ tr, ∀ y ∈ (adj f.1).take f.2, seen y
  chain : (tr.map Prod.fst).Pairwise fun a b => Rch (fun u v => v ∈ adj u) a b
  ok : ∀ x, x ∈ left ∨ x ∈ tr.map Prod.fst → Rch (fun u v => v ∈ adj u) p0 x
  mem : p0 ∈ left ∨ p0 ∈ tr.map Prod.fst
  star : ∀ A q B, left = A ++ q :: B → ∀ p, Rch (fun u v => v ∈ adj u) q p → S0 p ∨ p ∈ A ∨ p = q ∨ ∃ y, (y ∈ B ∨ y ∈ tr.map Prod.fst) ∧ Rch (fun u v => v ∈ adj u) q y ∧ Rch (fun u v => v ∈ adj u) y q ∧ Rch (fun u v => v ∈ adj u) y p
section
variable {adj : Nat → List Nat} {p0 : Nat} {S0 seen : Nat → Prop} {left : List Nat} {tr : List (Nat × Nat)} {x i : Nat}
theorem dfs_start (h : ¬ S0 p0) (hs : ∀ x, seen x ↔ S0 x ∨ x = p0) : Dfs adj p0 S0 seen [] [(p0, 0)] where
  nd := by simp
  iff_ := fun x => by rw [hs]; simp
  new := fun x hx => by
    rcases hx with z | z
    · cases z
    · have : x = p0 := by simpa using z
      rw [this]; exact h
  fin := fun x hx => by cases hx
  frm := fun f hf y hy => by
    have : f = (p0, 0) := by simpa using hf
    subst this
    simp at hy
  chain := by simp
  ok := fun x hx => by
    rcases hx with z | z
    · cases z
    · have : x = p0 := by simpa using z
      rw [this]; exact rch_refl _
  mem := .inr (by simp)
  star := fun A q B e => by simp at e
/-- the next one was seen -/
theorem dfs_old (h : Dfs adj p0 S0 seen left (tr ++ [(x, i)])) {y : Nat} (hy : (adj x)[i]? = some y) (hs : seen y) : Dfs adj p0 S0 seen left (tr ++ [(x, i + 1)]) := by
  have e : (tr ++ [(x, i + 1)]).map Prod.fst = (tr ++ [(x, i)]).map Prod.fst := by simp
  refine ⟨e ▸ h.nd, fun z => by rw [e]; exact h.iff_ z, fun z => by rw [e]; exact h.new z, h.fin, fun f hf z hz => ?_, by rw [e]; exact h.chain, fun z => by rw [e]; exact h.ok z, by rw [e]; exact h.mem, by rw [e]; exact h.star⟩
  rcases List.mem_append.mp hf with c | c
  · exact h.frm f (List.mem_append_left _ c) z hz
  · have : f = (x, i + 1) := by simpa using c
    subst this
    rw [show (adj x).take (i + 1) = (adj x).take i ++ [y] by rw [List.take_succ, hy]; rfl] at hz
    rcases List.mem_append.mp hz with c | c
    · exact h.frm (x, i) (List.mem_append_right _ (by simp)) z c
    · rw [List.mem_singleton.mp c]; exact hs
/-- the next one is new -/
theorem dfs_new (h : Dfs adj p0 S0 seen left (tr ++ [(x, i)])) {y : Nat} (hy : (adj x)[i]? = some y) (hs : ¬ seen y) {seen' : Nat → Prop} (hs' : ∀ z, seen' z ↔ seen z ∨ z = y) : Dfs adj p0 S0 seen' left (tr ++ [(x, i + 1)] ++ [(y, 0)]) := by
  have e : (tr ++ [(x, i + 1)] ++ [(y, 0)]).map Prod.fst = (tr ++ [(x, i)]).map Prod.fst ++ [y] := by simp
  have hn := (not_congr (h.iff_ y)).mp hs
  have hxy : y ∈ adj x := List.mem_of_getElem? hy
  have hxt : x ∈ (tr ++ [(x, i)]).map Prod.fst := by simp
  refine ⟨?_, fun z => ?_, fun z hz => ?_, fun z hz w hw => (hs' w).mpr (.inl (h.fin z hz w hw)), fun f hf z hz => ?_, ?_, fun z hz => ?_, ?_, fun A q B el p hp => ?_⟩
  · rw [e, ← List.append_assoc, List.nodup_append]
    refine ⟨h.nd, by simp, fun a ha b hb => ?_⟩
    rw [List.mem_singleton.mp hb]
    rintro rfl
    rcases List.mem_append.mp ha with c | c
    · exact hn (.inr (.inl c))
    · exact hn (.inr (.inr c))
  · rw [hs', h.iff_, e, List.mem_append, List.mem_singleton]
    constructor
    · rintro ((a | a | a) | a)
      · exact .inl a
      · exact .inr (.inl a)
      · exact .inr (.inr (.inl a))
      · exact .inr (.inr (.inr a))
    · rintro (a | a | a | a)
      · exact .inl (.inl a)
      · exact .inl (.inr (.inl a))
      · exact .inl (.inr (.inr a))
      · exact .inr a
  · rw [e, List.mem_append, List.mem_singleton] at hz
    rcases hz with c | c | c
    · exact h.new z (.inl c)
    · exact h.new z (.inr c)
    · rw [c]; exact fun q => hn (.inl q)
  · rcases List.mem_append.mp hf with c | c
    · rcases List.mem_append.mp c with c | c
      · exact (hs' z).mpr (.inl (h.frm f (List.mem_append_left _ c) z hz))
      · have : f = (x, i + 1) := by simpa using c
        subst this
        rw [show (adj x).take (i + 1) = (adj x).take i ++ [y] by rw [List.take_succ, hy]; rfl] at hz
        rcases List.mem_append.mp hz with c | c
        · exact (hs' z).mpr (.inl (h.frm (x, i) (List.mem_append_right _ (by simp)) z c))
        · exact (hs' z).mpr (.inr (List.mem_singleton.mp c))
    · have : f = (y, 0) := by simpa using c
      subst this
      simp at hz
  · rw [e, List.pairwise_append]
    refine ⟨h.chain, by simp, fun a ha b hb => ?_⟩
    rw [List.mem_singleton.mp hb]
    rw [List.map_append, List.mem_append] at ha
    have hc := h.chain
    rw [List.map_append, List.pairwise_append] at hc
    rcases ha with c | c
    · exact rch_trans (hc.2.2 a c x (by simp)) (rch_one hxy)
    · have : a = x := by simpa using c
      rw [this]
      exact rch_one hxy
  · rw [e, List.mem_append, List.mem_singleton] at hz
    rcases hz with c | c | c
    · exact h.ok z (.inl c)
    · exact h.ok z (.inr c)
    · rw [c]; exact rch_trans (h.ok x (.inr hxt)) (rch_one hxy)
  · rw [e, List.mem_append]
    rcases h.mem with c | c
    · exact .inl c
    · exact .inr (.inl c)
  · rcases h.star A q B el p hp with a | a | a | ⟨z, hz, r⟩
    · exact .inl a
    · exact .inr (.inl a)
    · exact .inr (.inr (.inl a))
    · refine .inr (.inr (.inr ⟨z, ?_, r⟩))
      rw [e, List.mem_append]
      rcases hz with c | c
      · exact .inl c
      · exact .inr (.inl c)
/-- the last one of the trail is left -/
theorem dfs_leave (h : Dfs adj p0 S0 seen left (tr ++ [(x, i)])) (hi : (adj x).length ≤ i) (hS : ∀ u v, S0 u → v ∈ adj u → S0 v) : Dfs adj p0 S0 seen (left ++ [x]) tr := by
  have em : (tr ++ [(x, i)]).map Prod.fst = tr.map Prod.fst ++ [x] := by simp
  have hfx : ∀ y ∈ adj x, seen y := fun y hy => h.frm (x, i) (List.mem_append_right _ (by simp)) y (by rw [List.take_of_length_le hi]; exact hy)
  have hx0 : ¬ S0 x := h.new x (.inr (by simp))
  have hnd := h.nd
  rw [em] at hnd
  have perm : (left ++ (tr.map Prod.fst ++ [x])).Perm (left ++ [x] ++ tr.map Prod.fst) := by
    rw [List.append_assoc]
    exact List.Perm.append_left left List.perm_append_comm
  have mm : ∀ z, (z ∈ left ++ [x] ∨ z ∈ tr.map Prod.fst) ↔ (z ∈ left ∨ z ∈ (tr ++ [(x, i)]).map Prod.fst) := fun z => by
    rw [em, List.mem_append, List.mem_append, List.mem_singleton]
    constructor
    · rintro ((a | a) | a)
      · exact .inl a
      · exact .inr (.inr a)
      · exact .inr (.inl a)
    · rintro (a | a | a)
      · exact .inl (.inl a)
      · exact .inr a
      · exact .inl (.inr a)
  have hch := h.chain
  rw [em, List.pairwise_append] at hch
  have finAll : ∀ z, z ∈ left ++ [x] → ∀ y ∈ adj z, seen y := fun z hz => by
    rcases List.mem_append.mp hz with c | c
    · exact h.fin z c
    · rw [List.mem_singleton.mp c]; exact hfx
  refine ⟨perm.nodup_iff.mp hnd, fun z => by rw [h.iff_, mm], fun z hz => h.new z ((mm z).mp hz), finAll, fun f hf => h.frm f (List.mem_append_left _ hf), hch.1, fun z hz => h.ok z ((mm z).mp hz), (mm _).mpr h.mem, fun A q B el p hp => ?_⟩
  rcases List.eq_nil_or_concat B with rfl | ⟨B', b, rfl⟩
  · -- the one just left
    have el2 : left ++ [x] = A ++ [q] := el
    obtain ⟨rfl, hq⟩ := List.append_inj' el2 rfl
    have hq : x = q := by simpa using hq
    subst hq
    by_cases c0 : S0 p ∨ p ∈ left ∨ p = x
    · rcases c0 with a | a | a
      · exact .inl a
      · exact .inr (.inl a)
      · exact .inr (.inr (.inl a))
    · obtain ⟨u, y, hu, hy, huy, r1, r2⟩ := rch_leave (S := fun z => S0 z ∨ z ∈ left ∨ z = x) (.inr (.inr rfl)) c0 hp
      have hsy : seen y := by
        rcases hu with a | a | a
        · exact absurd (.inl (hS _ _ a huy)) hy
        · exact h.fin u a y huy
        · rw [a] at huy; exact hfx y huy
      have hty : y ∈ tr.map Prod.fst := by
        rcases (h.iff_ y).mp hsy with a | a | a
        · exact absurd (.inl a) hy
        · exact absurd (.inr (.inl a)) hy
        · rw [em, List.mem_append, List.mem_singleton] at a
          rcases a with a | a
          · exact a
          · exact absurd (.inr (.inr a)) hy
      exact .inr (.inr (.inr ⟨y, .inr hty, rch_trans r1 (rch_one huy), hch.2.2 y hty x (by simp), r2⟩))
  · rw [List.concat_eq_append] at el ⊢
    have el2 : left ++ [x] = (A ++ q :: B') ++ [b] := by rw [el]; simp
    obtain ⟨rfl, hb⟩ := List.append_inj' el2 rfl
    have hb : x = b := by simpa using hb
    subst hb
    rcases h.star A q B' rfl p hp with a | a | a | ⟨z, hz, r⟩
    · exact .inl a
    · exact .inr (.inl a)
    · exact .inr (.inr (.inl a))
    · refine .inr (.inr (.inr ⟨z, ?_, r⟩))
      rw [em, List.mem_append, List.mem_singleton] at hz
      rcases hz with c | c | c
      · exact .inl (List.mem_append_left _ c)
      · exact .inr c
      · exact .inl (List.mem_append_right _ (by rw [c]; simp))
/-- at the end -/
theorem dfs_end (h : Dfs adj p0 S0 seen left []) (hS : ∀ u v, S0 u → v ∈ adj u → S0 v) :
    left.Nodup ∧ (∀ x, seen x ↔ S0 x ∨ x ∈ left) ∧ (∀ x, x ∈ left ↔ Rch (fun u v => v ∈ adj u) p0 x ∧ ¬ S0 x) ∧ (∀ u v, seen u → v ∈ adj u → seen v) ∧
      ∀ A q B, left = A ++ q :: B → ∀ p, Rch (fun u v => v ∈ adj u) q p → S0 p ∨ p ∈ A ∨ p = q ∨ ∃ y ∈ B, Rch (fun u v => v ∈ adj u) q y ∧ Rch (fun u v => v ∈ adj u) y q ∧ Rch (fun u v => v ∈ adj u) y p := by
  have hs : ∀ x, seen x ↔ S0 x ∨ x ∈ left := fun x => by rw [h.iff_]; simp
  have hcl : ∀ u v, seen u → v ∈ adj u → seen v := fun u v hu hv => by
    rcases (hs u).mp hu with a | a
    · exact (hs v).mpr (.inl (hS u v a hv))
    · exact h.fin u a v hv
  have hp0 : p0 ∈ left := by
    rcases h.mem with a | a
    · exact a
    · simp at a
  refine ⟨by simpa using h.nd, hs, fun x => ⟨fun hx => ⟨h.ok x (.inl hx), h.new x (.inl hx)⟩, fun ⟨r, hn⟩ => ?_⟩, hcl, fun A q B el p hp => ?_⟩
  · have := rch_closed hcl ((hs p0).mpr (.inr hp0)) r
    rcases (hs x).mp this with a | a
    · exact absurd a hn
    · exact a
  · rcases h.star A q B el p hp with a | a | a | ⟨z, hz, r⟩
    · exact .inl a
    · exact .inr (.inl a)
    · exact .inr (.inr (.inl a))
    · rcases hz with c | c
      · exact .inr (.inr (.inr ⟨z, c, r⟩))
      · simp at c
end
/-! ### the measure of a search -/
/-- steps that are still to be made: for points not seen, and for the trail -/
def todo (adj : Nat → List Nat) (seen : List Bool) : Nat → Nat
  | 0 => 0
  | n + 1 => todo adj seen n + (if seen[n]? = some false then (adj n).length + 2 else 0)
def owed (adj : Nat → List Nat) : List (Nat × Nat) → Nat
  | [] => 0
  | f :: r => ((adj f.1).length - f.2 + 1) + owed adj r
theorem owed_app (adj : Nat → List Nat) : ∀ a b : List (Nat × Nat), owed adj (a ++ b) = owed adj a + owed adj b
  | [], b => by simp [owed]
  | f :: r, b => by
    show _ + owed adj (r ++ b) = _ + owed adj r + owed adj b
    rw [owed_app adj r b]
    omega
theorem todo_set (adj : Nat → List Nat) {seen : List Bool} {y : Nat} (h : seen[y]? = some false) : ∀ n, todo adj (seen.set y true) n + (if y < n then (adj y).length + 2 else 0) = todo adj seen n
  | 0 => by simp [todo]
  | n + 1 => by
    have ih := todo_set adj h n
    show (todo adj (seen.set y true) n + (if (seen.set y true)[n]? = some false then (adj n).length + 2 else 0)) + _ = todo adj seen n + (if seen[n]? = some false then (adj n).length + 2 else 0)
    by_cases c : y = n
    · subst c
      have hl : y < seen.length := (List.getElem?_eq_some_iff.mp h).1
      have e1 : (seen.set y true)[y]? = some true := by simp [hl]
      rw [e1, h, if_pos (show y < y + 1 by omega), if_pos (show some false = some false from rfl), if_neg (show ¬ (some true = some false) by simp)]
      rw [if_neg (show ¬ y < y by omega)] at ih
      omega
    · have e1 : (seen.set y true)[n]? = seen[n]? := by rw [List.getElem?_set_ne c]
      rw [e1]
      by_cases d : y < n
      · rw [if_pos (show y < n + 1 by omega)]
        rw [if_pos d] at ih
        omega
      · rw [if_neg (show ¬ y < n + 1 by omega)]
        rw [if_neg d] at ih
        omega
end My
namespace My
open PySem L2 PyProof.Rows
def outN (ts : List (Nat × Nat)) (W : List Nat) (u : Nat) : Nat → List Nat
  | 0 => []
  | i + 1 => match ts[i]? with
    | some e => if e.1 = u ∧ i ∉ W then outN ts W u i ++ [e.2] else outN ts W u i
    | none => outN ts W u i
theorem outN_len (ts : List (Nat × Nat)) (W : List Nat) (u : Nat) : ∀ i, (outN ts W u i).length ≤ i
  | 0 => by simp [outN]
  | i + 1 => by
    have := outN_len ts W u i
    unfold outN
    split
    · split
      · simp; omega
      · omega
    · omega
theorem outN_mem (ts : List (Nat × Nat)) (W : List Nat) (u v : Nat) : ∀ i, v ∈ outN ts W u i ↔ ∃ j, j < i ∧ ts[j]? = some (u, v) ∧ j ∉ W
  | 0 => by simp [outN]
  | i + 1 => by
    have ih := outN_mem ts W u v i
    have lift : (∃ j, j < i ∧ ts[j]? = some (u, v) ∧ j ∉ W) → ∃ j, j < i + 1 ∧ ts[j]? = some (u, v) ∧ j ∉ W := fun ⟨j, h1, h2⟩ => ⟨j, by omega, h2⟩
    unfold outN
    split
    · rename_i e he
      split
      · rename_i c
        rw [List.mem_append, ih, List.mem_singleton]
        constructor
        · rintro (h | rfl)
          · exact lift h
          · exact ⟨i, by omega, by rw [he, ← c.1], c.2⟩
        · rintro ⟨j, h1, h2, h3⟩
          by_cases z : j = i
          · subst z
            rw [he] at h2
            right
            rw [Option.some.inj h2]
          · exact .inl ⟨j, by omega, h2, h3⟩
      · rename_i c
        rw [ih]
        refine ⟨lift, ?_⟩
        rintro ⟨j, h1, h2, h3⟩
        by_cases z : j = i
        · subst z
          rw [he] at h2
          refine absurd ⟨?_, h3⟩ c
          rw [Option.some.inj h2]
        · exact ⟨j, by omega, h2, h3⟩
    · rename_i he
      rw [ih]
      refine ⟨lift, ?_⟩
      rintro ⟨j, h1, h2, h3⟩
      by_cases z : j = i
      · subst z
        rw [he] at h2
        cases h2
      · exact ⟨j, by omega, h2, h3⟩
abbrev outs (ts : List (Nat × Nat)) (W : List Nat) (u : Nat) : List Nat := outN ts W u ts.length
theorem outs_mem {ts : List (Nat × Nat)} {W : List Nat} {u v : Nat} : v ∈ outs ts W u ↔ Edge ts W u v := by
  rw [outs, outN_mem]
  constructor
  · rintro ⟨j, _, h⟩
    exact ⟨j, h⟩
  · rintro ⟨j, h⟩
    exact ⟨j, (List.getElem?_eq_some_iff.mp h.1).1, h⟩
/-- the booleans that tell what was seen -/
abbrev bv (L : List Bool) : List V := L.map V.bl
abbrev Got (L : List Bool) (x : Nat) : Prop := L[x]? = some true
structure LfOk (adj : Nat → List Nat) (N : Nat) : Prop where
  n1 : N ≤ 60
  lt : ∀ u, ∀ v ∈ adj u, v < N
  sz : ∀ u, (adj u).length ≤ 80
structure LfRes (adj : Nat → List Nat) (N p : Nat) (S S' : List Bool) (L : List Nat) : Prop where
  nd : L.Nodup
  ln : S'.length = N
  lt : ∀ x ∈ L, x < N
  got : ∀ x, Got S' x ↔ Got S x ∨ x ∈ L
  mem : ∀ x, x ∈ L ↔ Rch (fun u v => v ∈ adj u) p x ∧ ¬ Got S x
  cl : ∀ u v, Got S' u → v ∈ adj u → Got S' v
  star : ∀ A q B, L = A ++ q :: B → ∀ x, Rch (fun u v => v ∈ adj u) q x → Got S x ∨ x ∈ A ∨ x = q ∨ ∃ y ∈ B, Rch (fun u v => v ∈ adj u) q y ∧ Rch (fun u v => v ∈ adj u) y q ∧ Rch (fun u v => v ∈ adj u) y x
theorem paired_end1 {α β : Type} {F : α → β → Prop} : ∀ {l1 : List α} {l2 : List β} {b : β}, Paired F l1 (l2 ++ [b]) → ∃ m a, l1 = m ++ [a] ∧ Paired F m l2 ∧ F a b
  | _, [], _, .cons r .nil => ⟨[], _, rfl, .nil, r⟩
  | _, _ :: l2, b, .cons r t => by
    obtain ⟨m, a, e, h1, h2⟩ := paired_end1 (l2 := l2) t
    exact ⟨_ :: m, a, by rw [e]; rfl, .cons r h1, h2⟩
theorem TiesAt.pop {H : Hp} {l : Addr} {tr : List (Nat × Nat)} {f : Nat × Nat} (h : TiesAt H l (tr ++ [f])) :
    ∃ xs p, H l = some (.lst xs) ∧ xs[xs.length - 1]? = some (.ref p) ∧ H p = some (.tup [.int (f.1 : Int), .int (f.2 : Int)]) ∧ TiesAt (upd H l (.lst xs.dropLast)) l tr := by
  obtain ⟨tas, h1, h2⟩ := h
  obtain ⟨m, a, rfl, h3, h4⟩ := paired_end1 h2
  refine ⟨_, a, h1, ?_, h4, m, ?_, paired_mono (fun q e hq => ?_) h3⟩
  · rw [List.map_append, List.length_append, List.length_map, List.getElem?_append_right (by simp), List.length_map]
    simp
  · rw [upd_same, List.map_append]
    show some (HO.lst (List.dropLast (m.map V.ref ++ [V.ref a]))) = _
    rw [List.dropLast_concat]
  · have nq : q ≠ l := ne_of hq h1 (by intro z; cases z)
    show upd _ _ _ q = _
    rw [upd_ne nq]
    exact hq
theorem bv_at {L : List Bool} {j : Nat} {b : Bool} (h : L[j]? = some b) : atI (bv L) (j : Int) = some (.bl b) := by
  refine atI_nat ?_
  rw [bv, List.getElem?_map, h]
  rfl
theorem ix_at {n j : Nat} (hj : j < n) : ixN n (j : Int) = some j := by
  unfold ixN
  rw [if_pos (by omega), if_pos (by omega)]
  simp
theorem bv_set (L : List Bool) (j : Nat) : (bv L).set j (.bl true) = bv (L.set j true) := by
  unfold bv
  rw [List.map_set]
theorem got_set {L : List Bool} {j : Nat} (hj : j < L.length) (x : Nat) : Got (L.set j true) x ↔ Got L x ∨ x = j := by
  unfold Got
  by_cases c : x = j
  · subst c
    simp [hj]
  · rw [List.getElem?_set_ne (fun z => c z.symm)]
    simp [c]
theorem bl_of {L : List Bool} {j : Nat} (hj : j < L.length) : L[j]? = some true ∨ L[j]? = some false := by
  rw [List.getElem?_eq_getElem hj]
  cases L[j] <;> simp
section
variable {P : Program} {w : World} {K : PySem.W.Frag} {mg : Str → Option Value} {base : Heap} {C : Addr}
def sp_left_from (_ : PySem.W.Frag) (C : Addr) : Sp := fun vs H Q _ => ∃ e p s adj N S, vs = [.ref e, .int ((p : Nat) : Int), .ref s] ∧ RowsAt H e N adj ∧ LfOk adj N ∧ p < N ∧ H s = some (.lst (bv S)) ∧ S.length = N ∧ ¬ Got S p ∧ (∀ u v, Got S u → v ∈ adj u → Got S v) ∧ ∀ H' l L S', H l = none → H' l = some (.lst (iv L)) → H' s = some (.lst (bv S')) → Kept s H H' → LfRes adj N p S S' L → Q (.ref l) H'
theorem ok_left_from (D : Def K mg "_left_from" s_left_from ["ends", "point", "seen"]) (B : Bs mg) (Glb : Glo mg) (WK : WebK K mg C) :
    Good P w K mg base "_left_from" s_left_from ["ends", "point", "seen"] 1 (sp_left_from K C) := by
  refine D.good fun f fd F => ?_
  refine F.ok sc_left_from (fun vs H Q E h => ?_) (fun cdv A outer s H vs Q E hr h => ?_)
  · obtain ⟨e, p, s, adj, N, S, rfl, hR, hA, hp, hs, hSl, hnp, hcl, q⟩ := h
    first | rfl | (rcases h with ⟨_, _, rfl, _⟩ | ⟨_, rfl, _⟩ <;> rfl)
  obtain ⟨e, p, s, adj, N, S, rfl, hR, hA, hp, hs, hSl, hnp, hcl, q⟩ := h
  refine ⟨_, (pss_cons (ps_set (i := 3) sc_left_from.nd rfl (by first | exact Or.inl rfl | exact Or.inr rfl) (pe_lst pa_nil))
  (pss_cons (ps_asg pe_bl (pg_sub (pv 2) (pv 1) set_list))
  (pss_cons (ps_set (i := 4) sc_left_from.nd rfl (by first | exact Or.inl rfl | exact Or.inr rfl) (pe_lst (pa_cons (pe_tup (pa_cons (pv 1) (pa_cons pe_int pa_nil))) pa_nil)))
  (pss_cons (ps_while PassesOwn.never (pt_cmpR (op_neD hr.units) (pv 4) (pe_lst pa_nil) (nomark _))
    (pss_cons (ps_asg (pe_bm0 PySem.F.plainAttrs_list PySem.F.slot_list_pop PySem.F.type_list_pop mt_pop (pv 4)) (pg_tup rfl (pgs_cons (pg_name (i := 5) sc_left_from.nd rfl (by first | exact Or.inl rfl | exact Or.inr rfl)) (pgs_cons (pg_name (i := 6) sc_left_from.nd rfl (by first | exact Or.inl rfl | exact Or.inr rfl)) pgs_nil))))
  (pss_cons (ps_if (pt_cmpR op_eq (pv 6) (pe_callB call_len_seq (by rfl) B.len (by decide +kernel) (pa_cons (pe_ix ix_list (pv 0) (pv 5) (fun _ _ => rfl)) pa_nil)) (nomark _))
    (pss_cons (ps_expr (pe_bm PySem.F.plainAttrs_list PySem.F.slot_list_append PySem.F.type_list_append mt_append (pv 3) (pa_cons (pv 5) pa_nil)))
  (pss_one ps_continue)) pss_nil)
  (pss_cons (ps_expr (pe_bm PySem.F.plainAttrs_list PySem.F.slot_list_append PySem.F.type_list_append mt_append (pv 4) (pa_cons (pe_tup (pa_cons (pv 5) (pa_cons (pe_op op_add (pv 6) pe_int) pa_nil))) pa_nil)))
  (pss_cons (ps_set (i := 7) sc_left_from.nd rfl (by first | exact Or.inl rfl | exact Or.inr rfl) (pe_ix ix_list (pe_ix ix_list (pv 0) (pv 5) (fun _ _ => rfl)) (pv 6) (fun _ _ => rfl)))
  (pss_one (ps_if (pt_not (pt_val (pe_ix ix_list (pv 2) (pv 7) (fun _ _ => rfl))))
    (pss_cons (ps_asg pe_bl (pg_sub (pv 2) (pv 7) set_list))
  (pss_one (ps_expr (pe_bm PySem.F.plainAttrs_list PySem.F.slot_list_append PySem.F.type_list_append mt_append (pv 4) (pa_cons (pe_tup (pa_cons (pv 7) (pa_cons pe_int pa_nil))) pa_nil))))) pss_nil)))))))
  (pss_one (ps_ret (pv 3))))))), ?_⟩
  have hN := hA.n1
  have hRk : ∀ H', Kept s H H' → RowsAt H' e N adj := fun H' k => by
    obtain ⟨fas, r1, r2, r3⟩ := hR
    have nes : ∀ b (L : List Nat), H b = some (.lst (iv L)) → b ≠ s := fun b L hb z => by
      rw [z, hs] at hb
      have hb := HO.lst.inj (Option.some.inj hb)
      cases S with
      | nil => simp at hSl; omega
      | cons t r =>
        cases L with
        | nil => cases hb
        | cons n r' => cases (List.cons.inj hb).1
    have ees : e ≠ s := fun z => by
      rw [z, hs] at r1
      have r1 := HO.lst.inj (Option.some.inj r1)
      cases S with
      | nil => simp at hSl; omega
      | cons t r =>
        cases fas with
        | nil => cases r1
        | cons n r' => cases (List.cons.inj r1).1
    exact ⟨fas, k _ _ r1 ees, r2, fun j x ej => k _ _ (r3 j x ej) (nes _ _ (r3 j x ej))⟩
  refine ⟨Nat.zero_le _, fun ll nll => ?_⟩
  have nls : ll ≠ s := (ne_of_none hs nll).symm
  refine ⟨_, rfl, _, rfl, s, _, _, p, rfl, rfl, (by rw [upd_ne nls.symm]; exact hs), ix_at (by rw [List.length_map, hSl]; exact hp), ?_⟩
  rw [bv_set]
  generalize e1 : upd (upd H ll (.lst [])) s (.lst (bv (S.set p true))) = H1
  have hs1 : H1 s = some (.lst (bv (S.set p true))) := by rw [← e1]; exact upd_same
  have hll1 : H1 ll = some (.lst (iv [])) := by rw [← e1, upd_ne nls]; exact upd_same
  have hk1 : Kept s H H1 := fun b o z n => by rw [← e1, upd_ne n]; exact same_new nll _ _ _ z
  refine ⟨_, rfl, (by show 2 ≤ sizeLine; decide), fun tp ntp => ⟨(by show 1 ≤ sizeLine; decide), fun tl ntl => ?_⟩⟩
  have nts : tp ≠ s := (ne_of_none hs1 ntp).symm
  have htl0 : TiesAt (upd (upd H1 tp (.tup [.int (p : Int), .int 0])) tl (.lst [.ref tp])) tl [(p, 0)] := ⟨[tp], upd_same, .cons (by show upd _ _ _ tp = _; rw [upd_ne (fun z => by rw [z] at ntl; rw [upd_same] at ntl; cases ntl), upd_same]; rfl) .nil⟩
  have hk2 : Kept s H (upd (upd H1 tp (.tup [.int (p : Int), .int 0])) tl (.lst [.ref tp])) := (hk1.new ntp).new ntl
  have hs2 := same_new ntl (.lst [.ref tp]) _ _ (same_new ntp (.tup [.int (p : Int), .int 0]) _ _ hs1)
  have hll2 := same_new ntl (.lst [.ref tp]) _ _ (same_new ntp (.tup [.int (p : Int), .int 0]) _ _ hll1)
  have ntl1 : H1 tl = none := by
    by_cases c : tl = tp
    · rw [c]; exact ntp
    · rw [upd_ne c] at ntl; exact ntl
  have ntls : tl ≠ s := (ne_of_none hs1 ntl1).symm
  have ntll : tl ≠ ll := (ne_of_none hll1 ntl1).symm
  have ntlH : H tl = none := by
    cases z : H tl with
    | none => rfl
    | some o => rw [hk1 _ _ z ntls] at ntl1; cases ntl1
  generalize upd (upd H1 tp (.tup [.int (p : Int), .int 0])) tl (.lst [.ref tp]) = H2 at htl0 hk2 hs2 hll2
  have hpS : p < S.length := by omega
  let Pv : Nat → L2.St → Hp → Prop := fun m σ H' => ∃ (v5 v6 v7 : Option V) (left : List Nat) (tr : List (Nat × Nat)) (Sc : List Bool), σ = [some (.ref e), some (.int (p : Int)), some (.ref s), some (.ref ll), some (.ref tl), v5, v6, v7] ∧ Kept s H H' ∧ H' ll = some (.lst (iv left)) ∧ TiesAt H' tl tr ∧ H' s = some (.lst (bv Sc)) ∧ Sc.length = N ∧ Dfs adj p (Got S) (Got Sc) left tr ∧ (∀ f ∈ tr, f.2 ≤ (adj f.1).length) ∧ todo adj Sc N + owed adj tr = m
  refine ⟨Pv, ⟨_, none, none, none, [], [(p, 0)], S.set p true, rfl, hk2, hll2, htl0, hs2, by rw [List.length_set]; exact hSl, dfs_start hnp (got_set hpS), fun f hf => by rw [List.mem_singleton.mp hf]; exact Nat.zero_le _, rfl⟩, ?_⟩
  rintro m σ H3 ⟨v5, v6, v7, left, tr, Sc, rfl, hk3, hll3, htl3, hs3, hSc, hD, hle, hμ⟩
  refine ⟨_, rfl, Nat.zero_le _, fun p0 np0 => ⟨_, _, dp_tz (htl3.same (same_new np0 _)), dp_iz (L := []) upd_same, shaped_tz _, shaped_iz _, _, rfl, ?_⟩⟩
  rw [eqv_tz]
  have hk4 := hk3.new (o := .lst []) np0
  have hll4 := same_new np0 (.lst []) _ _ hll3
  have htl4 := htl3.same (same_new np0 (.lst []))
  have hs4 := same_new np0 (.lst []) _ _ hs3
  generalize upd H3 p0 (.lst []) = H4 at hk4 hll4 htl4 hs4
  rcases List.eq_nil_or_concat tr with rfl | ⟨rest, ⟨x, i⟩, rfl⟩
  · refine iteNot' rfl ⟨_, rfl, ?_⟩
    obtain ⟨d1, d2, d3, d4, d5⟩ := dfs_end hD hcl
    exact q _ ll left Sc nll hll4 hs4 hk4 ⟨d1, hSc, fun x hx => by have := (List.getElem?_eq_some_iff.mp ((d2 x).mpr (.inr hx))).1; omega, d2, d3, d4, d5⟩
  rw [List.concat_eq_append] at *
  refine iteNot (by simp) ?_
  refine ⟨fun σ' H' => ∃ m', m' < m ∧ Pv m' σ' H', fun σ' H' h => h, ?_⟩
  obtain ⟨xs, pt, g1, g2, g3, g4⟩ := htl4.pop
  refine ⟨_, rfl, .inl ⟨rfl, _, SqL.of g1⟩, tl, _, _, rfl, rfl, g1, g2, ?_⟩
  have nptl : pt ≠ tl := ne_of g3 g1 (by intro z; cases z)
  have hk5 : Kept s H (upd H4 tl (.lst xs.dropLast)) := hk4.put ntlH
  have hll5 : (upd H4 tl (.lst xs.dropLast)) ll = some (.lst (iv left)) := by rw [upd_ne ntll.symm]; exact hll4
  have hs5 : (upd H4 tl (.lst xs.dropLast)) s = some (.lst (bv Sc)) := by rw [upd_ne ntls.symm]; exact hs4
  have hp5 : (upd H4 tl (.lst xs.dropLast)) pt = some (.tup [.int (x : Int), .int (i : Int)]) := by rw [upd_ne nptl]; exact g3
  generalize upd H4 tl (.lst xs.dropLast) = H5 at hk5 hll5 hs5 hp5 g4
  refine ⟨pt, _, rfl, SqT.of hp5, rfl, _, _, rfl, _, _, rfl, rfl, ?_⟩
  have hgx : Got Sc x := (hD.iff_ x).mpr (.inr (.inr (by simp)))
  have hxN : x < N := by have := (List.getElem?_eq_some_iff.mp hgx).1; omega
  have hix : i ≤ (adj x).length := hle (x, i) (by simp)
  have hszx := hA.sz x
  have hmany : left.length + rest.length + 1 ≤ N := by
    have h1 := few (N := N) hD.nd (fun z hz => by
      have hg : Got Sc z := by
        rw [hD.iff_]
        rcases List.mem_append.mp hz with c | c
        · exact .inr (.inl c)
        · exact .inr (.inr c)
      have := (List.getElem?_eq_some_iff.mp hg).1
      omega)
    rw [List.length_append, List.length_map, List.length_append, List.length_singleton] at h1
    omega
  have how : owed adj (rest ++ [(x, i)]) = owed adj rest + ((adj x).length - i + 1) := by
    rw [owed_app]
    show owed adj rest + (((adj x).length - i + 1) + 0) = _
    omega
  obtain ⟨rx, rxs, e1, e2, e3⟩ := (hRk _ hk5).get hxN
  refine ⟨_, rfl, _, rfl, _, rfl, _, _, _, .ref rx, rfl, rfl, SqL.of e1, e2, rx, _, rfl, .inl (SqL.of e3), rfl, _, rfl, ?_⟩
  by_cases c : i = (adj x).length
  · refine iteYes (int_eq.mpr (by rw [List.length_map, c])) ?_
    refine ⟨_, rfl, .inl ⟨rfl, _, SqL.of hll5⟩, _, rfl, ll, _, _, rfl, rfl, hll5, ?_, ?_⟩
    · rw [List.length_map]
      exact Nat.lt_of_lt_of_le (by omega : left.length < 1000) (by decide)
    refine ⟨_, ?_, _, _, v7, left ++ [x], rest, Sc, rfl, hk5.put nll, by rw [upd_same, iv_app], ?_, ?_, hSc, dfs_leave hD (by omega) hcl, fun f hf => hle f (List.mem_append_left _ hf), rfl⟩
    · rw [← hμ, how]
      omega
    · obtain ⟨tas, t1, t2⟩ := g4
      refine ⟨tas, by rw [upd_ne ntll]; exact t1, paired_mono (fun q' e' hq => ?_) t2⟩
      have : q' ≠ ll := ne_of hq hll5 (by intro z; cases z)
      show upd _ _ _ q' = _
      rw [upd_ne this]
      exact hq
    · rw [upd_ne nls.symm]
      exact hs5
  refine iteNo (fun z => c (by have := int_eq.mp z; rw [List.length_map] at this; omega)) ?_
  have hil : i < (adj x).length := by omega
  obtain ⟨xs1, hx1, hx1l⟩ := g4.get
  refine ⟨_, rfl, .inl ⟨rfl, _, SqL.of hx1⟩, _, rfl, _, rfl, _, _, rfl, rfl, (by show 2 ≤ sizeLine; decide), fun tq ntq => ?_⟩
  obtain ⟨ys, k1, k2, k3⟩ := g4.pushV (u := x) (v := i + 1) (x := V.int (x : Int)) (y := V.int ((i : Int) + 1)) rfl rfl ntq
  refine ⟨tl, _, _, rfl, rfl, k1, by rw [k2]; exact Nat.lt_of_lt_of_le (by omega : rest.length < 1000) (by decide), ?_⟩
  have hk6 : Kept s H (upd (upd H5 tq (.tup [.int (x : Int), .int ((i : Int) + 1)])) tl (.lst (ys ++ [.ref tq]))) := (hk5.new ntq).put ntlH
  have hll6 : (upd (upd H5 tq (.tup [.int (x : Int), .int ((i : Int) + 1)])) tl (.lst (ys ++ [.ref tq]))) ll = some (.lst (iv left)) := by rw [upd_ne ntll.symm]; exact same_new ntq _ _ _ hll5
  have hs6 : (upd (upd H5 tq (.tup [.int (x : Int), .int ((i : Int) + 1)])) tl (.lst (ys ++ [.ref tq]))) s = some (.lst (bv Sc)) := by rw [upd_ne ntls.symm]; exact same_new ntq _ _ _ hs5
  dsimp only
  generalize upd (upd H5 tq (.tup [.int (x : Int), .int ((i : Int) + 1)])) tl (.lst (ys ++ [.ref tq])) = H6 at hk6 hll6 hs6 k3
  obtain ⟨rx6, rxs6, f1, f2, f3⟩ := (hRk _ hk6).get hxN
  have hy : (adj x)[i]? = some ((adj x)[i]'hil) := List.getElem?_eq_getElem hil
  generalize (adj x)[i]'hil = y at hy
  have hyN : y < N := hA.lt x y (List.mem_of_getElem? hy)
  refine ⟨_, rfl, _, rfl, _, _, _, .ref rx6, rfl, rfl, SqL.of f1, f2, _, rfl, _, _, _, .int (y : Int), rfl, rfl, SqL.of f3, iv_at hy, ?_⟩
  have how2 : owed adj (rest ++ [(x, i + 1)]) = owed adj rest + ((adj x).length - (i + 1) + 1) := by
    rw [owed_app]
    show owed adj rest + (((adj x).length - (i + 1) + 1) + 0) = _
    omega
  have hle2 : ∀ f ∈ rest ++ [(x, i + 1)], f.2 ≤ (adj f.1).length := fun f hf => by
    rcases List.mem_append.mp hf with z | z
    · exact hle f (List.mem_append_left _ z)
    · rw [List.mem_singleton.mp z]
      exact hil
  rcases bl_of (L := Sc) (j := y) (by omega) with hb | hb
  · refine ⟨_, rfl, _, rfl, _, _, _, _, rfl, rfl, SqL.of hs6, bv_at hb, _, rfl, iteF ?_⟩
    refine ⟨_, ?_, _, _, _, left, rest ++ [(x, i + 1)], Sc, rfl, hk6, hll6, k3, hs6, hSc, dfs_old hD hy hb, hle2, rfl⟩
    rw [← hμ, how, how2]
    omega
  · refine ⟨_, rfl, _, rfl, _, _, _, _, rfl, rfl, SqL.of hs6, bv_at hb, _, rfl, iteT ?_⟩
    have hnew : ¬ Got Sc y := fun z => by unfold Got at z; rw [hb] at z; cases z
    refine ⟨_, rfl, _, rfl, s, _, _, y, rfl, rfl, hs6, ix_at (by rw [List.length_map, hSc]; exact hyN), ?_⟩
    rw [bv_set]
    have hk7 : Kept s H (upd H6 s (.lst (bv (Sc.set y true)))) := fun b o z n => by rw [upd_ne n]; exact hk6 _ _ z n
    have hll7 : (upd H6 s (.lst (bv (Sc.set y true)))) ll = some (.lst (iv left)) := by rw [upd_ne nls]; exact hll6
    have hs7 : (upd H6 s (.lst (bv (Sc.set y true)))) s = some (.lst (bv (Sc.set y true))) := upd_same
    have hT7 : TiesAt (upd H6 s (.lst (bv (Sc.set y true)))) tl (rest ++ [(x, i + 1)]) := by
      obtain ⟨tas, t1, t2⟩ := k3
      refine ⟨tas, by rw [upd_ne ntls]; exact t1, paired_mono (fun q' e' hq => ?_) t2⟩
      have : q' ≠ s := ne_of hq hs6 (by intro z; cases z)
      show upd _ _ _ q' = _
      rw [upd_ne this]
      exact hq
    generalize upd H6 s (.lst (bv (Sc.set y true))) = H7 at hk7 hll7 hs7 hT7
    obtain ⟨xs7, hx7, hx7l⟩ := hT7.get
    refine ⟨_, rfl, .inl ⟨rfl, _, SqL.of hx7⟩, _, rfl, (by show 2 ≤ sizeLine; decide), fun tr2 ntr => ?_⟩
    obtain ⟨zs, m1, m2, m3⟩ := hT7.pushV (u := y) (v := 0) (x := V.int (y : Int)) (y := V.int 0) rfl rfl ntr
    refine ⟨tl, _, _, rfl, rfl, m1, by rw [m2, List.length_append, List.length_singleton]; exact Nat.lt_of_lt_of_le (by omega : rest.length + 1 < 1000) (by decide), ?_⟩
    have hset := todo_set adj hb N
    rw [if_pos hyN] at hset
    have how3 : owed adj (rest ++ [(x, i + 1)] ++ [(y, 0)]) = owed adj (rest ++ [(x, i + 1)]) + ((adj y).length + 1) := by
      rw [owed_app]
      show _ + (((adj y).length - 0 + 1) + 0) = _
      omega
    refine ⟨_, ?_, _, _, _, left, rest ++ [(x, i + 1)] ++ [(y, 0)], Sc.set y true, rfl, (hk7.new ntr).put ntlH, by rw [upd_ne ntll.symm]; exact same_new ntr _ _ _ hll7, m3, by rw [upd_ne ntls.symm]; exact same_new ntr _ _ _ hs7, by rw [List.length_set]; exact hSc, dfs_new hD hy hnew (got_set (by omega)), fun f hf => ?_, rfl⟩
    · rw [← hμ, how, how3, how2]
      omega
    · rcases List.mem_append.mp hf with z | z
      · exact hle2 f z
      · rw [List.mem_singleton.mp z]
        exact Nat.zero_le _
end
end My
namespace My
open PySem PySem.W L2 L2.DX PyProof.Rows
/-! ### the parts of a web -/
def Mut (E : Nat → Nat → Prop) (u v : Nat) : Prop := Rch E u v ∧ Rch E v u
theorem mut_refl {E : Nat → Nat → Prop} (u : Nat) : Mut E u u := ⟨rch_refl u, rch_refl u⟩
theorem Mut.symm {E : Nat → Nat → Prop} {u v : Nat} (h : Mut E u v) : Mut E v u := ⟨h.2, h.1⟩
theorem Mut.trans {E : Nat → Nat → Prop} {u v w : Nat} (h : Mut E u v) (k : Mut E v w) : Mut E u w := ⟨rch_trans h.1 k.1, rch_trans k.2 h.2⟩
theorem rch_back {E F : Nat → Nat → Prop} (h : ∀ a b, F a b ↔ E b a) {u v : Nat} : Rch F u v ↔ Rch E v u := by
  constructor
  · intro r
    obtain ⟨k, r⟩ := rch_flip r
    refine rch_closed (S := fun x => Rch E v x) (fun a b ha e => rch_trans ha (rch_one ((h b a).mp e))) (rch_refl v) ⟨k, r⟩
  · intro r
    obtain ⟨k, r⟩ := rch_flip r
    refine rch_closed (S := fun x => Rch F u x) (fun a b ha e => rch_trans ha (rch_one ((h a b).mpr e))) (rch_refl u) ⟨k, r⟩
theorem mut_back {E F : Nat → Nat → Prop} (h : ∀ a b, F a b ↔ E b a) {u v : Nat} : Mut F u v ↔ Mut E u v := by
  unfold Mut
  rw [rch_back h, rch_back h]
  exact ⟨fun z => ⟨z.2, z.1⟩, fun z => ⟨z.2, z.1⟩⟩
theorem rch_low {E : Nat → Nat → Prop} {N : Nat} (h : ∀ a b, E a b → a < N) {u v : Nat} (hv : v < N) (r : Rch E u v) : u < N := by
  by_cases c : u = v
  · omega
  · obtain ⟨x, y, hx, hy, e, _⟩ := rch_leave (S := fun z => z = u) rfl (fun z => c z.symm) r
    rw [hx] at e
    exact h _ _ e
/-- the sequence in which a search leaves the points -/
def StarL (E : Nat → Nat → Prop) (L : List Nat) : Prop := ∀ A q B, L = A ++ q :: B → ∀ x, Rch E q x → x ∈ A ∨ x = q ∨ ∃ y ∈ B, Rch E q y ∧ Rch E y q ∧ Rch E y x
theorem star_nil {E : Nat → Nat → Prop} : StarL E [] := fun A q B e => by simp at e
theorem star_app {E : Nat → Nat → Prop} {L M : List Nat} (h : StarL E L) (k : ∀ A q B, M = A ++ q :: B → ∀ x, Rch E q x → x ∈ L ∨ x ∈ A ∨ x = q ∨ ∃ y ∈ B, Rch E q y ∧ Rch E y q ∧ Rch E y x) : StarL E (L ++ M) := by
  intro A q B e x r
  rcases List.append_eq_append_iff.mp e with ⟨a', h1, h2⟩ | ⟨c', h1, h2⟩
  · rcases k a' q B h2 x r with z | z | z | z
    · exact .inl (by rw [h1]; exact List.mem_append_left _ z)
    · exact .inl (by rw [h1]; exact List.mem_append_right _ z)
    · exact .inr (.inl z)
    · exact .inr (.inr z)
  · cases c' with
    | nil =>
      simp at h1 h2
      rcases k [] q B (by rw [← h2]; rfl) x r with z | z | z | z
      · exact .inl (by rw [← h1]; exact z)
      · simp at z
      · exact .inr (.inl z)
      · exact .inr (.inr z)
    | cons c0 cr =>
      have e0 : q = c0 := (List.cons.inj h2).1
      have e1 : B = cr ++ M := (List.cons.inj h2).2
      subst e0
      rcases h A q cr h1 x r with z | z | ⟨y, hy, z⟩
      · exact .inl z
      · exact .inr (.inl z)
      · exact .inr (.inr ⟨y, by rw [e1]; exact List.mem_append_left _ hy, z⟩)
theorem star_class {E : Nat → Nat → Prop} {q : Nat} {B : List Nat} : ∀ (n : Nat) {A1 A2 : List Nat} {x : Nat}, A2.length ≤ n → StarL E (A1 ++ x :: (A2 ++ q :: B)) → (A1 ++ x :: (A2 ++ q :: B)).Nodup → Rch E x q → Mut E x q ∨ ∃ y ∈ B, Mut E x y := by
  intro n
  induction n with
  | zero =>
    intro A1 A2 x hn hs hd r
    have e : A2 = [] := List.length_eq_zero_iff.mp (by omega)
    subst e
    rw [List.nil_append] at hs hd
    have hd2 := List.nodup_append.mp hd
    rcases hs A1 x _ rfl q r with z | z | ⟨y, hy, r1, r2, r3⟩
    · exact absurd rfl (hd2.2.2 q z q (by simp))
    · have := (List.nodup_cons.mp hd2.2.1).1
      rw [z] at this
      exact absurd List.mem_cons_self this
    · rcases List.mem_cons.mp hy with z | z
      · rw [z] at r1 r2
        exact .inl ⟨r1, r2⟩
      · exact .inr ⟨y, z, r1, r2⟩
  | succ n ih =>
    intro A1 A2 x hn hs hd r
    have hd2 := List.nodup_append.mp hd
    rcases hs A1 x _ rfl q r with z | z | ⟨y, hy, r1, r2, r3⟩
    · exact absurd rfl (hd2.2.2 q z q (by simp))
    · have := (List.nodup_cons.mp hd2.2.1).1
      rw [z] at this
      exact absurd (by simp) this
    · rcases List.mem_append.mp hy with z | z
      · obtain ⟨C1, C2, rfl⟩ := List.append_of_mem z
        have e2 : A1 ++ x :: (C1 ++ y :: C2 ++ q :: B) = (A1 ++ x :: C1) ++ y :: (C2 ++ q :: B) := by simp
        rw [e2] at hs hd
        have hl : C2.length ≤ n := by
          rw [List.length_append, List.length_cons] at hn
          omega
        rcases ih hl hs hd r3 with w | ⟨v, hv, w⟩
        · exact .inl (Mut.trans ⟨r1, r2⟩ w)
        · exact .inr ⟨v, hv, Mut.trans ⟨r1, r2⟩ w⟩
      · rcases List.mem_cons.mp z with w | w
        · rw [w] at r1 r2
          exact .inl ⟨r1, r2⟩
        · exact .inr ⟨y, w, r1, r2⟩
theorem class_of {E : Nat → Nat → Prop} {A B : List Nat} {q : Nat} {S : Nat → Prop} (hs : StarL E (A ++ q :: B)) (hd : (A ++ q :: B).Nodup) (hall : ∀ x, Rch E x q → x ∈ A ++ q :: B) (hS : ∀ x, S x ↔ ∃ y ∈ B, Mut E y x) (hq : ¬ S q) (x : Nat) : (Rch E x q ∧ ¬ S x) ↔ Mut E q x := by
  constructor
  · rintro ⟨r, hn⟩
    rcases List.mem_append.mp (hall x r) with z | z
    · obtain ⟨A1, A2, rfl⟩ := List.append_of_mem z
      rw [show A1 ++ x :: A2 ++ q :: B = A1 ++ x :: (A2 ++ q :: B) by simp] at hs hd
      rcases star_class A2.length (Nat.le_refl _) hs hd r with w | ⟨y, hy, w⟩
      · exact w.symm
      · exact absurd ((hS x).mpr ⟨y, hy, w.symm⟩) hn
    · rcases List.mem_cons.mp z with w | w
      · rw [w]; exact mut_refl q
      · exact absurd ((hS x).mpr ⟨x, w, mut_refl x⟩) hn
  · intro h
    refine ⟨h.2, fun z => hq ?_⟩
    obtain ⟨y, hy, w⟩ := (hS x).mp z
    exact (hS q).mpr ⟨y, hy, w.trans h.symm⟩
/-! ### as they are told -/
noncomputable def bdec (p : Prop) : Bool := @decide p (Classical.propDecidable p)
theorem bdec_iff {p : Prop} : bdec p = true ↔ p := by
  unfold bdec
  exact @decide_eq_true_iff p (Classical.propDecidable p)
noncomputable def clsL (E : Nat → Nat → Prop) (N p : Nat) : List Nat := (List.range N).filter fun x => bdec (Mut E p x)
theorem clsL_mem {E : Nat → Nat → Prop} {N p x : Nat} : x ∈ clsL E N p ↔ x < N ∧ Mut E p x := by
  unfold clsL
  rw [List.mem_filter, List.mem_range, bdec_iff]
theorem clsL_rising {E : Nat → Nat → Prop} {N p : Nat} : (clsL E N p).Pairwise (· < ·) := by
  unfold clsL
  exact List.Pairwise.filter _ List.pairwise_lt_range
theorem clsL_same {E : Nat → Nat → Prop} {N p q : Nat} (h : Mut E p q) : clsL E N p = clsL E N q := by
  unfold clsL
  congr 1
  funext x
  have e : Mut E p x ↔ Mut E q x := ⟨fun z => h.symm.trans z, fun z => h.trans z⟩
  rw [show (Mut E p x) = (Mut E q x) from propext e]
noncomputable def headsL (E : Nat → Nat → Prop) (N : Nat) : List Nat := (List.range N).filter fun p => bdec (∀ x, x < p → ¬ Mut E p x)
theorem headsL_mem {E : Nat → Nat → Prop} {N p : Nat} : p ∈ headsL E N ↔ p < N ∧ ∀ x, x < p → ¬ Mut E p x := by
  unfold headsL
  rw [List.mem_filter, List.mem_range, bdec_iff]
theorem headsL_rising {E : Nat → Nat → Prop} {N : Nat} : (headsL E N).Pairwise (· < ·) := by
  unfold headsL
  exact List.Pairwise.filter _ List.pairwise_lt_range
noncomputable def partsL (E : Nat → Nat → Prop) (N : Nat) : List (List Nat) := (headsL E N).map (clsL E N)
theorem least_of {P : Nat → Prop} : ∀ n, P n → ∃ m, P m ∧ ∀ x, x < m → ¬ P x := by
  intro n
  induction n using Nat.strongRecOn with
  | ind n ih =>
    intro hn
    by_cases c : ∃ x, x < n ∧ P x
    · obtain ⟨x, hx, h⟩ := c
      exact ih x hx h
    · exact ⟨n, hn, fun x hx h => c ⟨x, hx, h⟩⟩
/-- each point's least companion -/
theorem head_of {E : Nat → Nat → Prop} {N p : Nat} (hp : p < N) : ∃ h ∈ headsL E N, Mut E p h := by
  obtain ⟨m, h1, h2⟩ := least_of (P := fun x => Mut E p x) p (mut_refl p)
  refine ⟨m, headsL_mem.mpr ⟨?_, fun x hx hm => h2 x hx (h1.trans hm)⟩, h1⟩
  rcases Nat.lt_or_ge p m with c | c
  · exact absurd (mut_refl p) (h2 p c)
  · omega
theorem head_unique {E : Nat → Nat → Prop} {N a b : Nat} (ha : a ∈ headsL E N) (hb : b ∈ headsL E N) (h : Mut E a b) : a = b := by
  rw [headsL_mem] at ha hb
  rcases Nat.lt_trichotomy a b with c | c | c
  · exact absurd h.symm (hb.2 a c)
  · exact c
  · exact absurd h (ha.2 b c)
theorem clsL_head {E : Nat → Nat → Prop} {N p : Nat} (hp : p ∈ headsL E N) : ∃ r, clsL E N p = p :: r := by
  have h0 := headsL_mem.mp hp
  have hm : p ∈ clsL E N p := clsL_mem.mpr ⟨h0.1, mut_refl p⟩
  have hr := clsL_rising (E := E) (N := N) (p := p)
  cases e : clsL E N p with
  | nil => rw [e] at hm; simp at hm
  | cons a r =>
    rw [e] at hm hr
    have ha : a ∈ clsL E N p := by rw [e]; simp
    rcases List.mem_cons.mp hm with z | z
    · exact ⟨r, by rw [z]⟩
    · have h1 := (List.pairwise_cons.mp hr).1 p z
      exact absurd (clsL_mem.mp ha).2 (h0.2 a h1)
theorem parts_back {E F : Nat → Nat → Prop} (h : ∀ a b, F a b ↔ E b a) (N : Nat) : partsL F N = partsL E N := by
  have e : Mut F = Mut E := by
    funext u v
    exact propext (mut_back h)
  unfold partsL headsL clsL
  rw [e]
/-! ### sorted -/
abbrev dn (L : List Nat) : PyData := .list (L.map fun n : Nat => PyData.int (n : Int))
theorem keyTok_dn (a : Nat) (r : List Nat) : ∃ t, keyToks (dn (a :: r)) = .inl 1 :: .inl (a : Int) :: t := by
  refine ⟨keyToksAll (r.map fun n : Nat => PyData.int (n : Int)), ?_⟩
  show keyToks (.list (PyData.int (a : Int) :: (r.map fun n : Nat => PyData.int (n : Int)))) = _
  rw [keyToks, keyToksAll, keyToks]
  rfl
theorem dataLe_refl (d : PyData) : dataLe false id d d = true := by
  show (!(listOrd itemOrd).blt (keyToks d) (keyToks d)) = true
  rw [(listOrd itemOrd).irrefl]
  rfl
theorem dataLe_dn {a b : Nat} {r t : List Nat} (h : a ≠ b) : dataLe false id (dn (a :: r)) (dn (b :: t)) = decide (a ≤ b) := by
  obtain ⟨x, hx⟩ := keyTok_dn a r
  obtain ⟨y, hy⟩ := keyTok_dn b t
  show (!(lexLt itemOrd (keyToks (dn (b :: t))) (keyToks (dn (a :: r))))) = _
  rw [hx, hy, lex_cons, lex_cons]
  have e1 : itemOrd.blt (Sum.inl 1) (Sum.inl 1) = false := itemOrd.irrefl _
  have e2 : itemOrd.blt (Sum.inl (b : Int)) (Sum.inl (a : Int)) = decide ((b : Int) < (a : Int)) := rfl
  have e3 : itemOrd.blt (Sum.inl (a : Int)) (Sum.inl (b : Int)) = decide ((a : Int) < (b : Int)) := rfl
  rw [e1, e2, e3]
  by_cases c : a ≤ b
  · have h1 : (a : Int) < (b : Int) := by omega
    have h2 : ¬ (b : Int) < (a : Int) := by omega
    simp [c, h1, h2]
  · have h1 : ¬ (a : Int) < (b : Int) := by omega
    have h2 : (b : Int) < (a : Int) := by omega
    simp [c, h2]
theorem sort_parts {E : Nat → Nat → Prop} {N : Nat} {hs : List Nat} (hp : hs.Perm (headsL E N)) : ((hs.map (clsL E N)).map dn).mergeSort (dataLe false id) = (partsL E N).map dn := by
  have hmem : ∀ a ∈ hs, a ∈ headsL E N := fun a ha => hp.mem_iff.mp ha
  rw [List.map_map, ← List.map_mergeSort (f := dn ∘ clsL E N) (r := fun a b : Nat => decide (a ≤ b)) (s := dataLe false id) (l := hs) (fun a ha b hb => ?_)]
  · unfold partsL
    rw [List.map_map]
    congr 1
    have h1 : (hs.mergeSort fun a b : Nat => decide (a ≤ b)).Pairwise (fun a b => decide (a ≤ b) = true) := List.pairwise_mergeSort (fun a b c h k => by simp at *; omega) (fun a b => by simp; omega) hs
    have h2 : (hs.mergeSort fun a b : Nat => decide (a ≤ b)).Perm (headsL E N) := (List.mergeSort_perm _ _).trans hp
    refine h2.eq_of_pairwise ?_ (h1.imp fun h => of_decide_eq_true h) (headsL_rising.imp fun h => Nat.le_of_lt h)
    intro a b _ _ h k
    omega
  · by_cases c : a = b
    · subst c
      show decide (a ≤ a) = dataLe false id _ _
      rw [dataLe_refl]
      simp
    · obtain ⟨r, er⟩ := clsL_head (hmem a ha)
      obtain ⟨t, et⟩ := clsL_head (hmem b hb)
      show decide (a ≤ b) = dataLe false id (dn (clsL E N a)) (dn (clsL E N b))
      rw [er, et, dataLe_dn c]
end My
namespace My
open PySem L2 PyProof.Rows
abbrev cn (L : List Nat) : List Int := L.map fun n : Nat => (n : Int)
theorem cn_rising {L : List Nat} (h : L.Pairwise (· < ·)) : (cn L).Pairwise (· < ·) := List.Pairwise.map _ (fun a b hab => by show (a : Int) < (b : Int); omega) h
theorem cn_nodup {L : List Nat} (h : L.Nodup) : (cn L).Nodup := List.Pairwise.map (R := (· ≠ ·)) _ (fun a b hab z => hab (by omega)) h
theorem cls_sorted {E : Nat → Nat → Prop} {N q : Nat} {M : List Nat} {ys : List Int} (hn : M.Nodup) (hm : ∀ x, x ∈ M ↔ x < N ∧ Mut E q x) (hp : ys.Perm (cn M)) (hs : ys.Pairwise (· ≤ ·)) : ys = cn (clsL E N q) := by
  refine rising_ext (rising_of hs ((hp.nodup_iff).mpr (cn_nodup hn))) (cn_rising clsL_rising) fun z => ?_
  rw [hp.mem_iff, List.mem_map, List.mem_map]
  constructor
  · rintro ⟨x, hx, rfl⟩
    exact ⟨x, clsL_mem.mpr ((hm x).mp hx), rfl⟩
  · rintro ⟨x, hx, rfl⟩
    exact ⟨x, (hm x).mpr (clsL_mem.mp hx), rfl⟩
noncomputable def headO (E : Nat → Nat → Prop) (N p : Nat) : Nat := @dite _ (p < N) (Classical.propDecidable _) (fun h => Classical.choose (head_of (E := E) h)) fun _ => 0
theorem headO_spec {E : Nat → Nat → Prop} {N p : Nat} (h : p < N) : headO E N p ∈ headsL E N ∧ Mut E p (headO E N p) := by
  unfold headO
  rw [dif_pos h]
  exact Classical.choose_spec (head_of (E := E) h)
theorem reps_heads {E : Nat → Nat → Prop} {N : Nat} {HS : List Nat} (hR : HS.Pairwise fun a b => ¬ Mut E a b) (hlt : ∀ q ∈ HS, q < N) (hall : ∀ x, x < N → ∃ q ∈ HS, Mut E x q) : ∃ hs : List Nat, hs.Perm (headsL E N) ∧ HS.map (clsL E N) = hs.map (clsL E N) := by
  refine ⟨HS.map (headO E N), ?_, ?_⟩
  · have hnd : (HS.map (headO E N)).Nodup := by
      rw [List.Nodup, List.pairwise_map]
      refine List.Pairwise.imp_of_mem ?_ hR
      intro a b ha hb h e
      have h1 := (headO_spec (E := E) (hlt a ha)).2
      have h2 := (headO_spec (E := E) (hlt b hb)).2
      rw [e] at h1
      exact h (h1.trans h2.symm)
    refine (List.perm_ext_iff_of_nodup hnd (headsL_rising.imp fun h => Nat.ne_of_lt h)).mpr fun x => ?_
    rw [List.mem_map]
    constructor
    · rintro ⟨q, hq, rfl⟩
      exact (headO_spec (hlt q hq)).1
    · intro hx
      have hx0 := headsL_mem.mp hx
      obtain ⟨q, hq, hm⟩ := hall x hx0.1
      have h2 := headO_spec (E := E) (hlt q hq)
      exact ⟨q, hq, (head_unique hx h2.1 (hm.trans h2.2)).symm⟩
  · rw [List.map_map]
    refine List.map_congr_left fun q hq => ?_
    exact clsL_same (headO_spec (hlt q hq)).2
abbrev Ed (ts : List (Nat × Nat)) : Nat → Nat → Prop := Edge ts []
theorem ed_low {ts : List (Nat × Nat)} {N : Nat} (ho : OkWeb N ts) {a b : Nat} (e : Ed ts a b) : a < N ∧ b < N := by
  obtain ⟨i, h, _⟩ := e
  exact ho.ok _ (List.mem_of_getElem? h)
theorem ed_swaps {ts : List (Nat × Nat)} (a b : Nat) : Ed (swaps ts) a b ↔ Ed ts b a := by
  unfold Ed Edge swaps
  constructor
  · rintro ⟨i, h, n⟩
    rw [List.getElem?_map] at h
    cases e : ts[i]? with
    | none => rw [e] at h; cases h
    | some p =>
      rw [e] at h
      cases h
      exact ⟨i, e, n⟩
  · rintro ⟨i, h, n⟩
    refine ⟨i, ?_, n⟩
    rw [List.getElem?_map, h]
    rfl
theorem edf {ts : List (Nat × Nat)} : (fun u v => v ∈ outs ts [] u) = Ed ts := by
  funext u v
  exact propext outs_mem
theorem lf_ok {ts : List (Nat × Nat)} {N : Nat} (ho : OkWeb N ts) : LfOk (outs ts []) N :=
  ⟨ho.n1, fun u v h => (ed_low ho (outs_mem.mp h)).2, fun u => Nat.le_trans (outN_len ts [] u ts.length) ho.m⟩
def LolAt (H : Hp) (l : Addr) (LL : List (List Nat)) : Prop := ∃ as : List Addr, H l = some (.lst (as.map V.ref)) ∧ Paired (fun (p : Addr) (L : List Nat) => H p = some (.lst (iv L))) as LL
theorem LolAt.same {H H' : Hp} {l : Addr} {LL : List (List Nat)} (h : LolAt H l LL) (s : Same H H') : LolAt H' l LL := by
  obtain ⟨as, h1, h2⟩ := h
  exact ⟨as, s _ _ h1, paired_mono (fun p e hp => s _ _ hp) h2⟩
theorem outN_at {ts : List (Nat × Nat)} {i u v : Nat} (h : ts[i]? = some (u, v)) (j : Nat) : outN ts [] j (i + 1) = if u = j then outN ts [] j i ++ [v] else outN ts [] j i := by
  show (match ts[i]? with | some e => if e.1 = j ∧ i ∉ [] then outN ts [] j i ++ [e.2] else outN ts [] j i | none => outN ts [] j i) = _
  rw [h]
  by_cases c : u = j
  · show (if u = j ∧ i ∉ [] then _ else _) = _
    rw [if_pos c, if_pos ⟨c, by simp⟩]
  · show (if u = j ∧ i ∉ [] then _ else _) = _
    rw [if_neg c, if_neg (fun z => c z.1)]
theorem swaps_at {ts : List (Nat × Nat)} {i u v : Nat} (h : ts[i]? = some (u, v)) : (swaps ts)[i]? = some (v, u) := by
  unfold swaps
  rw [List.getElem?_map, h]
  rfl
theorem swaps_len (ts : List (Nat × Nat)) : (swaps ts).length = ts.length := by
  unfold swaps
  rw [List.length_map]
/-- rows that grow -/
theorem row_put {H : Hp} {fas : List Addr} {f g : Nat → List Nat} {u v : Nat} {xu : Addr} (hn : fas.Nodup) (eu : fas[u]? = some xu) (h : ∀ (j : Nat) (x : Addr), fas[j]? = some x → H x = some (.lst (iv (f j)))) (hg : ∀ j, g j = if u = j then f j ++ [v] else f j) :
    ∀ (j : Nat) (x : Addr), fas[j]? = some x → (upd H xu (.lst (iv (f u) ++ [.int (v : Int)]))) x = some (.lst (iv (g j))) := fun j x e => by
  by_cases c : u = j
  · subst c
    rw [eu] at e
    cases e
    rw [upd_same, hg, if_pos rfl, iv_app]
  · have nx : x ≠ xu := fun z => c (nodup_get hn eu (by rw [← z]; exact e))
    rw [upd_ne nx, hg, if_neg c]
    exact h j x e
structure Pass1 (ts : List (Nat × Nat)) (N i : Nat) (L : List Nat) (S : List Bool) : Prop where
  nd : L.Nodup
  lt : ∀ x ∈ L, x < N
  got : ∀ x, Got S x ↔ x ∈ L
  ln : S.length = N
  cl : ∀ u v, Got S u → v ∈ outs ts [] u → Got S v
  up : ∀ x, x < i → x ∈ L
  star : StarL (Ed ts) L
theorem rep_false (N : Nat) : (List.replicate (N : Int).toNat [V.bl false]).flatten = bv (List.replicate N false) := by
  rw [Int.toNat_natCast]
  induction N with
  | zero => rfl
  | succ n ih =>
    rw [List.replicate_succ, List.replicate_succ, List.flatten_cons, ih]
    rfl
theorem no_got (N x : Nat) : ¬ Got (List.replicate N false) x := fun h => by
  unfold Got at h
  rw [List.getElem?_replicate] at h
  split at h
  · cases h
  · cases h
theorem pass1_start (ts : List (Nat × Nat)) (N : Nat) : Pass1 ts N 0 [] (List.replicate N false) :=
  ⟨by simp, by simp, fun x => ⟨fun h => absurd h (no_got N x), fun h => by simp at h⟩, by simp, fun u v h => absurd h (no_got N u), fun x h => by omega, star_nil⟩
theorem pass1_old {ts : List (Nat × Nat)} {N i : Nat} {L : List Nat} {S : List Bool} (h : Pass1 ts N i L S) (hi : Got S i) : Pass1 ts N (i + 1) L S :=
  ⟨h.nd, h.lt, h.got, h.ln, h.cl, fun x hx => by
    by_cases c : x = i
    · rw [c]; exact (h.got i).mp hi
    · exact h.up x (by omega), h.star⟩
theorem pass1_new {ts : List (Nat × Nat)} {N i : Nat} {L M : List Nat} {S S' : List Bool} (h : Pass1 ts N i L S) (r : LfRes (outs ts []) N i S S' M) (hi : ¬ Got S i) : Pass1 ts N (i + 1) (L ++ M) S' := by
  refine ⟨?_, fun x hx => ?_, fun x => ?_, r.ln, r.cl, fun x hx => ?_, star_app h.star fun A q B e x rr => ?_⟩
  · rw [List.nodup_append]
    refine ⟨h.nd, r.nd, fun a ha b hb e => ?_⟩
    rw [← e] at hb
    exact ((r.mem a).mp hb).2 ((h.got a).mpr ha)
  · rcases List.mem_append.mp hx with z | z
    · exact h.lt x z
    · exact r.lt x z
  · rw [r.got, h.got, List.mem_append]
  · by_cases c : x = i
    · rw [c]
      exact List.mem_append_right _ ((r.mem i).mpr ⟨rch_refl i, hi⟩)
    · exact List.mem_append_left _ (h.up x (by omega))
  · have hr := r.star A q B e x (by rw [edf]; exact rr)
    rw [edf] at hr
    rcases hr with z | z
    · exact .inl ((h.got x).mp z)
    · exact .inr z
theorem iv_bv {L : List Nat} {S : List Bool} (h : iv L = bv S) : S = [] := by
  cases S with
  | nil => rfl
  | cons b r =>
    cases L with
    | nil => cases h
    | cons n t => cases (List.cons.inj h).1
theorem LolAt.put {H : Hp} {l p : Addr} {LL : List (List Nat)} {S S2 : List Bool} (h : LolAt H l LL) (hl : l ≠ p) (hp : H p = some (.lst (bv S))) (hS : S ≠ []) {H' : Hp} (k : Kept p H H') : LolAt H' l LL := by
  obtain ⟨as, h1, h2⟩ := h
  refine ⟨as, k _ _ h1 hl, paired_mono (fun q L hq => k _ _ hq fun z => ?_) h2⟩
  rw [z, hp] at hq
  exact hS (iv_bv (HO.lst.inj (Option.some.inj hq)).symm)
theorem LolAt.push {H : Hp} {l p : Addr} {LL : List (List Nat)} {L : List Nat} (h : LolAt H l LL) (np : H p = none) : ∃ xs, (upd H p (.lst (iv L))) l = some (.lst xs) ∧ xs.length = LL.length ∧ LolAt (upd (upd H p (.lst (iv L))) l (.lst (xs ++ [.ref p]))) l (LL ++ [L]) := by
  obtain ⟨as, h1, h2⟩ := h
  have nl : l ≠ p := ne_of_none h1 np
  refine ⟨as.map V.ref, by rw [upd_ne nl]; exact h1, by rw [List.length_map]; exact paired_len h2, as ++ [p], by rw [upd_same, List.map_append]; rfl, paired_app ?_ (by rw [upd_ne nl.symm, upd_same])⟩
  have key : ∀ (q : Addr) (M : List Nat), q ∈ as → H q = some (.lst (iv M)) → q ≠ l := fun q M hq e z => by
    rw [z, h1] at e
    have e := HO.lst.inj (Option.some.inj e)
    have hm : V.ref q ∈ iv M := by rw [← e]; exact List.mem_map.mpr ⟨q, hq, rfl⟩
    obtain ⟨n, _, z2⟩ := List.mem_map.mp hm
    cases z2
  clear h1
  have go : ∀ {bs : List Addr} {MM : List (List Nat)}, (∀ q ∈ bs, q ∈ as) → Paired (fun (p : Addr) (L : List Nat) => H p = some (.lst (iv L))) bs MM → Paired (fun (q : Addr) (M : List Nat) => (upd (upd H p (.lst (iv L))) l (.lst (as.map V.ref ++ [.ref p]))) q = some (.lst (iv M))) bs MM := by
    intro bs MM hb hp
    induction hp with
    | nil => exact .nil
    | @cons q M bs MM r t ih =>
      refine .cons ?_ (ih fun x hx => hb x (List.mem_cons_of_mem _ hx))
      rw [upd_ne (key q M (hb q List.mem_cons_self) r), upd_ne (ne_of_none r np)]
      exact r
  exact go (fun q hq => hq) h2
/-- what a list tells is new -/
def NewIn (H H' : Hp) (l : Addr) : Prop := ∀ xs q, H' l = some (.lst xs) → V.ref q ∈ xs → H q = none
theorem NewIn.keep {H H' H2 : Hp} {l : Addr} (h : NewIn H H' l) (e : H2 l = H' l) : NewIn H H2 l := fun xs q hx hq => h xs q (e ▸ hx) hq
structure Pass2 (ts : List (Nat × Nat)) (N : Nat) (B : List Nat) (S : List Bool) (HS : List Nat) : Prop where
  ln : S.length = N
  got : ∀ x, Got S x ↔ ∃ y ∈ B, Mut (Ed ts) y x
  cl : ∀ u v, Got S u → v ∈ outs (swaps ts) [] u → Got S v
  rep : HS.Pairwise fun a b => ¬ Mut (Ed ts) a b
  sub : ∀ q ∈ HS, q ∈ B
  all : ∀ y ∈ B, ∃ q ∈ HS, Mut (Ed ts) y q
theorem pass2_start (ts : List (Nat × Nat)) (N : Nat) : Pass2 ts N [] (List.replicate N false) [] :=
  ⟨by simp, fun x => ⟨fun h => absurd h (no_got N x), fun ⟨y, hy, _⟩ => by simp at hy⟩, fun u v h => absurd h (no_got N u), by simp, by simp, by simp⟩
theorem pass2_old {ts : List (Nat × Nat)} {N q : Nat} {B : List Nat} {S : List Bool} {HS : List Nat} (h : Pass2 ts N B S HS) (hq : Got S q) : Pass2 ts N (B ++ [q]) S HS := by
  obtain ⟨y0, hy0, m0⟩ := (h.got q).mp hq
  refine ⟨h.ln, fun x => ?_, h.cl, h.rep, fun z hz => List.mem_append_left _ (h.sub z hz), fun y hy => ?_⟩
  · rw [h.got]
    constructor
    · rintro ⟨y, hy, m⟩
      exact ⟨y, List.mem_append_left _ hy, m⟩
    · rintro ⟨y, hy, m⟩
      rcases List.mem_append.mp hy with z | z
      · exact ⟨y, z, m⟩
      · rw [List.mem_singleton.mp z] at m
        exact ⟨y0, hy0, m0.trans m⟩
  · rcases List.mem_append.mp hy with z | z
    · exact h.all y z
    · rw [List.mem_singleton.mp z]
      obtain ⟨r, hr, m⟩ := h.all y0 hy0
      exact ⟨r, hr, m0.symm.trans m⟩
theorem pass2_mem {ts : List (Nat × Nat)} {N q : Nat} {A B L : List Nat} {S S' : List Bool} {HS M : List Nat} (ho : OkWeb N ts) (h : Pass2 ts N B S HS) (hL : L = A ++ q :: B.reverse) (hst : StarL (Ed ts) L) (hnd : L.Nodup) (hall : ∀ x, x < N → x ∈ L) (hqN : q < N) (hq : ¬ Got S q) (r : LfRes (outs (swaps ts) []) N q S S' M) (x : Nat) : x ∈ M ↔ x < N ∧ Mut (Ed ts) q x := by
  subst hL
  have hc := class_of hst hnd (fun y hy => hall y (rch_low (fun a b e => (ed_low ho e).1) hqN hy)) (S := Got S) (fun y => by rw [h.got]; simp) hq x
  rw [r.mem, edf, rch_back (fun a b => ed_swaps a b), hc]
  exact ⟨fun z => ⟨rch_low (fun a b e => (ed_low ho e).1) hqN z.2, z⟩, fun z => z.2⟩
theorem pass2_new {ts : List (Nat × Nat)} {N q : Nat} {B : List Nat} {S S' : List Bool} {HS M : List Nat} (ho : OkWeb N ts) (h : Pass2 ts N B S HS) (hq : ¬ Got S q) (hqN : q < N) (r : LfRes (outs (swaps ts) []) N q S S' M) (hm : ∀ x, x ∈ M ↔ x < N ∧ Mut (Ed ts) q x) : Pass2 ts N (B ++ [q]) S' (HS ++ [q]) := by
  refine ⟨r.ln, fun x => ?_, r.cl, ?_, fun z hz => ?_, fun y hy => ?_⟩
  · rw [r.got, h.got, hm]
    constructor
    · rintro (⟨y, hy, m⟩ | ⟨_, m⟩)
      · exact ⟨y, List.mem_append_left _ hy, m⟩
      · exact ⟨q, by simp, m⟩
    · rintro ⟨y, hy, m⟩
      rcases List.mem_append.mp hy with z | z
      · exact .inl ⟨y, z, m⟩
      · rw [List.mem_singleton.mp z] at m
        exact .inr ⟨rch_low (fun a b e => (ed_low ho e).1) hqN m.2, m⟩
  · rw [List.pairwise_append]
    refine ⟨h.rep, by simp, fun a ha b hb m => ?_⟩
    rw [List.mem_singleton.mp hb] at m
    exact hq ((h.got q).mpr ⟨a, h.sub a ha, m⟩)
  · rcases List.mem_append.mp hz with w | w
    · exact List.mem_append_left _ (h.sub z w)
    · exact List.mem_append_right _ w
  · rcases List.mem_append.mp hy with z | z
    · obtain ⟨p, hp, m⟩ := h.all y z
      exact ⟨p, List.mem_append_left _ hp, m⟩
    · rw [List.mem_singleton.mp z]
      exact ⟨q, by simp, mut_refl q⟩
section
variable {P : Program} {w : World} {K : PySem.W.Frag} {mg : Str → Option Value} {base : Heap} {C : Addr}
/-- steps: whence, whither, and a number that nobody asks -/
def StepsG (H : Hp) (l : Addr) (ts : List (Nat × Nat)) : Prop := ∃ sas : List Addr, H l = some (.lst (sas.map V.ref)) ∧ sas.length = ts.length ∧ ∀ (i u v : Nat), ts[i]? = some (u, v) → ∃ (p : Addr) (k : Nat), sas[i]? = some p ∧ H p = some (.tup [.int (u : Int), .int (v : Int), .int (k : Int)])
theorem StepsAt.g {H : Hp} {l : Addr} {ts : List (Nat × Nat)} (h : StepsAt H l ts) : StepsG H l ts := by
  obtain ⟨sas, h1, h2, h3⟩ := h
  exact ⟨sas, h1, h2, fun i u v e => by obtain ⟨p, a, b⟩ := h3 i u v e; exact ⟨p, i, a, b⟩⟩
def spparts_in_turn (_ : PySem.W.Frag) (_ : Addr) : Sp := fun vs H Q _ => ∃ N s ts, vs = [.int ((N : Nat) : Int), .ref s] ∧ StepsG H s ts ∧ OkWeb N ts ∧ ∀ H' l (hs : List Nat), H l = none → Same H H' → hs.Perm (headsL (Ed ts) N) → LolAt H' l (hs.map (clsL (Ed ts) N)) → NewIn H H' l → Q (.ref l) H'
theorem okparts_in_turn (D : Def K mg "parts_in_turn" sparts_in_turn ["points", "steps"]) (B : Bs mg) (Glb : Glo mg) (WK : WebK K mg C)
    (h_left_from : Good P w K mg base "_left_from" s_left_from ["ends", "point", "seen"] 1 (sp_left_from K C)) :
    Good P w K mg base "parts_in_turn" sparts_in_turn ["points", "steps"] 2 (spparts_in_turn K C) := by
  refine D.good fun f fd F => ?_
  obtain ⟨f_left_from, d_left_from, O_left_from, m_left_from, k_left_from, b_left_from, F_left_from⟩ := h_left_from
  refine F.ok scparts_in_turn (fun vs H Q E h => ?_) (fun cdv A outer s H vs Q E hr h => ?_)
  · obtain ⟨N, s, ts, rfl, hs, ho, q⟩ := h
    first | rfl | (rcases h with ⟨_, _, rfl, _⟩ | ⟨_, rfl, _⟩ <;> rfl)
  obtain ⟨N, s, ts, rfl, hs, ho, q⟩ := h
  refine ⟨_, (pss_cons (ps_setLc (i := 2) (own := [("_", 6)]) (g := gName 6) (by rfl) scparts_in_turn.nd rfl rfl (sw_true rfl rfl rfl (by decide +kernel)) (pi_range1 (by rfl) B.range (pa_cons (pv 0) pa_nil)) (blkOk_by (own := [("_", 6)]) (N := ["points", "steps", "ahead", "behind", "near", "far", "_", "left", "seen", "point", "parts"]) (sc := defScope sparts_in_turn) (by decide +kernel)) (fun _ _ _ _ _ => (pg_name (i := 6) scparts_in_turn.nd rfl (by first | exact Or.inl rfl | exact Or.inr rfl))) (fun _ _ _ _ _ => pts_nil) (fun _ _ _ _ _ => (pe_lst pa_nil)))
  (pss_cons (ps_setLc (i := 3) (own := [("_", 6)]) (g := gName 6) (by rfl) scparts_in_turn.nd rfl rfl (sw_true rfl rfl rfl (by decide +kernel)) (pi_range1 (by rfl) B.range (pa_cons (pv 0) pa_nil)) (blkOk_by (own := [("_", 6)]) (N := ["points", "steps", "ahead", "behind", "near", "far", "_", "left", "seen", "point", "parts"]) (sc := defScope sparts_in_turn) (by decide +kernel)) (fun _ _ _ _ _ => (pg_name (i := 6) scparts_in_turn.nd rfl (by first | exact Or.inl rfl | exact Or.inr rfl))) (fun _ _ _ _ _ => pts_nil) (fun _ _ _ _ _ => (pe_lst pa_nil)))
  (pss_cons (ps_for PassesOwn.never rfl (pi_list (pv 1)) (pg_tup rfl (pgs_cons (pg_name (i := 4) scparts_in_turn.nd rfl (by first | exact Or.inl rfl | exact Or.inr rfl)) (pgs_cons (pg_name (i := 5) scparts_in_turn.nd rfl (by first | exact Or.inl rfl | exact Or.inr rfl)) (pgs_cons (pg_name (i := 6) scparts_in_turn.nd rfl (by first | exact Or.inl rfl | exact Or.inr rfl)) pgs_nil))))
    (pss_cons (ps_expr (pe_bm PySem.F.plainAttrs_list PySem.F.slot_list_append PySem.F.type_list_append mt_append (pe_ix ix_list (pv 2) (pv 4) (fun _ _ => rfl)) (pa_cons (pv 5) pa_nil)))
  (pss_one (ps_expr (pe_bm PySem.F.plainAttrs_list PySem.F.slot_list_append PySem.F.type_list_append mt_append (pe_ix ix_list (pv 3) (pv 5) (fun _ _ => rfl)) (pa_cons (pv 4) pa_nil))))))
  (pss_cons (ps_set (i := 7) scparts_in_turn.nd rfl (by first | exact Or.inl rfl | exact Or.inr rfl) (pe_lst pa_nil))
  (pss_cons (ps_set (i := 8) scparts_in_turn.nd rfl (by first | exact Or.inl rfl | exact Or.inr rfl) (pe_op op_rep (pe_lst (pa_cons pe_bl pa_nil)) (pv 0)))
  (pss_cons (ps_for PassesOwn.never rfl (pi_range1 (by rfl) B.range (pa_cons (pv 0) pa_nil)) (pg_name (i := 9) scparts_in_turn.nd rfl (by first | exact Or.inl rfl | exact Or.inr rfl))
    (pss_one (ps_if (pt_not (pt_val (pe_ix ix_list (pv 8) (pv 9) (fun _ _ => rfl))))
    (pss_one (ps_expr (pe_bm PySem.F.plainAttrs_list PySem.F.slot_list_extend PySem.F.type_list_extend mt_extend (pv 7) (pa_cons (pe_call O_left_from hr rfl m_left_from k_left_from b_left_from .nil pass0 (pa_cons (pv 2) (pa_cons (pv 9) (pa_cons (pv 8) pa_nil)))) pa_nil)))) pss_nil)))
  (pss_cons (ps_set (i := 10) scparts_in_turn.nd rfl (by first | exact Or.inl rfl | exact Or.inr rfl) (pe_lst pa_nil))
  (pss_cons (ps_set (i := 8) scparts_in_turn.nd rfl (by first | exact Or.inl rfl | exact Or.inr rfl) (pe_op op_rep (pe_lst (pa_cons pe_bl pa_nil)) (pv 0)))
  (pss_cons (ps_for PassesOwn.never rfl (pi_list (pe_revL (pv 7))) (pg_name (i := 9) scparts_in_turn.nd rfl (by first | exact Or.inl rfl | exact Or.inr rfl))
    (pss_one (ps_if (pt_not (pt_val (pe_ix ix_list (pv 8) (pv 9) (fun _ _ => rfl))))
    (pss_one (ps_expr (pe_bm PySem.F.plainAttrs_list PySem.F.slot_list_append PySem.F.type_list_append mt_append (pv 10) (pa_cons (pe_callB cr_sortedI (by rfl) B.sorted (by decide +kernel) (pa_cons (pe_call O_left_from hr rfl m_left_from k_left_from b_left_from .nil pass0 (pa_cons (pv 3) (pa_cons (pv 9) (pa_cons (pv 8) pa_nil)))) pa_nil)) pa_nil)))) pss_nil)))
  (pss_one (ps_ret (pv 10)))))))))))), ?_⟩
  have hN := ho.n1
  have hm := ho.m
  refine ⟨_, rfl, _, rfl, by omega, by omega, fun D1 nD1 => ?_⟩
  refine lc_range (lo := 0) (n := N) (fun i H' => Fresh H D1 i H') (Fresh.zero nD1) ?_ ?_
  · intro i H' hi hf
    exact ⟨rfl, Nat.zero_le _, fun p np => hf.step nD1 (by omega) np⟩
  rintro H1 ⟨fas, f1, f2, f3, f4, f5, f6⟩
  refine ⟨_, rfl, _, rfl, by omega, by omega, fun D2 nD2 => ?_⟩
  refine lc_range (lo := 0) (n := N) (fun i H' => Fresh H1 D2 i H') (Fresh.zero nD2) ?_ ?_
  · intro i H' hi hf
    exact ⟨rfl, Nat.zero_le _, fun p np => hf.step nD2 (by omega) np⟩
  rintro H2 ⟨os, g1, g2, g3, g4, g5, g6⟩
  obtain ⟨sas, s1, s2, s3⟩ := hs
  have fo : ∀ x ∈ fas, x ∉ os := fun x hx z => by
    have h := (g3 x z).1
    rw [f6 x hx] at h
    cases h
  have D1f : D1 ∉ fas := fun z => (f3 D1 z).2 rfl
  have D1o : D1 ∉ os := fun z => by
    have h := (g3 D1 z).1
    rw [f5] at h
    cases h
  have D2o : D2 ∉ os := fun z => (g3 D2 z).2 rfl
  have D2f : D2 ∉ fas := fun z => by
    have h := f6 D2 z
    rw [nD2] at h
    cases h
  have nin : ∀ {b : Addr}, b ∉ fas → b ∉ os → b ∉ fas ++ os := fun h1 h2 z => (List.mem_append.mp z).elim h1 h2
  have old : ∀ b o, H b = some o → H2 b = some o ∧ b ∉ fas ++ os := fun b o e => by
    have h5 := f4 _ _ e
    refine ⟨g4 _ _ h5, nin (fun z => ?_) (fun z => ?_)⟩
    · rw [(f3 b z).1] at e; cases e
    · rw [(g3 b z).1] at h5; cases h5
  have hD12 : H2 D1 = some (.lst (fas.map V.ref)) := g4 _ _ f5
  refine ⟨_, rfl, s, rfl, ⟨_, SqL.of (old _ _ s1).1⟩, ?_⟩
  refine for_list (K := K) (a := s) (xs := sas.map V.ref) (fun i σ H' => ∃ v4 v5 v6 : Option V, σ = [some (.int (N : Int)), some (.ref s), some (.ref D1), some (.ref D2), v4, v5, v6, none, none, none, none] ∧ KeptR (fas ++ os) H2 H' ∧ (∀ (j : Nat) (x : Addr), fas[j]? = some x → H' x = some (.lst (iv (outN ts [] j i)))) ∧ (∀ (j : Nat) (x : Addr), os[j]? = some x → H' x = some (.lst (iv (outN (swaps ts) [] j i))))) ?_ ?_ ?_ ?_
  · exact ⟨_, _, _, rfl, .refl _ _, fun j x e => g4 _ _ (f6 x (List.mem_of_getElem? e)), fun j x e => g6 x (List.mem_of_getElem? e)⟩
  · rintro i σ H' hi ⟨v4, v5, v6, rfl, hk, _⟩
    exact SqL.of (hk _ _ (old _ _ s1).1 (old _ _ s1).2)
  · rintro i x σ H3 hx ⟨v4, v5, v6, rfl, hk, hf, hos⟩
    have hi := (List.getElem?_eq_some_iff.mp hx).1
    rw [List.length_map] at hi
    obtain ⟨⟨u, v⟩, he⟩ : ∃ e, ts[i]? = some e := ⟨ts[i]'(by omega), List.getElem?_eq_getElem _⟩
    obtain ⟨p, kk, e1, e2⟩ := s3 i u v he
    rw [List.getElem?_map, e1] at hx
    cases hx
    obtain ⟨hu, hv⟩ := ho.ok _ (List.mem_of_getElem? he)
    have hp3 : H3 p = some (.tup [.int (u : Int), .int (v : Int), .int (kk : Int)]) := hk _ _ (old _ _ e2).1 (old _ _ e2).2
    obtain ⟨xu, eu⟩ : ∃ x, fas[u]? = some x := ⟨fas[u]'(by omega), List.getElem?_eq_getElem _⟩
    obtain ⟨xv, ev⟩ : ∃ x, os[v]? = some x := ⟨os[v]'(by omega), List.getElem?_eq_getElem _⟩
    have mu := List.mem_of_getElem? eu
    have mv := List.mem_of_getElem? ev
    have hxu := hf u xu eu
    have hbi : i < 1000 := by omega
    refine ⟨p, _, rfl, SqT.of hp3, rfl, _, _, rfl, _, _, rfl, _, _, rfl, rfl, ?_⟩
    refine ⟨_, rfl, _, rfl, _, _, _, .ref xu, rfl, rfl, SqL.of (hk _ _ hD12 (nin D1f D1o)), atI_nat (by rw [List.getElem?_map, eu]; rfl), .inl ⟨rfl, _, SqL.of hxu⟩, _, rfl, xu, _, _, rfl, rfl, hxu, ?_, ?_⟩
    · rw [List.length_map]
      exact Nat.lt_of_le_of_lt (outN_len ts [] u i) (Nat.lt_trans hbi (by decide))
    have hk4 : KeptR (fas ++ os) H2 (upd H3 xu (.lst (iv (outN ts [] u i) ++ [.int (v : Int)]))) := hk.put (List.mem_append_left _ mu)
    have hf4 := row_put f2 eu hf (g := fun j => outN ts [] j (i + 1)) (v := v) (outN_at he)
    have ho4 : ∀ (j : Nat) (x : Addr), os[j]? = some x → (upd H3 xu (.lst (iv (outN ts [] u i) ++ [.int (v : Int)]))) x = some (.lst (iv (outN (swaps ts) [] j i))) := fun j x e => by
      rw [upd_ne (fun z => fo xu mu (by rw [← z]; exact List.mem_of_getElem? e))]
      exact hos j x e
    generalize upd H3 xu (.lst (iv (outN ts [] u i) ++ [.int (v : Int)])) = H4 at hk4 hf4 ho4
    have hxv := ho4 v xv ev
    refine ⟨_, rfl, _, rfl, _, _, _, .ref xv, rfl, rfl, SqL.of (hk4 _ _ g5 (nin D2f D2o)), atI_nat (by rw [List.getElem?_map, ev]; rfl), .inl ⟨rfl, _, SqL.of hxv⟩, _, rfl, xv, _, _, rfl, rfl, hxv, ?_, ?_⟩
    · rw [List.length_map]
      exact Nat.lt_of_le_of_lt (outN_len (swaps ts) [] v i) (Nat.lt_trans hbi (by decide))
    refine ⟨_, _, _, rfl, hk4.put (List.mem_append_right _ mv), fun j x e => ?_, row_put (u := v) (v := u) (f := fun j => outN (swaps ts) [] j i) (g := fun j => outN (swaps ts) [] j (i + 1)) g2 ev ho4 (outN_at (swaps_at he))⟩
    rw [upd_ne (fun z => fo x (List.mem_of_getElem? e) (by rw [z]; exact mv))]
    exact hf4 j x e
  rintro σ H3 ⟨v4, v5, v6, rfl, hk, hf, hos⟩
  rw [List.length_map, s2] at hf hos
  rw [← swaps_len ts] at hos
  have hS03 : Same H H3 := fun b o e => hk _ _ (old _ _ e).1 (old _ _ e).2
  have hR1 : RowsAt H3 D1 N (outs ts []) := ⟨fas, hk _ _ hD12 (nin D1f D1o), f1, hf⟩
  have hR2 : RowsAt H3 D2 N (outs (swaps ts) []) := ⟨os, hk _ _ g5 (nin D2f D2o), g1, hos⟩
  clear hk hf hos hD12
  refine ⟨Nat.zero_le _, fun ll nll => ⟨(by show 1 ≤ sizeLine; decide), fun b1 nb1 => ⟨_, rfl, b1, _, _, rfl, rfl, upd_same, by omega, by omega, ?_, fun sl nsl => ?_⟩⟩⟩
  · show 1 * (N : Int).toNat ≤ sizeLine
    rw [Int.toNat_natCast, Nat.one_mul]
    exact Nat.le_trans hN (by decide)
  rw [rep_false]
  have hS34 : Same H3 (upd (upd (upd H3 ll (.lst [])) b1 (.lst [.bl false])) sl (.lst (bv (List.replicate N false)))) := fun b o e => same_new nsl _ _ _ (same_new nb1 _ _ _ (same_new nll _ _ _ e))
  have hsl4 : (upd (upd (upd H3 ll (.lst [])) b1 (.lst [.bl false])) sl (.lst (bv (List.replicate N false)))) sl = some (.lst (bv (List.replicate N false))) := upd_same
  have hll4 : (upd (upd (upd H3 ll (.lst [])) b1 (.lst [.bl false])) sl (.lst (bv (List.replicate N false)))) ll = some (.lst (iv [])) := same_new nsl _ _ _ (same_new nb1 _ _ _ upd_same)
  have nls : ll ≠ sl := ne_of_none (same_new nb1 (.lst [.bl false]) _ _ (upd_same (H := H3) (a := ll) (o := .lst []))) nsl
  have nsl3 : H3 sl = none := by
    have h1 : Same H3 (upd (upd H3 ll (.lst [])) b1 (.lst [.bl false])) := fun b o e => same_new nb1 _ _ _ (same_new nll _ _ _ e)
    exact h1.free nsl
  generalize upd (upd (upd H3 ll (.lst [])) b1 (.lst [.bl false])) sl (.lst (bv (List.replicate N false))) = H4 at hS34 hsl4 hll4
  refine ⟨_, rfl, _, rfl, by omega, by omega, ?_⟩
  refine for_range (lo := 0) (n := N) (fun i σ H' => ∃ (v9 : Option V) (L : List Nat) (S : List Bool), σ = [some (.int (N : Int)), some (.ref s), some (.ref D1), some (.ref D2), v4, v5, v6, some (.ref ll), some (.ref sl), v9, none] ∧ Same H3 H' ∧ H' ll = some (.lst (iv L)) ∧ H' sl = some (.lst (bv S)) ∧ Pass1 ts N i L S) ⟨_, [], _, rfl, hS34, hll4, hsl4, pass1_start ts N⟩ ?_ ?_
  · rintro i σ H5 hi ⟨v9, L, S, rfl, hS5, hll5, hsl5, p1⟩
    rw [Int.zero_add]
    rcases bl_of (L := S) (j := i) (by rw [p1.ln]; exact hi) with hb | hb
    · exact ⟨_, rfl, _, rfl, _, _, _, _, rfl, rfl, SqL.of hsl5, bv_at hb, _, rfl, iteF ⟨_, L, S, rfl, hS5, hll5, hsl5, pass1_old p1 hb⟩⟩
    · refine ⟨_, rfl, _, rfl, _, _, _, _, rfl, rfl, SqL.of hsl5, bv_at hb, _, rfl, iteT ?_⟩
      have hno : ¬ Got S i := fun z => by unfold Got at z; rw [hb] at z; cases z
      refine ⟨_, rfl, .inl ⟨rfl, _, SqL.of hll5⟩, _, rfl, _, rfl, _, rfl, D1, i, sl, outs ts [], N, S, rfl, hR1.same hS5, lf_ok ho, hi, hsl5, p1.ln, hno, p1.cl, fun H6 m M S' nm hm6 hs6 hk6 res => ?_⟩
      have hll6 := hk6 _ _ hll5 nls
      have p1' := pass1_new p1 res hno
      have hfew := few p1'.nd p1'.lt
      rw [List.length_append] at hfew
      refine ⟨ll, m, _, _, rfl, rfl, hll6, hm6, ?_, ?_⟩
      · rw [List.length_map, List.length_map]
        exact Nat.le_trans hfew (Nat.le_trans hN (by decide))
      refine ⟨_, L ++ M, S', rfl, fun b o e => ?_, by rw [upd_same, iv, iv, iv, List.map_append], by rw [upd_ne nls.symm]; exact hs6, p1'⟩
      rw [upd_ne (ne_of_none e nll)]
      exact hk6 _ _ (hS5 _ _ e) (ne_of_none e nsl3)
  rintro σ H5 ⟨v9, L, S1, rfl, hS5, hll5, hsl5, p1⟩
  have hS05 := hS03.trans hS5
  have pN : ∀ x, x < N → x ∈ L := p1.up
  refine ⟨Nat.zero_le _, fun pl npl => ⟨(by show 1 ≤ sizeLine; decide), fun b2 nb2 => ⟨_, rfl, b2, _, _, rfl, rfl, upd_same, by omega, by omega, ?_, fun tl ntl => ?_⟩⟩⟩
  · show 1 * (N : Int).toNat ≤ sizeLine
    rw [Int.toNat_natCast, Nat.one_mul]
    exact Nat.le_trans hN (by decide)
  rw [rep_false]
  have hSq : Same H5 (upd (upd H5 pl (.lst [])) b2 (.lst [.bl false])) := fun b o e => same_new nb2 _ _ _ (same_new npl _ _ _ e)
  have hS56 : Same H5 (upd (upd (upd H5 pl (.lst [])) b2 (.lst [.bl false])) tl (.lst (bv (List.replicate N false)))) := fun b o e => same_new ntl _ _ _ (hSq _ _ e)
  have hpl6 : LolAt (upd (upd (upd H5 pl (.lst [])) b2 (.lst [.bl false])) tl (.lst (bv (List.replicate N false)))) pl [] := ⟨[], same_new ntl _ _ _ (same_new nb2 _ _ _ upd_same), .nil⟩
  have htl6 : (upd (upd (upd H5 pl (.lst [])) b2 (.lst [.bl false])) tl (.lst (bv (List.replicate N false)))) tl = some (.lst (bv (List.replicate N false))) := upd_same
  have npt : pl ≠ tl := ne_of_none (same_new nb2 (.lst [.bl false]) _ _ (upd_same (H := H5) (a := pl) (o := .lst []))) ntl
  have ntl5 : H5 tl = none := hSq.free ntl
  have npl0 : H pl = none := hS05.free npl
  generalize upd (upd (upd H5 pl (.lst [])) b2 (.lst [.bl false])) tl (.lst (bv (List.replicate N false))) = H6 at hS56 hpl6 htl6
  refine ⟨_, rfl, ll, _, rfl, SqL.of (hS56 _ _ hll5), fun rl nrl => ⟨rl, rfl, ⟨_, SqL.of upd_same⟩, ?_⟩⟩
  have hS57 : Same H5 (upd H6 rl (.lst (iv L).reverse)) := fun b o e => same_new nrl _ _ _ (hS56 _ _ e)
  have hpl7 := hpl6.same (same_new nrl (.lst (iv L).reverse))
  have htl7 := same_new nrl (.lst (iv L).reverse) _ _ htl6
  have hrl7 : (upd H6 rl (.lst (iv L).reverse)) rl = some (.lst (iv L.reverse)) := by rw [upd_same, iv, iv, List.map_reverse]
  have nrt : rl ≠ tl := (ne_of_none htl6 nrl).symm
  have nrp : rl ≠ pl := by
    obtain ⟨as, e, _⟩ := hpl6
    exact (ne_of_none e nrl).symm
  have hni7 : NewIn H (upd H6 rl (.lst (iv L).reverse)) pl := fun xs q hx hq => by
    obtain ⟨as, e, hp⟩ := hpl7
    cases hp
    rw [e] at hx
    cases hx
    simp at hq
  generalize upd H6 rl (.lst (iv L).reverse) = H7 at hni7 hS57 hpl7 htl7 hrl7
  refine for_list (K := K) (a := rl) (xs := iv L.reverse) (fun i σ H' => ∃ (v9 : Option V) (S : List Bool) (HS : List Nat), σ = [some (.int (N : Int)), some (.ref s), some (.ref D1), some (.ref D2), v4, v5, v6, some (.ref ll), some (.ref tl), v9, some (.ref pl)] ∧ Same H5 H' ∧ H' rl = some (.lst (iv L.reverse)) ∧ H' tl = some (.lst (bv S)) ∧ LolAt H' pl (HS.map (clsL (Ed ts) N)) ∧ NewIn H H' pl ∧ Pass2 ts N (L.reverse.take i) S HS) ⟨_, _, [], rfl, hS57, hrl7, htl7, hpl7, hni7, pass2_start ts N⟩ (fun i σ H' _ ⟨_, _, _, _, _, h, _⟩ => SqL.of h) ?_ ?_
  · rintro i x σ H8 hx ⟨v9', S, HS, rfl, hS8, hrl8, htl8, hpl8, hni8, p2⟩
    rw [List.getElem?_map] at hx
    obtain ⟨q0, hq0, rfl⟩ : ∃ q, L.reverse[i]? = some q ∧ x = V.int (q : Int) := by
      cases e : L.reverse[i]? with
      | none => rw [e] at hx; cases hx
      | some q => rw [e] at hx; exact ⟨q, rfl, (Option.some.inj hx).symm⟩
    have hqN : q0 < N := p1.lt q0 (List.mem_reverse.mp (List.mem_of_getElem? hq0))
    have htk := take_snocE hq0
    have hL : L = (L.reverse.drop (i + 1)).reverse ++ q0 :: (L.reverse.take i).reverse := by
      have e1 : L.reverse = L.reverse.take i ++ q0 :: L.reverse.drop (i + 1) := by
        conv => lhs; rw [← List.take_append_drop (i + 1) L.reverse, htk]
        simp
      have e2 := congrArg List.reverse e1
      rw [List.reverse_reverse] at e2
      exact e2.trans (by rw [List.reverse_append, List.reverse_cons, List.append_assoc]; rfl)
    rcases bl_of (L := S) (j := q0) (by rw [p2.ln]; exact hqN) with hb | hb
    · exact ⟨_, rfl, _, rfl, _, _, _, _, rfl, rfl, SqL.of htl8, bv_at hb, _, rfl, iteF ⟨_, S, HS, rfl, hS8, hrl8, htl8, hpl8, hni8, by rw [htk]; exact pass2_old p2 hb⟩⟩
    · refine ⟨_, rfl, _, rfl, _, _, _, _, rfl, rfl, SqL.of htl8, bv_at hb, _, rfl, iteT ?_⟩
      have hno : ¬ Got S q0 := fun z => by unfold Got at z; rw [hb] at z; cases z
      have hSne : S ≠ [] := fun z => by have := p2.ln; rw [z] at this; simp at this; omega
      obtain ⟨as8, hpl8a, hpl8b⟩ := id hpl8
      refine ⟨_, rfl, .inl ⟨rfl, _, SqL.of hpl8a⟩, _, rfl, _, rfl, _, rfl, D2, q0, tl, outs (swaps ts) [], N, S, rfl, hR2.same (hS5.trans hS8), lf_ok (okWeb_swaps ho), hqN, htl8, p2.ln, hno, p2.cl, fun H9 m M S' nm hm9 hs9 hk9 res => ?_⟩
      have hmm := pass2_mem ho p2 hL p1.star p1.nd pN hqN hno res
      have p2' := pass2_new ho p2 hno hqN res hmm
      refine ⟨m, cn M, rfl, SqL.of (by rw [hm9, iv_iz]), fun ys yl hperm hsort nyl => ?_⟩
      have hys := cls_sorted (E := Ed ts) (N := N) (q := q0) res.nd hmm hperm hsort
      subst hys
      have hpl9 := hpl8.put (S2 := S) npt htl8 hSne hk9
      obtain ⟨xs, g1', g2', g3'⟩ := hpl9.push (L := clsL (Ed ts) N q0) nyl
      rw [show (cn (clsL (Ed ts) N q0)).map V.int = iv (clsL (Ed ts) N q0) from (iv_iz _).symm]
      refine ⟨pl, _, _, rfl, rfl, g1', ?_, ?_⟩
      · rw [g2', List.length_map]
        have hnd : HS.Nodup := p2.rep.imp fun {a b} h e => h (by rw [e]; exact mut_refl b)
        have := few (N := N) hnd (fun y hy => p1.lt y (List.mem_reverse.mp (List.mem_of_mem_take (p2.sub y hy))))
        exact Nat.lt_of_le_of_lt (Nat.le_trans this hN) (by decide)
      refine ⟨_, S', HS ++ [q0], rfl, fun b o e => ?_, ?_, ?_, by rw [List.map_append]; exact g3', ?_, by rw [htk]; exact p2'⟩
      · rw [upd_ne (ne_of_none e npl)]
        exact same_new nyl _ _ _ (hk9 _ _ (hS8 _ _ e) (ne_of_none e ntl5))
      · rw [upd_ne nrp]
        exact same_new nyl _ _ _ (hk9 _ _ hrl8 nrt)
      · rw [upd_ne npt.symm]
        exact same_new nyl _ _ _ hs9
      · intro zs q1 hz hq1
        rw [upd_same] at hz
        cases hz
        have hpl8k : H9 pl = H8 pl := by
          rw [hpl8a]
          exact hk9 _ _ hpl8a npt
        rcases List.mem_append.mp hq1 with z | z
        · refine hni8 xs q1 ?_ z
          rw [← hpl8k]
          rw [upd_ne (ne_of_none (hk9 _ _ hpl8a npt) nyl)] at g1'
          exact g1'
        · have z := V.ref.inj (List.mem_singleton.mp z)
          rw [z]
          exact hS05.free (hS8.free (by
            cases e : H8 yl with
            | none => rfl
            | some o =>
              by_cases c : yl = tl
              · rw [c, hs9] at nyl; cases nyl
              · rw [hk9 _ _ e c] at nyl; cases nyl))
  rintro σ H8 ⟨v9', S, HS, rfl, hS8, hrl8, htl8, hpl8, hni8, p2⟩
  rw [List.length_map, List.take_length] at p2
  obtain ⟨hs, hperm, heq⟩ := reps_heads (N := N) p2.rep (fun q hq => p1.lt q (List.mem_reverse.mp (p2.sub q hq))) (fun x hx => p2.all x (List.mem_reverse.mpr (pN x hx)))
  rw [heq] at hpl8
  exact ⟨_, rfl, q H8 pl hs npl0 (hS05.trans hS8) hperm hpl8 hni8⟩
end
end My
set_option maxHeartbeats 4000000
namespace My
open PySem L2 PyProof.Rows
/-- a dict of what is seen -/
abbrev dM (M : List Nat) : List (Key × V) := M.map fun n : Nat => ((Sum.inl (n : Int) : Key), V.bl true)
theorem dM_some (M : List Nat) (n : Nat) : (valV (dM M) (Sum.inl (n : Int))).isSome = decide (n ∈ M) := by
  induction M with
  | nil => rfl
  | cons a r ih =>
    by_cases c : a = n
    · subst c
      rw [show dM (a :: r) = ((Sum.inl (a : Int) : Key), V.bl true) :: dM r from rfl, valV_pos rfl]
      simp
    · rw [show dM (a :: r) = ((Sum.inl (a : Int) : Key), V.bl true) :: dM r from rfl, valV_neg (fun z => c (by injection z with z; omega)), ih]
      have : ¬ n = a := fun z => c z.symm
      simp [this]
theorem dM_put {M : List Nat} {n : Nat} (h : n ∉ M) : putK (dM M) (Sum.inl (n : Int)) (.bl true) = dM (M ++ [n]) := by
  unfold putK
  have e := valV_any (Sum.inl (n : Int) : Key) (dM M)
  rw [dM_some, decide_eq_false h] at e
  rw [e, if_neg Bool.false_ne_true]
  show dM M ++ _ = List.map _ (M ++ [n])
  rw [List.map_append]
  rfl
theorem outs_far (us : List (Nat × Nat)) (x : Nat) : outs us [] x = (outB us x).map (farT us) := by
  have key : ∀ i, i ≤ us.length → outN us [] x i = ((List.range i).filter fun t => decide (nearT us t = x)).map (farT us) := by
    intro i
    induction i with
    | zero => intro _; rfl
    | succ i ih =>
      intro hi
      obtain ⟨⟨u, v⟩, he⟩ : ∃ e, us[i]? = some e := ⟨us[i]'(by omega), List.getElem?_eq_getElem _⟩
      have hn : nearT us i = u := by unfold nearT; rw [he]; rfl
      have hf : farT us i = v := by unfold farT; rw [he]; rfl
      rw [outN_at he, List.range_succ, List.filter_append, List.map_append, ih (by omega)]
      by_cases c : u = x
      · rw [if_pos c, List.filter_cons_of_pos (by rw [hn]; simpa using c), List.filter_nil]
        show _ = _ ++ [farT us i]
        rw [hf]
      · rw [if_neg c, List.filter_cons_of_neg (by rw [hn]; simpa using c), List.filter_nil, List.map_nil, List.append_nil]
  exact key us.length (Nat.le_refl _)
def lastV : Option Nat → V
  | none => .non
  | some e => .int (e : Int)
def spI (us : List (Nat × Nat)) (lo : Option Nat) : List Nat := (List.range us.length).filter fun t => decide (some (nearT us t) ≠ lo)
theorem spI_mem {us : List (Nat × Nat)} {lo : Option Nat} {t : Nat} : t ∈ spI us lo ↔ t < us.length ∧ some (nearT us t) ≠ lo := by
  unfold spI
  rw [List.mem_filter, List.mem_range, decide_eq_true_eq]
abbrev Spr (us : List (Nat × Nat)) (lo : Option Nat) (b x : Nat) : Prop := Rc us (fun t => t ∈ spI us lo) b x
theorem Met.turnB {N : Nat} {ts : List (Nat × Nat)} {I : List Nat} {p x : Nat} {M R J : List Nat} (hIl : ∀ t ∈ I, t < ts.length) (hJ : ∀ t ∈ I, t ∈ outB ts x → t ∈ J) (h : Met N ts I p M R (some x) J) : Met N ts I p M R none [] :=
  ⟨h.nd, h.lt, h.pm, h.sub, h.rc, fun y hy hn _ t ht e => by
    by_cases c : y = x
    · exact h.hc x rfl t (hJ t ht (outB_mem.mpr ⟨hIl t ht, e.trans c⟩)) (e.trans c)
    · exact h.cl y hy hn (fun z => c (Option.some.inj z)) t ht e, (fun y e => nomatch e), (fun y e => nomatch e)⟩
theorem eqD_empty : ∀ L : List Nat, PyData.eqv (dz (L.map fun n : Nat => (n : Int))) (dz (([] : List Nat).map fun n : Nat => (n : Int))) = decide (L = []) := fun L => by
  rw [show (([] : List Nat).map fun n : Nat => (n : Int)) = [] from rfl, eqv_empty]
  cases L <;> rfl
theorem onw {σ : L2.St} {H1 : Hp} {k : VK} {c : Bool} {te2 : TE} {Pr : Addr → Hp → Prop} (kk : ∀ ol H6, Pr ol H6 → k (.ref ol) H6) (h1 : c = true → ∀ p, H1 p = none → Pr p (upd H1 p (.lst []))) (h2 : c = false → ∀ k' : VK, (∀ ol H6, Pr ol H6 → k' (.ref ol) H6) → te2 σ H1 k') : if c = true then tLst tNil σ H1 k else te2 σ H1 k := by
  cases c with
  | true => exact iteT ⟨Nat.zero_le _, fun p np => kk _ _ (h1 rfl p np)⟩
  | false => exact iteF (h2 rfl k kk)
section
variable {P : Program} {w : World} {K : PySem.W.Frag} {mg : Str → Option Value} {base : Heap} {C : Addr}
def sp_spread (_ : PySem.W.Frag) (_ : Addr) : Sp := fun vs H Q _ => ∃ (p : Addr) (N : Nat) (us : List (Nat × Nat)) (b : Nat) (lo : Option Nat), vs = [.ref p, .int ((b : Nat) : Int), lastV lo] ∧ RowsAt H p N (outs us []) ∧ (∀ e ∈ us, e.1 < N ∧ e.2 < N) ∧ us.length ≤ 80 ∧ N ≤ 60 ∧ b < N ∧
  ∀ H' d M, Same H H' → H d = none → H' d = some (.dK (dM M)) → M.length ≤ N → M.Nodup → (∀ x ∈ M, x < N) → (∀ x, x ∈ M ↔ Spr us lo b x) → Q (.ref d) H'
theorem ok_spread (D : Def K mg "_spread" s_spread ["ends", "start", "last"]) (B : Bs mg) (Glb : Glo mg) (WK : WebK K mg C) :
    Good P w K mg base "_spread" s_spread ["ends", "start", "last"] 1 (sp_spread K C) := by
  refine D.good fun f fd F => ?_
  refine F.ok sc_spread (fun vs H Q E h => ?_) (fun cdv A outer s H vs Q E hr h => ?_)
  · obtain ⟨p, N, us, b, lo, rfl, hrw, hok, hul, hN, hb, q⟩ := h
    first | rfl | (rcases h with ⟨_, _, rfl, _⟩ | ⟨_, rfl, _⟩ <;> rfl)
  obtain ⟨p, N, us, b, lo, rfl, hrw, hok, hul, hN, hb, q⟩ := h
  refine ⟨_, (pss_cons (ps_set (i := 3) sc_spread.nd rfl (by first | exact Or.inl rfl | exact Or.inr rfl) (pe_disp (pps_cons (pv 1) pe_bl pps_nil) (by rfl) (by rfl) (fun z => by cases z) (by decide)))
  (pss_cons (ps_set (i := 4) sc_spread.nd rfl (by first | exact Or.inl rfl | exact Or.inr rfl) (pe_lst (pa_cons (pv 1) pa_nil)))
  (pss_cons (ps_while PassesOwn.never (pt_cmpR (op_neD hr.units) (pv 4) (pe_lst pa_nil) (nomark _))
    (pss_cons (ps_set (i := 5) sc_spread.nd rfl (by first | exact Or.inl rfl | exact Or.inr rfl) (pe_bm0 PySem.F.plainAttrs_list PySem.F.slot_list_pop PySem.F.type_list_pop mt_pop (pv 4)))
  (pss_cons (ps_set (i := 6) sc_spread.nd rfl (by first | exact Or.inl rfl | exact Or.inr rfl) (pe_ifExp (pt_cmpR op_eq (pv 5) (pv 2) (nomark _)) (pe_lst pa_nil) (pe_ix ix_list (pv 0) (pv 5) (fun _ _ => rfl))))
  (pss_one (ps_for PassesOwn.never rfl (pi_list (pv 6)) (pg_name (i := 7) sc_spread.nd rfl (by first | exact Or.inl rfl | exact Or.inr rfl))
    (pss_one (ps_if (pt_cmp (pc_dnotin (hu_of hr) (pv 7) (pv 3)))
    (pss_cons (ps_dput (hu_of hr) (pv 3) (pv 7) pe_bl rfl)
  (pss_one (ps_expr (pe_bm PySem.F.plainAttrs_list PySem.F.slot_list_append PySem.F.type_list_append mt_append (pv 4) (pa_cons (pv 7) pa_nil))))) pss_nil)))))))
  (pss_one (ps_ret (pv 3)))))), ?_⟩
  have hfl : ∀ t, t < us.length → farT us t < N := fun t ht => by
    unfold farT
    rw [List.getElem?_eq_getElem ht]
    exact (hok _ (List.getElem_mem ht)).2
  refine fun d nd => ⟨_, rfl, upd_same, [(Sum.inl (b : Int), .bl true)], rfl, (by show 1 ≤ 15; decide), ?_⟩
  have S1 : Same H (upd (upd H d (.dK [])) d (.dK (mergeK [] [(Sum.inl (b : Int), .bl true)]))) := same_upd (same_new nd _) nd
  have ed : upd (upd H d (.dK [])) d (.dK (mergeK [] [(Sum.inl (b : Int), .bl true)])) d = some (.dK (dM [b])) := upd_same
  generalize upd (upd H d (.dK [])) d (.dK (mergeK [] [(Sum.inl (b : Int), .bl true)])) = H1 at S1 ed ⊢
  refine ⟨_, rfl, (by show 1 ≤ sizeLine; decide), fun r nr => ?_⟩
  have S2 := same_new nr (.lst [V.int (b : Int)])
  have er : upd H1 r (.lst [V.int (b : Int)]) r = some (.lst (iv [b])) := upd_same
  have ed2 := S2 _ _ ed
  have hdr : d ≠ r := ne_of_none ed nr
  have nr0 : H r = none := S1.free nr
  have S02 := S1.trans S2
  generalize upd H1 r (.lst [V.int (b : Int)]) = H2 at S02 er ed2 ⊢
  refine ⟨fun n σ H' => ∃ (M R : List Nat) (v5 v6 v7 : Option V), σ = [some (.ref p), some (.int (b : Int)), some (lastV lo), some (.ref d), some (.ref r), v5, v6, v7] ∧ Same H H' ∧ H' d = some (.dK (dM M)) ∧ H' r = some (.lst (iv R)) ∧ Met N us (spI us lo) b M R none [] ∧ n + 2 * M.length = 2 * N + R.length ∧ R.length ≤ M.length, ⟨2 * N - 1, [b], [b], none, none, none, rfl, S02, ed2, er, Met.init hb, by show 2 * N - 1 + 2 * 1 = 2 * N + 1; omega, Nat.le_refl _⟩, ?_⟩
  rintro n σ H3 ⟨M, R, v5, v6, v7, rfl, S3, hd3, hr3, hM, hn, hRM⟩
  have hMl : M.length ≤ N := nodup_len hM.nd hM.lt
  refine ⟨_, rfl, Nat.zero_le _, fun e0 ne0 => ?_⟩
  have Se := same_new ne0 (.lst [])
  have ee0 : upd H3 e0 (.lst []) e0 = some (.lst (iv [])) := upd_same
  have hd4 := Se _ _ hd3
  have hr4 := Se _ _ hr3
  have S4 := S3.trans Se
  generalize upd H3 e0 (.lst []) = H4 at Se ee0 hd4 hr4 S4 ⊢
  refine ⟨_, _, dp_iv hr4, dp_iv ee0, shaped_iz _, shaped_iz _, ?_⟩
  rw [eqD_empty]
  refine ⟨_, rfl, ?_⟩
  by_cases hR : R = []
  · subst hR
    exact iteNot' rfl ⟨_, rfl, q _ d M S4 nd hd4 hMl hM.nd hM.lt hM.done⟩
  refine iteNot hR ?_
  obtain ⟨R', x, rfl⟩ : ∃ R' x, R = R' ++ [x] := ⟨R.dropLast, R.getLast hR, (List.dropLast_concat_getLast hR).symm⟩
  have hRM' : R'.length + 1 ≤ M.length := by rw [List.length_append] at hRM; exact hRM
  have hxN := hM.lt x (hM.sub x (by simp))
  refine ⟨fun σ' H' => ∃ m', m' < n ∧ ∃ (M R : List Nat) (v5 v6 v7 : Option V), σ' = [some (.ref p), some (.int (b : Int)), some (lastV lo), some (.ref d), some (.ref r), v5, v6, v7] ∧ Same H H' ∧ H' d = some (.dK (dM M)) ∧ H' r = some (.lst (iv R)) ∧ Met N us (spI us lo) b M R none [] ∧ m' + 2 * M.length = 2 * N + R.length ∧ R.length ≤ M.length, fun σ' H' z => z, ?_⟩
  have hlast : (iv (R' ++ [x]))[(iv (R' ++ [x])).length - 1]? = some (.int ((x : Nat) : Int)) := by
    rw [iv_app, List.length_append, List.getElem?_append_right (by show _ ≤ _ + 1 - 1; omega)]
    simp
  refine ⟨_, rfl, .inl ⟨rfl, _, SqL.of hr4⟩, r, _, _, rfl, rfl, hr4, hlast, ?_⟩
  have S5 : Same H (upd H4 r (.lst (iv (R' ++ [x])).dropLast)) := same_upd S4 nr0
  have hr5 : upd H4 r (.lst (iv (R' ++ [x])).dropLast) r = some (.lst (iv R')) := by rw [upd_same, iv_app, List.dropLast_concat]
  have hd5 : upd H4 r (.lst (iv (R' ++ [x])).dropLast) d = some (.dK (dM M)) := by rw [upd_ne hdr]; exact hd4
  generalize upd H4 r (.lst (iv (R' ++ [x])).dropLast) = H5 at S5 hr5 hd5 ⊢
  refine ⟨_, rfl, _, rfl, by cases lo <;> rfl, _, rfl, onw (Pr := fun ol H6 => ∃ T : List Nat, Same H5 H6 ∧ ol ≠ r ∧ H6 ol = some (.lst (iv (T.map (farT us)))) ∧ (∀ t ∈ T, t ∈ outB us x ∧ some x ≠ lo) ∧ (∀ t ∈ spI us lo, t ∈ outB us x → t ∈ T) ∧ T.length ≤ 80) ?_ (fun hc p np => ?_) (fun hc k' kk => ?_)⟩
  · rintro ol H6 ⟨T, S56, hor, hol, hT, hTc, hTl⟩
    have hd6 := S56 _ _ hd5
    have hr6 := S56 _ _ hr5
    have hod : ol ≠ d := ne_of hol hd6 (by intro z; cases z)
    refine ⟨_, rfl, ol, rfl, ⟨_, SqL.of hol⟩, ?_⟩
    refine for_list (K := K) (a := ol) (xs := iv (T.map (farT us))) (fun k σ H' => ∃ (M1 R1 : List Nat) (v7 : Option V), σ = [some (.ref p), some (.int (b : Int)), some (lastV lo), some (.ref d), some (.ref r), some (.int (x : Int)), some (.ref ol), v7] ∧ Same H H' ∧ H' d = some (.dK (dM M1)) ∧ H' r = some (.lst (iv R1)) ∧ H' ol = some (.lst (iv (T.map (farT us)))) ∧ Met N us (spI us lo) b M1 R1 (some x) (T.take k) ∧ R1.length + M.length = R'.length + M1.length ∧ M.length ≤ M1.length) ⟨M, R', v7, rfl, S5.trans S56, hd6, hr6, hol, hM.pop, by omega, Nat.le_refl _⟩ (fun i σ H' _ ⟨_, _, _, _, _, _, _, z, _⟩ => SqL.of z) ?_ ?_
    · rintro k v σ H7 hv ⟨M1, R1, v7, rfl, S7, hd7, hr7, hol7, hM7, hl7, hl7'⟩
      obtain ⟨f, hfk, rfl⟩ := iv_of hv
      obtain ⟨t, htk, rfl⟩ : ∃ t, T[k]? = some t ∧ f = farT us t := by
        rw [List.getElem?_map] at hfk
        cases z : T[k]? with
        | none => rw [z] at hfk; cases hfk
        | some t => rw [z] at hfk; exact ⟨t, rfl, (Option.some.inj hfk).symm⟩
      obtain ⟨hto, hxl⟩ := hT t (List.mem_of_getElem? htk)
      obtain ⟨htl, htn⟩ := outB_mem.mp hto
      have hM1 : M1.length ≤ N := nodup_len hM7.nd hM7.lt
      refine ⟨_, rfl, _, rfl, d, _, rfl, DGet.k (k := Sum.inl ((farT us t : Nat) : Int)) hd7, _, rfl, ?_⟩
      rw [dM_some]
      by_cases c2 : farT us t ∈ M1
      · refine iteNot' c2 ⟨M1, R1, _, rfl, S7, hd7, hr7, hol7, ?_, hl7, hl7'⟩
        rw [take_one' htk]
        exact hM7.skip fun _ => c2
      · refine iteNot c2 ?_
        refine ⟨_, rfl, _, rfl, d, _, rfl, DPut.k (k := Sum.inl ((farT us t : Nat) : Int)) hd7 (by rw [List.length_map]; exact line200 (by omega)), ?_⟩
        rw [dM_put c2]
        have S8 : Same H (upd H7 d (.dK (dM (M1 ++ [farT us t])))) := same_upd S7 nd
        have hd8 : upd H7 d (.dK (dM (M1 ++ [farT us t]))) d = some (.dK (dM (M1 ++ [farT us t]))) := upd_same
        have hr8 : upd H7 d (.dK (dM (M1 ++ [farT us t]))) r = some (.lst (iv R1)) := by rw [upd_ne hdr.symm]; exact hr7
        have hol8 : upd H7 d (.dK (dM (M1 ++ [farT us t]))) ol = some (.lst (iv (T.map (farT us)))) := by rw [upd_ne hod]; exact hol7
        generalize upd H7 d (.dK (dM (M1 ++ [farT us t]))) = H8 at S8 hd8 hr8 hol8 ⊢
        refine ⟨_, rfl, .inl ⟨rfl, _, SqL.of hr8⟩, _, rfl, r, _, _, rfl, rfl, hr8, by rw [List.length_map]; exact line200 (by omega), ?_⟩
        refine ⟨M1 ++ [farT us t], R1 ++ [farT us t], _, rfl, same_upd S8 nr0, by rw [upd_ne hdr]; exact hd8, by rw [upd_same, iv_app], by rw [upd_ne hor]; exact hol8, ?_, by rw [List.length_append, List.length_append]; simp; omega, by rw [List.length_append]; omega⟩
        rw [take_one' htk]
        exact hM7.put (spI_mem.mpr ⟨htl, by rw [htn]; exact hxl⟩) htl (hfl t htl) htn c2
    · rintro σ H7 ⟨M1, R1, v7, rfl, S7, hd7, hr7, hol7, hM7, hl7, hl7'⟩
      rw [List.length_map, List.length_map, List.take_length] at hM7
      have hM1 : M1.length ≤ N := nodup_len hM7.nd hM7.lt
      rw [List.length_append] at hn
      exact ⟨2 * N + R1.length - 2 * M1.length, by show _ < n; simp at hn; omega, M1, R1, _, _, _, rfl, S7, hd7, hr7, hM7.turnB (fun t ht => (spI_mem.mp ht).1) hTc, by omega, by omega⟩
  · refine ⟨[], same_new np _, (ne_of_none hr5 np).symm, upd_same, (fun t ht => nomatch ht), fun t ht ho => ?_, Nat.zero_le _⟩
    have hx : some x = lo := by
      cases lo with
      | none => exact absurd (of_decide_eq_true hc) (fun z => nomatch z)
      | some e => have := int_eq.mp (of_decide_eq_true hc); exact congrArg some (by omega)
    exact absurd ((outB_mem.mp ho).2 ▸ hx) (spI_mem.mp ht).2
  · have hx : some x ≠ lo := fun z => by
      have := of_decide_eq_false hc
      rw [← z] at this
      exact this rfl
    obtain ⟨y, xs, g1, g2, g3⟩ := hrw.get hxN
    refine ⟨_, rfl, _, rfl, _, _, _, .ref y, rfl, rfl, SqL.of (S5 _ _ g1), g2, kk y H5 ⟨outB us x, fun _ _ z => z, ne_of_none g3 nr0, by rw [← outs_far]; exact S5 _ _ g3, fun t ht => ⟨ht, hx⟩, fun t _ h => h, Nat.le_trans (outB_len us x) hul⟩⟩
end
end My
set_option maxHeartbeats 4000000
namespace My
open PySem L2 PyProof.Rows
theorem Rc.uncons {ts : List (Nat × Nat)} {I : Nat → Prop} {p x : Nat} (h : Rc ts I p x) : p = x ∨ ∃ t, t < ts.length ∧ I t ∧ nearT ts t = p ∧ Rc ts I (farT ts t) x := by
  induction h with
  | refl => exact .inl rfl
  | step h ht hi hn ih =>
    rcases ih with ih | ⟨u, a, b, c, d⟩
    · exact .inr ⟨_, ht, hi, hn.trans ih.symm, .refl⟩
    · exact .inr ⟨u, a, b, c, .step d ht hi hn⟩
abbrev RcA (us : List (Nat × Nat)) (u v : Nat) : Prop := Rc us (fun _ => True) u v
theorem rch_rc {us : List (Nat × Nat)} {u v : Nat} : Rch (Ed us) u v ↔ RcA us u v := by
  constructor
  · rintro ⟨k, h⟩
    induction h with
    | nil => exact .refl
    | @snoc k a x y _ he ih =>
      obtain ⟨i, hi, _⟩ := he
      have hl := (List.getElem?_eq_some_iff.mp hi).1
      have h1 : nearT us i = x := by unfold nearT; rw [hi]; rfl
      have h2 : farT us i = y := by unfold farT; rw [hi]; rfl
      have := Rc.step (I := fun _ => True) ih hl trivial h1
      rwa [h2] at this
  · intro h
    induction h with
    | refl => exact ⟨0, .nil _⟩
    | @step q t h ht hi hn ih =>
      obtain ⟨k, w⟩ := ih
      refine ⟨k + 1, .snoc w ⟨t, ?_, by simp⟩⟩
      rw [← hn]
      unfold nearT farT
      rw [List.getElem?_eq_getElem ht]
      rfl
def Acyc (us : List (Nat × Nat)) : Prop := ∀ t, t < us.length → ¬ RcA us (farT us t) (nearT us t)
theorem tie_ed {us : List (Nat × Nat)} {t : Nat} (ht : t < us.length) : RcA us (nearT us t) (farT us t) := .step .refl ht trivial rfl
theorem acyc_iff {us : List (Nat × Nat)} {N : Nat} (hok : ∀ e ∈ us, e.1 < N ∧ e.2 < N) : Acyc us ↔ (∀ t, t < us.length → nearT us t ≠ farT us t) ∧ (headsL (Ed us) N).length = N := by
  have hlt : ∀ t, t < us.length → nearT us t < N ∧ farT us t < N := fun t ht => by
    unfold nearT farT
    rw [List.getElem?_eq_getElem ht]
    exact hok _ (List.getElem_mem ht)
  have hlen : (headsL (Ed us) N).length = N ↔ ∀ p, p < N → p ∈ headsL (Ed us) N := by
    have h := List.length_filter_eq_length_iff (l := List.range N) (p := fun p => bdec (∀ x, x < p → ¬ Mut (Ed us) p x))
    rw [List.length_range] at h
    refine h.trans ⟨fun k p hp => List.mem_filter.mpr ⟨List.mem_range.mpr hp, k p (List.mem_range.mpr hp)⟩, fun k p hp => (List.mem_filter.mp (k p (List.mem_range.mp hp))).2⟩
  rw [hlen]
  constructor
  · intro h
    refine ⟨fun t ht e => h t ht (by rw [e]; exact .refl), fun p hp => headsL_mem.mpr ⟨hp, fun x hx hm => ?_⟩⟩
    rcases (rch_rc.mp hm.1).uncons with z | ⟨t, ht, _, hn, r⟩
    · omega
    · exact h t ht (by rw [hn]; exact r.trans (rch_rc.mp hm.2))
  · rintro ⟨h1, h2⟩ t ht r
    have hm : Mut (Ed us) (nearT us t) (farT us t) := ⟨rch_rc.mpr (tie_ed ht), rch_rc.mpr r⟩
    exact h1 t ht (head_unique (h2 _ (hlt t ht).1) (h2 _ (hlt t ht).2) hm)
def innP (ts : List (Nat × Nat)) (M : List Nat) (e : Nat) : List (Nat × Nat) := (innB ts M e).map fun t => (nearT ts t, farT ts t)
theorem innP_at {ts : List (Nat × Nat)} {M : List Nat} {e j t : Nat} (h : (innB ts M e)[j]? = some t) : nearT (innP ts M e) j = nearT ts t ∧ farT (innP ts M e) j = farT ts t := by
  unfold innP
  constructor
  · conv => lhs; unfold nearT
    rw [List.getElem?_map, h]
    rfl
  · conv => lhs; unfold farT
    rw [List.getElem?_map, h]
    rfl
theorem Rc_innP {ts : List (Nat × Nat)} {M : List Nat} {e u v : Nat} : RcA (innP ts M e) u v ↔ Rc ts (InnT ts M e) u v := by
  constructor
  · intro h
    induction h with
    | refl => exact .refl
    | @step q j h hj _ hn ih =>
      have hj' : j < (innB ts M e).length := by unfold innP at hj; rwa [List.length_map] at hj
      have hg := List.getElem?_eq_getElem hj'
      obtain ⟨a, b⟩ := innP_at hg
      obtain ⟨c, d⟩ := innB_mem.mp (List.mem_of_getElem? hg)
      rw [b]
      exact .step ih c d (a.symm.trans hn)
  · intro h
    induction h with
    | refl => exact .refl
    | @step q t h ht hi hn ih =>
      obtain ⟨j, hj⟩ := get_of_mem (innB_mem.mpr ⟨ht, hi⟩)
      obtain ⟨a, b⟩ := innP_at hj
      rw [← b]
      exact .step ih (by unfold innP; rw [List.length_map]; exact (List.getElem?_eq_some_iff.mp hj).1) trivial (a.trans hn)
theorem swap_at {us : List (Nat × Nat)} (t : Nat) : nearT (swaps us) t = farT us t ∧ farT (swaps us) t = nearT us t := by
  unfold nearT farT swaps
  rw [List.getElem?_map]
  cases us[t]? <;> exact ⟨rfl, rfl⟩
theorem Rc_swap {us : List (Nat × Nat)} {x y : Nat} (h : RcA us x y) : RcA (swaps us) y x := by
  induction h with
  | refl => exact .refl
  | @step q t h ht hi hn ih =>
    obtain ⟨a, b⟩ := swap_at (us := us) t
    have : RcA (swaps us) (nearT (swaps us) t) (farT (swaps us) t) := tie_ed (by rw [swaps_len]; exact ht)
    rw [a, b, hn] at this
    exact this.trans ih
theorem swap_swap (us : List (Nat × Nat)) : swaps (swaps us) = us := by
  unfold swaps
  rw [List.map_map]
  exact List.map_id _
theorem spr_none {us : List (Nat × Nat)} {y x : Nat} : Spr us none y x ↔ RcA us y x :=
  ⟨Rc.mono fun _ _ _ => trivial, Rc.mono fun t ht _ => spI_mem.mpr ⟨ht, fun z => nomatch z⟩⟩
section
variable {N : Nat} {ts : List (Nat × Nat)} {b e : Nat} {M M2 L : List Nat}
theorem innT_congr (h : ∀ x, x ∈ L ↔ x ∈ M) {t : Nat} : InnT ts L e t ↔ InnT ts M e t := and_congr (h _) Iff.rfl
theorem shut_spread (hbN : b < N) (heN : e < N) (hL : L ∈ lotsN b e N) (Sh : Shut ts L b e) (hM : ∀ x, x ∈ M ↔ Spr ts (some e) b x) : ∀ x, x ∈ L ↔ x ∈ M := by
  obtain ⟨hbL, heL⟩ := lots_be hL hbN heN
  intro x
  rw [hM]
  constructor
  · intro hx
    exact (Sh.2 x hx).2.1.mono fun t ht hi => spI_mem.mpr ⟨ht, fun z => hi.2 (Option.some.inj z)⟩
  · intro r
    induction r with
    | refl => exact hbL
    | @step q t _ ht hi hn ih => exact ((Sh.1 t ht).mp ⟨by rw [hn]; exact ih, fun z => (spI_mem.mp hi).2 (congrArg some z)⟩).1
theorem shut_iff (hbN : b < N) (heN : e < N) (hMlt : ∀ x ∈ M, x < N) (hM : ∀ x, x ∈ M ↔ Spr ts (some e) b x) (hM2 : ∀ x, x ∈ M2 ↔ Spr (swaps (innP ts M e)) none e x) : ShutP N ts b e ↔ b ≠ e ∧ e ∈ M ∧ Cond1 ts M b e ∧ Acyc (innP ts M e) ∧ ∀ x ∈ M, x ∈ M2 := by
  have hbM : b ∈ M := (hM b).mpr .refl
  constructor
  · rintro ⟨hbe, L, hL, Sh⟩
    have hLM := shut_spread hbN heN hL Sh hM
    obtain ⟨hbL, heL⟩ := lots_be hL hbN heN
    have rc : ∀ {u v : Nat}, Rc ts (InnT ts L e) u v ↔ Rc ts (InnT ts M e) u v := fun {u v} => ⟨Rc.mono fun t _ h => (innT_congr hLM).mp h, Rc.mono fun t _ h => (innT_congr hLM).mpr h⟩
    refine ⟨hbe, (hLM e).mp heL, fun t ht => ?_, fun j hj r => ?_, fun x hx => ?_⟩
    · rw [← innT_congr hLM, Sh.1 t ht, hLM]
    · have hj' : j < (innB ts M e).length := by unfold innP at hj; rwa [List.length_map] at hj
      have hg := List.getElem?_eq_getElem hj'
      obtain ⟨a, c⟩ := innP_at hg
      obtain ⟨d, hi⟩ := innB_mem.mp (List.mem_of_getElem? hg)
      rw [a, c, Rc_innP, ← rc] at r
      have hi' := (innT_congr hLM).mpr hi
      exact (Sh.2 _ hi'.1).2.2 _ (innB_mem.mpr ⟨d, hi'⟩) rfl r
    · rw [hM2, spr_none]
      exact Rc_swap (Rc_innP.mpr (rc.mp (Sh.2 x ((hLM x).mpr hx)).1))
  · rintro ⟨hbe, heM, hc, ha, hl⟩
    have hLM : ∀ x, x ∈ (List.range N).filter (fun x => decide (x ∈ M)) ↔ x ∈ M := fun x => by
      rw [List.mem_filter, List.mem_range, decide_eq_true_eq]
      exact ⟨fun h => h.2, fun h => ⟨hMlt x h, h⟩⟩
    refine ⟨hbe, _, lots_has (f := fun x => decide (x ∈ M)) (fun _ => decide_eq_true hbM) (fun _ => decide_eq_true heM), fun t ht => ?_, fun x hx => ?_⟩
    · rw [innT_congr hLM, hc t ht, hLM]
    have rc : ∀ {u v : Nat}, Rc ts (InnT ts M e) u v → Rc ts (InnT ts ((List.range N).filter (fun x => decide (x ∈ M))) e) u v := fun {u v} => Rc.mono fun t _ h => (innT_congr hLM).mpr h
    have hxM := (hLM x).mp hx
    refine ⟨rc ?_, rc ?_, fun t ht hn r => ?_⟩
    · have := Rc_swap ((spr_none).mp ((hM2 x).mp (hl x hxM)))
      rw [swap_swap] at this
      exact Rc_innP.mp this
    · have key : ∀ y, Spr ts (some e) b y → Rc ts (InnT ts M e) b y := fun y r => by
        induction r with
        | refl => exact .refl
        | @step q t r' ht hi hn ih => exact .step ih ht ⟨by rw [hn]; exact (hM q).mpr r', fun z => (spI_mem.mp hi).2 (congrArg some z)⟩ hn
      exact key x ((hM x).mp hxM)
    · obtain ⟨d, hi⟩ := innB_mem.mp ht
      have hi' := (innT_congr hLM).mp hi
      obtain ⟨j, hj⟩ := get_of_mem (innB_mem.mpr ⟨d, hi'⟩)
      obtain ⟨a, c⟩ := innP_at hj
      refine ha j (by unfold innP; rw [List.length_map]; exact (List.getElem?_eq_some_iff.mp hj).1) ?_
      rw [a, c, Rc_innP, hn]
      exact r.mono fun t _ h => (innT_congr hLM).mp h
end
end My
set_option maxHeartbeats 4000000
namespace My
open PySem L2 PyProof.Rows
theorem goes_eq2 {n e : Nat} {M : List Nat} : ((valV (dM M) (Sum.inl (n : Int))).isSome && !decide (V.int ((n : Nat) : Int) = V.int ((e : Nat) : Int))) = decide (n ∈ M ∧ n ≠ e) := by
  rw [dM_some, Bool.eq_iff_iff, Bool.and_eq_true, decide_eq_true_eq, decide_eq_true_eq, Bool.not_eq_true', decide_eq_false_iff_not]
  exact and_congr Iff.rfl (not_congr ⟨fun z => by have := int_eq.mp z; omega, fun z => by rw [z]⟩)
abbrev innN (ts : List (Nat × Nat)) (M : List Nat) (e i : Nat) : List (Nat × Nat) := ((List.range i).filter (goesB ts M e)).map fun t => (nearT ts t, farT ts t)
section
variable {P : Program} {w : World} {K : PySem.W.Frag} {mg : Str → Option Value} {base : Heap} {C : Addr}
def sp_ends_from (_ : PySem.W.Frag) (C : Addr) : Sp := fun vs H Q _ => ∃ (a : Addr) (N : Nat) (ts : List (Nat × Nat)) (l : Addr) (us : List (Nat × Nat)), vs = [.ref a, .ref l] ∧ WebAt C a N ts H ∧ OkWeb N ts ∧ TiesAt H l us ∧ (∀ e ∈ us, e.1 < N ∧ e.2 < N) ∧ us.length ≤ 80 ∧ ∀ H' p, Same H H' → H p = none → RowsAt H' p N (outs us []) → Q (.ref p) H'
theorem ok_ends_from (D : Def K mg "_ends_from" s_ends_from ["web", "ties"]) (B : Bs mg) (Glb : Glo mg) (WK : WebK K mg C)
    (hWeb_places : GoodP P w K mg base C "places" "Web.places" sWeb_places ["self"] 1 (spWeb_places K C)) :
    Good P w K mg base "_ends_from" s_ends_from ["web", "ties"] 3 (sp_ends_from K C) := by
  refine D.good fun f fd F => ?_
  obtain ⟨qWeb_places, fWeb_places, dWeb_places, OWeb_places, pWeb_places, bWeb_places⟩ := hWeb_places
  refine F.ok sc_ends_from (fun vs H Q E h => ?_) (fun cdv A outer s H vs Q E hr h => ?_)
  · obtain ⟨a, N, ts, l, us, rfl, hw, ho, hT, hok, hul, q⟩ := h
    first | rfl | (rcases h with ⟨_, _, rfl, _⟩ | ⟨_, rfl, _⟩ <;> rfl)
  obtain ⟨a, N, ts, l, us, rfl, hw, ho, hT, hok, hul, q⟩ := h
  refine ⟨_, (pss_cons (ps_setLc (i := 2) (own := [("_", 5)]) (g := gName 5) (by rfl) sc_ends_from.nd rfl rfl (sw_true rfl rfl rfl (by decide +kernel)) (pi_range1 (by rfl) B.range (pa_cons (pe_prop (pv 0) WK.cl pWeb_places OWeb_places (hr.mono (by decide)) bWeb_places .nil pass0 (by rfl)) pa_nil)) (blkOk_by (own := [("_", 5)]) (N := ["web", "ties", "ends", "near", "far", "_"]) (sc := defScope s_ends_from) (by decide +kernel)) (fun _ _ _ _ _ => (pg_name (i := 5) sc_ends_from.nd rfl (by first | exact Or.inl rfl | exact Or.inr rfl))) (fun _ _ _ _ _ => pts_nil) (fun _ _ _ _ _ => (pe_lst pa_nil)))
  (pss_cons (ps_for PassesOwn.never rfl (pi_list (pv 1)) (pg_tup rfl (pgs_cons (pg_name (i := 3) sc_ends_from.nd rfl (by first | exact Or.inl rfl | exact Or.inr rfl)) (pgs_cons (pg_name (i := 4) sc_ends_from.nd rfl (by first | exact Or.inl rfl | exact Or.inr rfl)) pgs_nil)))
    (pss_one (ps_expr (pe_bm PySem.F.plainAttrs_list PySem.F.slot_list_append PySem.F.type_list_append mt_append (pe_ix ix_list (pv 2) (pv 3) (fun _ _ => rfl)) (pa_cons (pv 4) pa_nil)))))
  (pss_one (ps_ret (pv 2))))), ?_⟩
  obtain ⟨dx, tl, fl, ol, h1, _⟩ := id hw
  have hN := ho.n1
  refine ⟨_, rfl, a, dx, _, rfl, h1, a, N, ts, rfl, hw, _, rfl, by omega, by omega, fun D nD => ?_⟩
  refine lc_range (lo := 0) (n := N) (fun i H' => Fresh H D i H') (Fresh.zero nD) ?_ ?_
  · intro i H' hi hf
    exact ⟨rfl, Nat.zero_le _, fun p np => hf.step nD (by omega) np⟩
  rintro H1 ⟨fas, f1, f2, f3, f4, f5, f6⟩
  obtain ⟨tas, htl, hP⟩ := id hT
  have htas := paired_len hP
  have old : ∀ b o, H b = some o → b ∉ fas := fun b o e z => by rw [(f3 b z).1] at e; cases e
  have hDf : D ∉ fas := fun z => (f3 D z).2 rfl
  refine ⟨_, rfl, l, rfl, ⟨_, SqL.of (f4 _ _ htl)⟩, ?_⟩
  refine for_list (K := K) (a := l) (xs := tas.map V.ref) (fun i σ H' => ∃ v3 v4 : Option V, σ = [some (.ref a), some (.ref l), some (.ref D), v3, v4, none] ∧ KeptR fas H1 H' ∧ (∀ (j : Nat) (x : Addr), fas[j]? = some x → H' x = some (.lst (iv (outN us [] j i))))) ⟨_, _, rfl, .refl _ _, fun j x e => f6 x (List.mem_of_getElem? e)⟩ (fun i σ H' _ ⟨_, _, _, z, _⟩ => SqL.of (z _ _ (f4 _ _ htl) (old _ _ htl))) ?_ ?_
  · rintro i v σ H2 hv ⟨v3, v4, rfl, hk, hf⟩
    obtain ⟨p, hp, rfl⟩ : ∃ p, tas[i]? = some p ∧ v = .ref p := by
      rw [List.getElem?_map] at hv
      cases z : tas[i]? with
      | none => rw [z] at hv; cases hv
      | some p => rw [z] at hv; exact ⟨p, rfl, (Option.some.inj hv).symm⟩
    obtain ⟨⟨u, x⟩, he, hpe⟩ := paired_get hP hp
    obtain ⟨hu, hx⟩ := hok _ (List.mem_of_getElem? he)
    have hi := (List.getElem?_eq_some_iff.mp he).1
    have hp2 : H2 p = some (.tup [.int (u : Int), .int (x : Int)]) := hk _ _ (f4 _ _ hpe) (old _ _ hpe)
    obtain ⟨xu, eu⟩ : ∃ x, fas[u]? = some x := ⟨fas[u]'(by omega), List.getElem?_eq_getElem _⟩
    have hxu := hf u xu eu
    refine ⟨p, _, rfl, SqT.of hp2, rfl, _, _, rfl, _, _, rfl, rfl, ?_⟩
    refine ⟨_, rfl, _, rfl, _, _, _, .ref xu, rfl, rfl, SqL.of (hk _ _ f5 hDf), atI_nat (by rw [List.getElem?_map, eu]; rfl), .inl ⟨rfl, _, SqL.of hxu⟩, _, rfl, xu, _, _, rfl, rfl, hxu, ?_, ?_⟩
    · rw [List.length_map]
      exact Nat.lt_of_le_of_lt (outN_len us [] u i) (line200 (by omega))
    · exact ⟨_, _, rfl, hk.put (List.mem_of_getElem? eu), row_put (u := u) (v := x) (f := fun j => outN us [] j i) (g := fun j => outN us [] j (i + 1)) f2 eu hf (outN_at he)⟩
  · rintro σ H2 ⟨v3, v4, rfl, hk, hf⟩
    rw [List.length_map, htas] at hf
    exact ⟨_, rfl, q H2 D (fun b o e => hk _ _ (f4 _ _ e) (old _ _ e)) nD ⟨fas, hk _ _ f5 hDf, f1, hf⟩⟩
def sp_inside_of (_ : PySem.W.Frag) (C : Addr) : Sp := fun vs H Q _ => ∃ (a : Addr) (N : Nat) (ts : List (Nat × Nat)) (b e : Nat), vs = [.ref a, .int ((b : Nat) : Int), .int ((e : Nat) : Int)] ∧ WebAt C a N ts H ∧ OkWeb N ts ∧ b < N ∧
  ∀ H' d M, Same H H' → H d = none → H' d = some (.dK (dM M)) → M.length ≤ N → M.Nodup → (∀ x ∈ M, x < N) → (∀ x, x ∈ M ↔ Spr ts (some e) b x) → Q (.ref d) H'
theorem ok_inside_of (D : Def K mg "_inside_of" s_inside_of ["web", "begin", "end"]) (B : Bs mg) (Glb : Glo mg) (WK : WebK K mg C)
    (h_spread : Good P w K mg base "_spread" s_spread ["ends", "start", "last"] 1 (sp_spread K C))
    (h_ends_from : Good P w K mg base "_ends_from" s_ends_from ["web", "ties"] 3 (sp_ends_from K C))
    (hWeb_ties : GoodM P w K mg base C "ties" "Web.ties" sWeb_ties ["self"] 1 (spWeb_ties K C)) :
    Good P w K mg base "_inside_of" s_inside_of ["web", "begin", "end"] 4 (sp_inside_of K C) := by
  refine D.good fun f fd F => ?_
  obtain ⟨f_spread, d_spread, O_spread, m_spread, k_spread, b_spread, F_spread⟩ := h_spread
  obtain ⟨f_ends_from, d_ends_from, O_ends_from, m_ends_from, k_ends_from, b_ends_from, F_ends_from⟩ := h_ends_from
  obtain ⟨fWeb_ties, dWeb_ties, OWeb_ties, tWeb_ties, bWeb_ties, FWeb_ties⟩ := hWeb_ties
  refine F.ok sc_inside_of (fun vs H Q E h => ?_) (fun cdv A outer s H vs Q E hr h => ?_)
  · obtain ⟨a, N, ts, b, e, rfl, hw, ho, hb, q⟩ := h
    first | rfl | (rcases h with ⟨_, _, rfl, _⟩ | ⟨_, rfl, _⟩ <;> rfl)
  obtain ⟨a, N, ts, b, e, rfl, hw, ho, hb, q⟩ := h
  refine ⟨_, (pss_one (ps_ret (pe_call O_spread (hr.mono (by decide)) rfl m_spread k_spread b_spread .nil pass0 (pa_cons (pe_call O_ends_from hr rfl m_ends_from k_ends_from b_ends_from .nil pass0 (pa_cons (pv 0) (pa_cons (pe_meth0 (pv 0) WK.cl tWeb_ties OWeb_ties (hr.mono (by decide)) bWeb_ties .nil pass0) pa_nil))) (pa_cons (pv 1) (pa_cons (pv 2) pa_nil)))))), ?_⟩
  obtain ⟨dx, tl, fl, ol, h1, _⟩ := id hw
  refine ⟨_, rfl, _, rfl, a, dx, _, rfl, h1, wf_ti _ _ _ _, a, N, ts, rfl, hw, fun H1 l1 n1 S1 hT1 => ⟨a, N, ts, l1, ts, rfl, hw.same S1, ho, hT1, ho.ok, ho.m, fun H2 p S2 np hp => ⟨_, rfl, _, rfl, p, N, ts, b, some e, rfl, hp, ho.ok, ho.m, ho.n1, hb, fun H3 d M S3 nd hd h1 h2 h3 h4 => q H3 d M ((S1.trans S2).trans S3) ((S1.trans S2).free nd) hd h1 h2 h3 h4⟩⟩⟩
def sp_inner_ties (_ : PySem.W.Frag) (C : Addr) : Sp := fun vs H Q _ => ∃ (a : Addr) (N : Nat) (ts : List (Nat × Nat)) (d : Addr) (M : List Nat) (b e : Nat), vs = [.ref a, .ref d, .int ((b : Nat) : Int), .int ((e : Nat) : Int)] ∧ WebAt C a N ts H ∧ OkWeb N ts ∧ H d = some (.dK (dM M)) ∧
  (¬ Cond1 ts M b e → ∀ H', Same H H' → Q .non H') ∧ (Cond1 ts M b e → ∀ H' p, Same H H' → H p = none → TiesAt H' p (innP ts M e) → Q (.ref p) H')
theorem ok_inner_ties (D : Def K mg "_inner_ties" s_inner_ties ["web", "lot", "begin", "end"]) (B : Bs mg) (Glb : Glo mg) (WK : WebK K mg C)
    (hWeb_ties : GoodM P w K mg base C "ties" "Web.ties" sWeb_ties ["self"] 1 (spWeb_ties K C)) :
    Good P w K mg base "_inner_ties" s_inner_ties ["web", "lot", "begin", "end"] 3 (sp_inner_ties K C) := by
  refine D.good fun f fd F => ?_
  obtain ⟨fWeb_ties, dWeb_ties, OWeb_ties, tWeb_ties, bWeb_ties, FWeb_ties⟩ := hWeb_ties
  refine F.ok sc_inner_ties (fun vs H Q E h => ?_) (fun cdv A outer s H vs Q E hr h => ?_)
  · obtain ⟨a, N, ts, d, M, b, e, rfl, hw, ho, hd, qN, qS⟩ := h
    first | rfl | (rcases h with ⟨_, _, rfl, _⟩ | ⟨_, rfl, _⟩ <;> rfl)
  obtain ⟨a, N, ts, d, M, b, e, rfl, hw, ho, hd, qN, qS⟩ := h
  refine ⟨_, (pss_cons (ps_set (i := 4) sc_inner_ties.nd rfl (by first | exact Or.inl rfl | exact Or.inr rfl) (pe_lst pa_nil))
  (pss_cons (ps_for PassesOwn.never rfl (pi_list (pe_meth0 (pv 0) WK.cl tWeb_ties OWeb_ties (hr.mono (by decide)) bWeb_ties .nil pass0)) (pg_tup rfl (pgs_cons (pg_name (i := 5) sc_inner_ties.nd rfl (by first | exact Or.inl rfl | exact Or.inr rfl)) (pgs_cons (pg_name (i := 6) sc_inner_ties.nd rfl (by first | exact Or.inl rfl | exact Or.inr rfl)) pgs_nil)))
    (pss_cons (ps_set (i := 7) sc_inner_ties.nd rfl (by first | exact Or.inl rfl | exact Or.inr rfl) (pe_and (pe_cmp (pc_din (hu_of hr) (pv 5) (pv 1)) rfl) (pe_one (pe_cmpR op_ne (pv 5) (pv 3) (nomark _)))))
  (pss_cons (ps_set (i := 8) sc_inner_ties.nd rfl (by first | exact Or.inl rfl | exact Or.inr rfl) (pe_and (pe_cmp (pc_din (hu_of hr) (pv 6) (pv 1)) rfl) (pe_one (pe_cmpR op_ne (pv 6) (pv 2) (nomark _)))))
  (pss_cons (ps_if (pt_cmpR op_ne (pv 7) (pv 8) (nomark _))
    (pss_one (ps_ret pe_non)) pss_nil)
  (pss_one (ps_if (pt_val (pv 7))
    (pss_one (ps_expr (pe_bm PySem.F.plainAttrs_list PySem.F.slot_list_append PySem.F.type_list_append mt_append (pv 4) (pa_cons (pe_tup (pa_cons (pv 5) (pa_cons (pv 6) pa_nil))) pa_nil)))) pss_nil))))))
  (pss_one (ps_ret (pv 4))))), ?_⟩
  obtain ⟨dx, tl, fl, ol, h1, _⟩ := id hw
  refine ⟨Nat.zero_le _, fun D nD => ?_⟩
  have S1 := same_new nD (.lst [])
  have eD : TiesAt (upd H D (.lst [])) D [] := TiesAt.nil
  generalize upd H D (.lst []) = H1 at S1 eD ⊢
  refine ⟨_, rfl, a, dx, _, rfl, S1 _ _ h1, wf_ti _ _ _ _, a, N, ts, rfl, hw.same S1, fun H2 l2 n2 S2 hT2 => ?_⟩
  obtain ⟨tas, htl, hP⟩ := id hT2
  have htas := paired_len hP
  obtain ⟨xs1, g1, _⟩ := eD.get
  have hD2 := S2 _ _ g1
  have hlD : l2 ≠ D := (ne_of_none g1 n2).symm
  have hm := ho.m
  refine ⟨l2, rfl, ⟨_, SqL.of htl⟩, ?_⟩
  refine for_list (K := K) (a := l2) (xs := tas.map V.ref) (fun i σ H' => Kept D H2 H' ∧ TiesAt H' D (innN ts M e i) ∧ (∀ t, t < i → goesB ts M e t = comesB ts M b t) ∧ ∃ v5 v6 v7 v8 : Option V, σ = [some (.ref a), some (.ref d), some (.int (b : Int)), some (.int (e : Int)), some (.ref D), v5, v6, v7, v8]) ⟨(fun _ _ z _ => z), eD.same S2, (fun t ht => absurd ht (Nat.not_lt_zero _)), _, _, _, _, rfl⟩ (fun i σ H' _ ⟨z, _⟩ => SqL.of (z _ _ htl hlD)) ?_ ?_
  · rintro i v σ H3 hv ⟨hk, hD3, hgc, v5, v6, v7, v8, rfl⟩
    obtain ⟨p, hp, rfl⟩ : ∃ p, tas[i]? = some p ∧ v = .ref p := by
      rw [List.getElem?_map] at hv
      cases z : tas[i]? with
      | none => rw [z] at hv; cases hv
      | some p => rw [z] at hv; exact ⟨p, rfl, (Option.some.inj hv).symm⟩
    obtain ⟨uv, he, hpe⟩ := paired_get hP hp
    have hu : nearT ts i = uv.1 := by unfold nearT; rw [he]; rfl
    have hv : farT ts i = uv.2 := by unfold farT; rw [he]; rfl
    have hits := (List.getElem?_eq_some_iff.mp he).1
    have hpD : p ≠ D := ne_of hpe hD2 (by intro z; cases z)
    have hp3 := hk _ _ hpe hpD
    have hdD : d ≠ D := ne_of_none hd nD
    have hd3 := hk _ _ (S2 _ _ (S1 _ _ hd)) hdD
    refine ⟨p, _, rfl, SqT.of hp3, rfl, _, _, rfl, _, _, rfl, rfl, ?_⟩
    refine ⟨_, rfl, _, rfl, d, _, rfl, DGet.k (k := Sum.inl ((uv.1 : Nat) : Int)) hd3, _, rfl, andV (fun k' q' => ⟨_, rfl, _, rfl, rfl, q'⟩) ?_⟩
    rw [goes_eq2, ← hu]
    refine ⟨_, rfl, _, rfl, d, _, rfl, DGet.k (k := Sum.inl ((uv.2 : Nat) : Int)) hd3, _, rfl, andV (fun k' q' => ⟨_, rfl, _, rfl, rfl, q'⟩) ?_⟩
    rw [goes_eq2, ← hv]
    generalize hg : decide (nearT ts i ∈ M ∧ nearT ts i ≠ e) = g
    generalize hc : decide (farT ts i ∈ M ∧ farT ts i ≠ b) = c
    have S03 : Same H H3 := fun x o z => hk _ _ (S2 _ _ (S1 _ _ z)) (ne_of_none z nD)
    refine ⟨_, rfl, _, rfl, rfl, _, rfl, ?_⟩
    by_cases z : g = c
    · refine iteNot' (by rw [z]) ⟨_, rfl, _, rfl, ?_⟩
      have hgc' : ∀ t, t < i + 1 → goesB ts M e t = comesB ts M b t := fun t ht => by
        by_cases y : t = i
        · subst y
          show decide _ = decide _
          rw [hg, hc, z]
        · exact hgc t (by omega)
      cases g with
      | true =>
        obtain ⟨xs3, k1, k2⟩ := hD3.get
        have hil : (innN ts M e i).length ≤ i := by
          rw [List.length_map]
          have := List.length_filter_le (goesB ts M e) (List.range i)
          rwa [List.length_range] at this
        refine iteT ⟨_, rfl, .inl ⟨rfl, _, SqL.of k1⟩, _, rfl, _, rfl, (by show 2 ≤ sizeLine; decide), fun tp ntp => ?_⟩
        obtain ⟨ys, m1, m2, m3⟩ := hD3.push (u := nearT ts i) (v := farT ts i) ntp
        refine ⟨D, ys, _, rfl, rfl, m1, by rw [m2]; exact line200 (by omega), (hk.new ntp).trans (fun x o e1 e2 => by rw [upd_ne e2]; exact e1), ?_, hgc', _, _, _, _, rfl⟩
        have hnn : innN ts M e (i + 1) = innN ts M e i ++ [(nearT ts i, farT ts i)] := by
          show List.map _ (List.filter _ (List.range (i + 1))) = _
          rw [range_filter_succ, if_pos (show goesB ts M e i = true from hg), List.map_append]
          rfl
        rw [hnn]
        exact m3
      | false =>
        refine iteF ⟨hk, ?_, hgc', _, _, _, _, rfl⟩
        have hnn : innN ts M e (i + 1) = innN ts M e i := by
          show List.map _ (List.filter _ (List.range (i + 1))) = _
          rw [range_filter_succ, if_neg (by rw [show goesB ts M e i = false from hg]; exact Bool.false_ne_true), List.append_nil]
        rw [hnn]
        exact hD3
    · refine iteNot (fun y => z (by injection y)) (qN (fun S => z ?_) _ S03)
      rw [← hg, ← hc]
      exact decide_eq_decide.mpr (S i hits)
  · rintro σ H3 ⟨hk, hD3, hgc, v5, v6, v7, v8, rfl⟩
    rw [List.length_map, htas] at hD3 hgc
    exact ⟨_, rfl, qS (fun t ht => decide_eq_decide.mp (hgc t ht)) H3 D (fun x o z => hk _ _ (S2 _ _ (S1 _ _ z)) (ne_of_none z nD)) nD hD3⟩
end
end My
set_option maxHeartbeats 4000000
namespace My
open PySem L2 PyProof.Rows
theorem ref_of {as : List Addr} {j : Nat} {v : V} (hv : (as.map V.ref)[j]? = some v) : ∃ p, as[j]? = some p ∧ v = .ref p := by
  rw [List.getElem?_map] at hv
  cases z : as[j]? with
  | none => rw [z] at hv; cases hv
  | some p => rw [z] at hv; exact ⟨p, rfl, (Option.some.inj hv).symm⟩
abbrev S0At (H : Hp) (p : Addr) (e : Nat × Nat) : Prop := H p = some (.tup [.int (e.1 : Int), .int (e.2 : Int), .int 0])
theorem steps_of {H : Hp} {l : Addr} {as : List Addr} {us : List (Nat × Nat)} (h : H l = some (.lst (as.map V.ref))) (p : Paired (S0At H) as us) : StepsG H l us := by
  refine ⟨as, h, paired_len p, fun i u v hi => ?_⟩
  have hl := (List.getElem?_eq_some_iff.mp hi).1
  have hla : i < as.length := by rw [paired_len p]; exact hl
  obtain ⟨e, he, hp⟩ := paired_get p (List.getElem?_eq_getElem hla)
  obtain rfl : (u, v) = e := Option.some.inj (hi.symm.trans he)
  exact ⟨_, 0, List.getElem?_eq_getElem hla, hp⟩
theorem LolAt.len {H : Hp} {l : Addr} {LL : List (List Nat)} (h : LolAt H l LL) : ∃ xs, H l = some (.lst xs) ∧ xs.length = LL.length := by
  obtain ⟨as, h1, h2⟩ := h
  exact ⟨_, h1, by rw [List.length_map]; exact paired_len h2⟩
theorem spr_list {us : List (Nat × Nat)} {lo : Option Nat} {b N : Nat} (hb : b < N) (hf : FarOk N us) : ∃ L : List Nat, ∀ x, x ∈ L ↔ Spr us lo b x := ⟨(List.range N).filter fun x => bdec (Spr us lo b x), fun x => by
  rw [List.mem_filter, List.mem_range, bdec_iff]
  exact ⟨fun h => h.2, fun h => ⟨h.lt hf hb, h⟩⟩⟩
theorem innP_ok {N : Nat} {ts : List (Nat × Nat)} (ho : OkWeb N ts) (M : List Nat) (e : Nat) : OkWeb N (innP ts M e) := by
  refine ⟨ho.n0, ho.n1, ?_, fun x hx => ?_⟩
  · unfold innP innB
    rw [List.length_map]
    refine Nat.le_trans (List.length_filter_le _ _) ?_
    rw [List.length_range]
    exact ho.m
  · obtain ⟨t, ht, rfl⟩ := List.mem_map.mp hx
    exact far_lt ho (innB_mem.mp ht).1
theorem swaps_ok {N : Nat} {us : List (Nat × Nat)} (ho : OkWeb N us) : OkWeb N (swaps us) := by
  refine ⟨ho.n0, ho.n1, by rw [swaps_len]; exact ho.m, fun x hx => ?_⟩
  obtain ⟨t, ht, rfl⟩ := List.mem_map.mp hx
  exact ⟨(ho.ok t ht).2, (ho.ok t ht).1⟩
section
variable {P : Program} {w : World} {K : PySem.W.Frag} {mg : Str → Option Value} {base : Heap} {C : Addr}
def sp_have_no_round (_ : PySem.W.Frag) (C : Addr) : Sp := fun vs H Q _ => ∃ (a : Addr) (N : Nat) (ts : List (Nat × Nat)) (l : Addr) (us : List (Nat × Nat)), vs = [.ref a, .ref l] ∧ WebAt C a N ts H ∧ OkWeb N us ∧ TiesAt H l us ∧ ∀ H' v, Same H H' → (v = true ↔ Acyc us) → Q (.bl v) H'
theorem ok_have_no_round (D : Def K mg "_have_no_round" s_have_no_round ["web", "ties"]) (B : Bs mg) (Glb : Glo mg) (WK : WebK K mg C)
    (hparts_in_turn : Good P w K mg base "parts_in_turn" sparts_in_turn ["points", "steps"] 2 (spparts_in_turn K C))
    (hWeb_places : GoodP P w K mg base C "places" "Web.places" sWeb_places ["self"] 1 (spWeb_places K C)) :
    Good P w K mg base "_have_no_round" s_have_no_round ["web", "ties"] 3 (sp_have_no_round K C) := by
  refine D.good fun f fd F => ?_
  obtain ⟨fparts_in_turn, dparts_in_turn, Oparts_in_turn, mparts_in_turn, kparts_in_turn, bparts_in_turn, Fparts_in_turn⟩ := hparts_in_turn
  obtain ⟨qWeb_places, fWeb_places, dWeb_places, OWeb_places, pWeb_places, bWeb_places⟩ := hWeb_places
  refine F.ok sc_have_no_round (fun vs H Q E h => ?_) (fun cdv A outer s H vs Q E hr h => ?_)
  · obtain ⟨a, N, ts, l, us, rfl, hw, ho, hT, q⟩ := h
    first | rfl | (rcases h with ⟨_, _, rfl, _⟩ | ⟨_, rfl, _⟩ <;> rfl)
  obtain ⟨a, N, ts, l, us, rfl, hw, ho, hT, q⟩ := h
  refine ⟨_, (pss_cons (ps_if (pt_not (pt_val (pe_callB (cr_all rfl) (by rfl) B.all (by decide +kernel) (pa_cons (pe_lc (own := [("near", 3), ("far", 4)]) (g := gTup K 2 (gCons (gName 3) (gCons (gName 4) gNil))) (by rfl) sc_have_no_round.nd (pi_list (pv 1)) (blkOk_by (own := [("near", 3), ("far", 4)]) (N := ["web", "ties", "steps", "near", "far"]) (sc := defScope s_have_no_round) (by decide +kernel)) (fun _ _ _ _ _ => (pg_tup rfl (pgs_cons (pg_name (i := 3) sc_have_no_round.nd rfl (by first | exact Or.inl rfl | exact Or.inr rfl)) (pgs_cons (pg_name (i := 4) sc_have_no_round.nd rfl (by first | exact Or.inl rfl | exact Or.inr rfl)) pgs_nil)))) (fun _ _ _ _ _ => pts_nil) (fun _ _ _ _ _ => (pe_cmpR op_ne (pv 3) (pv 4) (nomark _)))) pa_nil))))
    (pss_one (ps_ret pe_bl)) pss_nil)
  (pss_cons (ps_setLc (i := 2) (own := [("near", 3), ("far", 4)]) (g := gTup K 2 (gCons (gName 3) (gCons (gName 4) gNil))) (by rfl) sc_have_no_round.nd rfl rfl (sw_true rfl rfl rfl (by decide +kernel)) (pi_list (pv 1)) (blkOk_by (own := [("near", 3), ("far", 4)]) (N := ["web", "ties", "steps", "near", "far"]) (sc := defScope s_have_no_round) (by decide +kernel)) (fun _ _ _ _ _ => (pg_tup rfl (pgs_cons (pg_name (i := 3) sc_have_no_round.nd rfl (by first | exact Or.inl rfl | exact Or.inr rfl)) (pgs_cons (pg_name (i := 4) sc_have_no_round.nd rfl (by first | exact Or.inl rfl | exact Or.inr rfl)) pgs_nil)))) (fun _ _ _ _ _ => pts_nil) (fun _ _ _ _ _ => (pe_tup (pa_cons (pv 3) (pa_cons (pv 4) (pa_cons pe_int pa_nil))))))
  (pss_one (ps_ret (pe_cmpR op_eq (pe_callB call_len_seq (by rfl) B.len (by decide +kernel) (pa_cons (pe_call Oparts_in_turn hr rfl mparts_in_turn kparts_in_turn bparts_in_turn .nil pass0 (pa_cons (pe_prop (pv 0) WK.cl pWeb_places OWeb_places (hr.mono (by decide)) bWeb_places .nil pass0 (by rfl)) (pa_cons (pv 2) pa_nil))) pa_nil)) (pe_prop (pv 0) WK.cl pWeb_places OWeb_places (hr.mono (by decide)) bWeb_places .nil pass0 (by rfl)) (nomark _)))))), ?_⟩
  obtain ⟨dx, tl, fl, ol, h1, _⟩ := id hw
  obtain ⟨tas, htl, hP⟩ := id hT
  have htas := paired_len hP
  have hm := ho.m
  have hN := ho.n1
  refine ⟨_, rfl, l, rfl, ⟨_, SqL.of htl⟩, fun D nD => ?_⟩
  refine lc_list (K := K) (a := l) (xs := tas.map V.ref) (fun i H' => Same H H' ∧ H' D = some (.lst (((us.take i).map fun e => !decide (V.int (e.1 : Int) = V.int (e.2 : Int))).map V.bl))) ⟨same_new nD _, upd_same⟩ (fun i H' _ ⟨z, _⟩ => SqL.of (z _ _ htl)) ?_ ?_
  · rintro i v H2 hv ⟨S2, hD2⟩
    obtain ⟨p, hp, rfl⟩ := ref_of hv
    obtain ⟨e, he, hpe⟩ := paired_get hP hp
    have hi := (List.getElem?_eq_some_iff.mp he).1
    refine ⟨p, _, rfl, SqT.of (S2 _ _ hpe), rfl, _, _, rfl, _, _, rfl, rfl, rfl, _, rfl, _, rfl, rfl, _, hD2, ?_, same_upd S2 nD, ?_⟩
    · rw [List.length_map, List.length_map, List.length_take]
      exact line200 (by omega)
    · rw [upd_same, take_one' he, List.map_append, List.map_append]
      rfl
  rintro H2 ⟨S2, hD2⟩
  rw [List.length_map, htas, List.take_length] at hD2
  refine ⟨D, _, rfl, SqL.of hD2, _, rfl, ?_⟩
  have hall : ((us.map fun e => !decide (V.int (e.1 : Int) = V.int (e.2 : Int))).all id = true) ↔ ∀ t, t < us.length → nearT us t ≠ farT us t := by
    rw [List.all_map, List.all_eq_true]
    constructor
    · intro h t ht z
      have := h _ (List.getElem_mem ht)
      unfold nearT farT at z
      rw [List.getElem?_eq_getElem ht] at z
      have z : us[t].1 = us[t].2 := z
      simp [z] at this
    · intro h e he
      obtain ⟨t, ht, rfl⟩ := List.getElem_of_mem he
      have := h t ht
      unfold nearT farT at this
      rw [List.getElem?_eq_getElem ht] at this
      have this : us[t].1 ≠ us[t].2 := this
      show (!decide _) = true
      rw [Bool.not_eq_true', decide_eq_false_iff_not]
      exact fun z => this (by have := int_eq.mp z; omega)
  have hac := acyc_iff ho.ok
  generalize (us.map fun e => !decide (V.int (e.1 : Int) = V.int (e.2 : Int))).all id = g at hall ⊢
  cases g with
  | false => exact iteT (q _ _ S2 ⟨(fun z => nomatch z), fun z => hall.mpr (hac.mp z).1⟩)
  | true =>
    refine iteF ?_
    have hne := hall.mp rfl
    refine ⟨_, rfl, l, rfl, ⟨_, SqL.of (S2 _ _ htl)⟩, fun D2 nD2 => ?_⟩
    refine lc_list (K := K) (a := l) (xs := tas.map V.ref) (fun i H' => Same H2 H' ∧ ∃ as : List Addr, H' D2 = some (.lst (as.map V.ref)) ∧ Paired (S0At H') as (us.take i)) ⟨same_new nD2 _, [], upd_same, .nil⟩ (fun i H' _ ⟨z, _⟩ => SqL.of (z _ _ (S2 _ _ htl))) ?_ ?_
    · rintro i v H3 hv ⟨S3, as, hD3, hA3⟩
      obtain ⟨p, hp, rfl⟩ := ref_of hv
      obtain ⟨e, he, hpe⟩ := paired_get hP hp
      have hi := (List.getElem?_eq_some_iff.mp he).1
      have hal := paired_len hA3
      rw [List.length_take] at hal
      refine ⟨p, _, rfl, SqT.of (S3 _ _ (S2 _ _ hpe)), rfl, _, _, rfl, _, _, rfl, rfl, rfl, _, rfl, _, rfl, (by show 3 ≤ sizeLine; decide), fun tp ntp => ?_⟩
      have S4 := same_new ntp (.tup [V.int (e.1 : Int), V.int (e.2 : Int), V.int 0])
      have e4 : upd H3 tp (.tup [V.int (e.1 : Int), V.int (e.2 : Int), V.int 0]) tp = some (.tup [V.int (e.1 : Int), V.int (e.2 : Int), V.int 0]) := upd_same
      generalize upd H3 tp (.tup [V.int (e.1 : Int), V.int (e.2 : Int), V.int 0]) = H4 at S4 e4 ⊢
      have hD4 := S4 _ _ hD3
      refine ⟨_, hD4, by rw [List.length_map]; exact line200 (by omega), same_upd (S3.trans S4) nD2, as ++ [tp], by rw [upd_same, List.map_append]; rfl, ?_⟩
      rw [take_one' he]
      refine paired_app (paired_mono (fun t b hb => ?_) hA3) ?_
      · show upd _ _ _ t = _
        rw [upd_ne (ne_of (S4 _ _ hb) hD4 (by intro z; cases z))]
        exact S4 _ _ hb
      · show upd _ _ _ tp = _
        rw [upd_ne (ne_of e4 hD4 (by intro z; cases z))]
        exact e4
    rintro H3 ⟨S3, as, hD3, hA3⟩
    rw [List.length_map, htas, List.take_length] at hA3
    have S03 := S2.trans S3
    refine ⟨_, rfl, a, dx, _, rfl, S03 _ _ h1, a, N, ts, rfl, hw.same S03, _, rfl, N, D2, us, rfl, steps_of hD3 hA3, ho, fun H4 l4 hs nl4 S4 hpm hlol _ => ?_⟩
    obtain ⟨xs, k1, k2⟩ := hlol.len
    refine ⟨l4, _, rfl, .inl (SqL.of k1), _, rfl, a, dx, _, rfl, S4 _ _ (S03 _ _ h1), a, N, ts, rfl, hw.same (S03.trans S4), rfl, q _ _ (S03.trans S4) ?_⟩
    rw [decide_eq_true_eq, k2, List.length_map, hpm.length_eq, hac]
    exact ⟨fun z => ⟨hne, by have := int_eq.mp z; omega⟩, fun z => by rw [z.2]⟩
def sp_is_shut (_ : PySem.W.Frag) (C : Addr) : Sp := fun vs H Q _ => ∃ (a : Addr) (N : Nat) (ts : List (Nat × Nat)) (b e : Nat), vs = [.ref a, .int ((b : Nat) : Int), .int ((e : Nat) : Int)] ∧ WebAt C a N ts H ∧ OkWeb N ts ∧ b < N ∧ e < N ∧ ∀ H' v, Same H H' → (v = true ↔ ShutP N ts b e) → Q (.bl v) H'
theorem ok_is_shut (D : Def K mg "_is_shut" s_is_shut ["web", "begin", "end"]) (B : Bs mg) (Glb : Glo mg) (WK : WebK K mg C)
    (h_inside_of : Good P w K mg base "_inside_of" s_inside_of ["web", "begin", "end"] 4 (sp_inside_of K C))
    (h_inner_ties : Good P w K mg base "_inner_ties" s_inner_ties ["web", "lot", "begin", "end"] 3 (sp_inner_ties K C))
    (h_spread : Good P w K mg base "_spread" s_spread ["ends", "start", "last"] 1 (sp_spread K C))
    (h_ends_from : Good P w K mg base "_ends_from" s_ends_from ["web", "ties"] 3 (sp_ends_from K C))
    (h_have_no_round : Good P w K mg base "_have_no_round" s_have_no_round ["web", "ties"] 3 (sp_have_no_round K C)) :
    Good P w K mg base "_is_shut" s_is_shut ["web", "begin", "end"] 5 (sp_is_shut K C) := by
  refine D.good fun f fd F => ?_
  obtain ⟨f_inside_of, d_inside_of, O_inside_of, m_inside_of, k_inside_of, b_inside_of, F_inside_of⟩ := h_inside_of
  obtain ⟨f_inner_ties, d_inner_ties, O_inner_ties, m_inner_ties, k_inner_ties, b_inner_ties, F_inner_ties⟩ := h_inner_ties
  obtain ⟨f_spread, d_spread, O_spread, m_spread, k_spread, b_spread, F_spread⟩ := h_spread
  obtain ⟨f_ends_from, d_ends_from, O_ends_from, m_ends_from, k_ends_from, b_ends_from, F_ends_from⟩ := h_ends_from
  obtain ⟨f_have_no_round, d_have_no_round, O_have_no_round, m_have_no_round, k_have_no_round, b_have_no_round, F_have_no_round⟩ := h_have_no_round
  refine F.ok sc_is_shut (fun vs H Q E h => ?_) (fun cdv A outer s H vs Q E hr h => ?_)
  · obtain ⟨a, N, ts, b, e, rfl, hw, ho, hb, he, q⟩ := h
    first | rfl | (rcases h with ⟨_, _, rfl, _⟩ | ⟨_, rfl, _⟩ <;> rfl)
  obtain ⟨a, N, ts, b, e, rfl, hw, ho, hb, he, q⟩ := h
  refine ⟨_, (pss_cons (ps_set (i := 3) sc_is_shut.nd rfl (by first | exact Or.inl rfl | exact Or.inr rfl) (pe_call O_inside_of hr rfl m_inside_of k_inside_of b_inside_of .nil pass0 (pa_cons (pv 0) (pa_cons (pv 1) (pa_cons (pv 2) pa_nil)))))
  (pss_cons (ps_if (PW.pt (pw_or (pt_cmpR op_eq (pv 1) (pv 2) (nomark _)) (pw_or1 (pt_cmp (pc_dnotin (hu_of hr) (pv 2) (pv 3))))))
    (pss_one (ps_ret pe_bl)) pss_nil)
  (pss_cons (ps_set (i := 4) sc_is_shut.nd rfl (by first | exact Or.inl rfl | exact Or.inr rfl) (pe_call O_inner_ties (hr.mono (by decide)) rfl m_inner_ties k_inner_ties b_inner_ties .nil pass0 (pa_cons (pv 0) (pa_cons (pv 3) (pa_cons (pv 1) (pa_cons (pv 2) pa_nil))))))
  (pss_cons (ps_if (PW.pt (pw_or (pt_cmpR op_isN (pv 4) pe_non (nomark _)) (pw_or1 (pt_not (pt_val (pe_call O_have_no_round (hr.mono (by decide)) rfl m_have_no_round k_have_no_round b_have_no_round .nil pass0 (pa_cons (pv 0) (pa_cons (pv 4) pa_nil))))))))
    (pss_one (ps_ret pe_bl)) pss_nil)
  (pss_cons (ps_setLc (i := 5) (own := [("near", 7), ("far", 8)]) (g := gTup K 2 (gCons (gName 7) (gCons (gName 8) gNil))) (by rfl) sc_is_shut.nd rfl rfl (sw_true rfl rfl rfl (by decide +kernel)) (pi_list (pv 4)) (blkOk_by (own := [("near", 7), ("far", 8)]) (N := ["web", "begin", "end", "lot", "inner", "back", "leading", "near", "far", "place"]) (sc := defScope s_is_shut) (by decide +kernel)) (fun _ _ _ _ _ => (pg_tup rfl (pgs_cons (pg_name (i := 7) sc_is_shut.nd rfl (by first | exact Or.inl rfl | exact Or.inr rfl)) (pgs_cons (pg_name (i := 8) sc_is_shut.nd rfl (by first | exact Or.inl rfl | exact Or.inr rfl)) pgs_nil)))) (fun _ _ _ _ _ => pts_nil) (fun _ _ _ _ _ => (pe_tup (pa_cons (pv 8) (pa_cons (pv 7) pa_nil)))))
  (pss_cons (ps_set (i := 6) sc_is_shut.nd rfl (by first | exact Or.inl rfl | exact Or.inr rfl) (pe_call O_spread (hr.mono (by decide)) rfl m_spread k_spread b_spread .nil pass0 (pa_cons (pe_call O_ends_from (hr.mono (by decide)) rfl m_ends_from k_ends_from b_ends_from .nil pass0 (pa_cons (pv 0) (pa_cons (pv 5) pa_nil))) (pa_cons (pv 2) (pa_cons pe_non pa_nil)))))
  (pss_one (ps_ret (pe_callB (cr_all rfl) (by rfl) B.all (by decide +kernel) (pa_cons (pe_lock (pe_lc (own := [("place", 9)]) (g := gName 9) (by rfl) sc_is_shut.nd (pi_keys (pv 3)) (blkOk_by (own := [("place", 9)]) (N := ["web", "begin", "end", "lot", "inner", "back", "leading", "near", "far", "place"]) (sc := defScope s_is_shut) (by decide +kernel)) (fun _ _ _ _ _ => (pg_name (i := 9) sc_is_shut.nd rfl (by first | exact Or.inl rfl | exact Or.inr rfl))) (fun _ _ _ _ _ => pts_nil) (fun _ _ _ _ _ => (pe_cmp (pc_din (hu_of hr) (pv 9) (pv 6)) rfl)))) pa_nil)))))))))), ?_⟩
  refine ⟨_, rfl, _, rfl, _, rfl, a, N, ts, b, e, rfl, hw, ho, hb, fun H1 d M S1 nd hd1 hMl hMn hMlt hM => ?_⟩
  have hf : FarOk N ts := fun t h => (far_lt ho h).2
  have hoI := innP_ok ho M e
  have hoS := swaps_ok hoI
  have hfS : FarOk N (swaps (innP ts M e)) := fun t h => (far_lt hoS h).2
  have hN := ho.n1
  have must : ShutP N ts b e → b ≠ e ∧ e ∈ M ∧ Cond1 ts M b e ∧ Acyc (innP ts M e) := fun z => by
    obtain ⟨M2, hM2⟩ := spr_list (lo := none) he hfS
    obtain ⟨a1, a2, a3, a4, _⟩ := (shut_iff hb he hMlt hM hM2).mp z
    exact ⟨a1, a2, a3, a4⟩
  refine ⟨_, rfl, _, rfl, rfl, _, rfl, ?_⟩
  by_cases hbe : b = e
  · exact iteYes (by rw [hbe]) (iteT (q _ _ S1 ⟨(fun z => nomatch z), fun z => absurd hbe z.1⟩))
  refine iteNo (fun z => hbe (by have := int_eq.mp z; omega)) ⟨_, rfl, _, rfl, d, _, rfl, DGet.k (k := Sum.inl ((e : Nat) : Int)) hd1, _, rfl, ?_⟩
  rw [dM_some]
  by_cases heM : e ∈ M
  rotate_left
  · exact iteNot heM (q _ _ S1 ⟨(fun z => nomatch z), fun z => absurd (must z).2.1 heM⟩)
  refine iteNot' heM ?_
  refine ⟨_, rfl, _, rfl, _, rfl, _, rfl, a, N, ts, d, M, b, e, rfl, hw.same S1, ho, hd1, fun hn H2 S2 => ?_, fun hc H2 il S2 nil hI => ?_⟩
  · exact ⟨_, rfl, rfl, _, rfl, iteYes rfl (iteT (q _ _ (S1.trans S2) ⟨(fun z => nomatch z), fun z => absurd (must z).2.2.1 hn⟩))⟩
  refine ⟨_, rfl, rfl, _, rfl, iteNo (fun z => nomatch z) ⟨_, rfl, _, rfl, a, N, ts, il, innP ts M e, rfl, hw.same (S1.trans S2), hoI, hI, fun H3 v S3 hv => ⟨_, rfl, ?_⟩⟩⟩
  have S03 := (S1.trans S2).trans S3
  have hd3 := S3 _ _ (S2 _ _ hd1)
  have hI3 := hI.same S3
  cases v with
  | false => exact iteT (q _ _ S03 ⟨(fun z => nomatch z), fun z => hv.mpr (must z).2.2.2⟩)
  | true =>
    have hac := hv.mp rfl
    refine iteF ?_
    obtain ⟨tas, htl, hP⟩ := id hI3
    have htas := paired_len hP
    have hmI := hoI.m
    refine ⟨_, rfl, il, rfl, ⟨_, SqL.of htl⟩, fun D nD => ?_⟩
    refine lc_list (K := K) (a := il) (xs := tas.map V.ref) (fun i H' => Same H3 H' ∧ TiesAt H' D (swaps ((innP ts M e).take i))) ⟨same_new nD _, TiesAt.nil⟩ (fun i H' _ ⟨z, _⟩ => SqL.of (z _ _ htl)) ?_ ?_
    · rintro i v H4 hv ⟨S4, hT4⟩
      obtain ⟨p, hp, rfl⟩ := ref_of hv
      obtain ⟨x, hx, hpx⟩ := paired_get hP hp
      have hi := (List.getElem?_eq_some_iff.mp hx).1
      refine ⟨p, _, rfl, SqT.of (S4 _ _ hpx), rfl, _, _, rfl, _, _, rfl, rfl, rfl, _, rfl, _, rfl, (by show 2 ≤ sizeLine; decide), fun tp ntp => ?_⟩
      obtain ⟨ys, m1, m2, m3⟩ := hT4.push (u := x.2) (v := x.1) ntp
      refine ⟨ys, m1, by rw [m2, swaps_len, List.length_take]; exact line200 (by omega), same_upd (S4.trans (same_new ntp _)) nD, ?_⟩
      have : swaps ((innP ts M e).take (i + 1)) = swaps ((innP ts M e).take i) ++ [(x.2, x.1)] := by
        rw [take_one' hx]
        unfold swaps
        rw [List.map_append]
        rfl
      rw [this]
      exact m3
    rintro H4 ⟨S4, hT4⟩
    rw [List.length_map, htas, List.take_length] at hT4
    have S04 := S03.trans S4
    have hd4 := S4 _ _ hd3
    refine ⟨_, rfl, _, rfl, a, N, ts, D, swaps (innP ts M e), rfl, hw.same S04, ho, hT4, hoS.ok, hoS.m, fun H5 rp S5 nrp hrp => ⟨_, rfl, rp, N, swaps (innP ts M e), e, none, rfl, hrp, hoS.ok, hoS.m, hN, he, fun H6 d2 M2 S6 nd2 hd6 hM2l _ hM2lt hM2 => ?_⟩⟩
    have S06 := (S04.trans S5).trans S6
    have hdd6 := S6 _ _ (S5 _ _ hd4)
    have hdd : d2 ≠ d := fun z => by
      rw [z] at nd2
      rw [S5 _ _ hd4] at nd2
      cases nd2
    have hsi := shut_iff hb he hMlt hM hM2
    have hsz : M.length ≤ 60 := by omega
    refine ⟨d, _, hdd6, trivial, fun od => ?_⟩
    have hF7 : upd H6 d (.frz od (.dK (dM M))) d = some (.frz od (.dK (dM M))) := upd_same
    have k7 : ∀ x u, x ≠ d → H6 x = some u → upd H6 d (.frz od (.dK (dM M))) x = some u := fun x u n e => by rw [upd_ne n]; exact e
    have n7 : ∀ x, x ≠ d → upd H6 d (.frz od (.dK (dM M))) x = none → H6 x = none := fun x n e => by rw [upd_ne n] at e; exact e
    generalize upd H6 d (.frz od (.dK (dM M))) = H7 at hF7 k7 n7 ⊢
    refine ⟨_, rfl, d, od, rfl, .inl ⟨_, hF7, fun L nL => ?_⟩⟩
    have nLd : L ≠ d := (ne_of_none hF7 nL).symm
    have nL6 := n7 L nLd nL
    refine lc_it walk_keys (fun i H' => (∀ x u, x ≠ d → H6 x = some u → H' x = some u) ∧ H' d = some (.frz od (.dK (dM M))) ∧ H' L = some (.lst (((M.take i).map fun n => decide (n ∈ M2)).map V.bl))) ⟨fun x u n e => by rw [upd_ne (ne_of_none e nL6)]; exact k7 x u n e, (upd_ne nLd.symm).trans hF7, upd_same⟩ (fun i H' _ ⟨_, h, _⟩ => h) ?_ ?_
    · rintro i x H8 H8' hi ⟨k8, hF8, hL8⟩ ⟨rfl, kk, vv, hkv, rfl⟩
      obtain ⟨n, hn, ek⟩ : ∃ n, M[i]? = some n ∧ ((Sum.inl (n : Int) : Key), V.bl true) = (kk, vv) := by
        rw [List.getElem?_map] at hkv
        cases z : M[i]? with
        | none => rw [z] at hkv; cases hkv
        | some n => rw [z] at hkv; exact ⟨n, rfl, Option.some.inj hkv⟩
      cases ek
      have hi' := (List.getElem?_eq_some_iff.mp hn).1
      refine ⟨rfl, _, rfl, _, rfl, d2, _, rfl, DGet.k (k := Sum.inl ((n : Nat) : Int)) (k8 _ _ hdd hd6), _, hL8, ?_, fun x u m e => by rw [upd_ne (ne_of_none e nL6)]; exact k8 x u m e, (upd_ne nLd.symm).trans hF8, ?_⟩
      · rw [List.length_map, List.length_map, List.length_take]
        exact line200 (by omega)
      · rw [upd_same, take_one' hn, List.map_append, List.map_append, dM_some]
        rfl
    rintro H8 ⟨k8, hF8, hL8⟩
    rw [List.length_map, List.take_length] at hL8
    refine ⟨hF8, L, _, rfl, SqL.of (by rw [upd_ne nLd]; exact hL8), q _ _ (fun x o z => ?_) ?_⟩
    · have hxd : x ≠ d := ne_of_none z nd
      rw [upd_ne hxd]
      exact k8 _ _ hxd (S06 _ _ z)
    · rw [hsi, List.all_map, List.all_eq_true]
      exact ⟨fun h => ⟨hbe, heM, hc, hac, fun x hx => of_decide_eq_true (h x hx)⟩, fun h x hx => decide_eq_true (h.2.2.2.2 x hx)⟩
end
end My
namespace My
open PySem PySem.Spec PyProof.Rows L2
/-- any walk: what is done with each item, by what holds behind it -/
theorem it_any {J : It} {n : Nat} {G : Hp → Prop} {Y : Nat → Hp → V → Hp → Prop} (wk : Walk J n G Y) {H0 : Hp} {Qd : Hp → Prop} {Step : V → Hp → (Hp → Prop) → Prop} (Pv : Nat → Hp → Prop) (h0 : Pv 0 H0) (hG : ∀ i H, i ≤ n → Pv i H → G H)
    (hs : ∀ i x H H', i < n → Pv i H → Y i H x H' → Step x H' (Pv (i + 1))) (hd : ∀ H, Pv n H → Qd H) :
    ∃ W : Nat → Nat → Hp → Prop, (∃ m, W 0 m H0) ∧ ∀ i m H, W i m H → (J.stop i H ∧ Qd H) ∨ (J.go i H ∧ ∃ Nx : Hp → Prop, (∀ H', Nx H' → ∃ m', m' < m ∧ W (i + 1) m' H') ∧ ∀ x H', J.yld i H x H' → Step x H' Nx) := by
  refine ⟨fun i m H => i ≤ n ∧ m = n - i ∧ Pv i H, ⟨n, Nat.zero_le _, rfl, h0⟩, fun i m H ⟨hi, em, p⟩ => ?_⟩
  have hq := hG i H hi p
  rcases Nat.lt_or_ge i n with lt | ge
  · exact .inr ⟨wk.goes i H lt hq, Pv (i + 1), fun H' p' => ⟨n - (i + 1), by omega, lt, rfl, p'⟩, fun x H' y => hs i x H H' lt p (wk.yields i H x H' lt hq y)⟩
  · have e : i = n := Nat.le_antisymm hi ge
    subst e
    exact .inl ⟨wk.stops H hq, hd H p⟩
end My
/-! for x in r, r a range object that lies in a name -/
namespace My
open PySem PySem.Spec PyProof.Rows L2
section
variable {X : Cx} {tg : Expr}
def iRngV (te : TE) : TI := fun σ H R => te σ H fun x H1 => ∃ (p : Addr) (n : Nat), x = .ref p ∧ H1 p = some (.rng 0 (n : Int)) ∧ n ≤ 1000 ∧ R (Itr 0 n) H1
theorem pi_rngV {e : Expr} {te : TE} (he : PE X e te) : PI X tg e (iRngV te) := by
  refine ⟨fun pins s σ H R I h => ?_⟩
  refine thn (he.run pins s σ H _ I h) fun v s1 ⟨x, H1, I1, r1, q1⟩ => ?_
  obtain ⟨p, n, e, hp, hn, q⟩ := q1
  subst e
  cases r1
  obtain ⟨t1, t2, t3, ho⟩ := (show ObjOk X.prog X.w H1 s1.heap p (.rng 0 (n : Int)) from I1.hok p _ hp)
  refine wpAny_pyIter_range (s := s1) ho (small_one (by omega) (by omega) (by omega) (by omega)) ?_
  refine ⟨s1.heap.objs.size, [s1.heap.objs.size], _, _, H1, rfl, I1.kept (t' := s1.toks) fun b o e => Heap.get?_push_of_some _ e, turn_range _ 0 n, ?_, fun b hb => ?_, q⟩
  · have e1 : (0 : Int) + ((0 : Nat) : Int) * 1 = 0 := by simp
    have e2 : ((n : Nat) : Int) - ((0 : Nat) : Int) = Builtin.Range.rangeSize 0 (n : Int) 1 := by rw [rangeSize_one]; split <;> omega
    show IsRangeIter _ _ ((0 : Int) + ((0 : Nat) : Int) * 1) (((n : Nat) : Int) - ((0 : Nat) : Int)) 1
    rw [e1, e2]
    exact Heap.get?_push_size _ rfl
  · have e : b = s1.heap.objs.size := by simpa using hb
    subst e
    exact I1.fpOk (Nat.le_refl _) (I1.hok.fresh (Nat.le_refl _))
end
end My
set_option maxHeartbeats 4000000
namespace My
open PySem L2 PyProof.Rows
section
variable {N : Nat} {ts : List (Nat × Nat)} {b e : Nat} {M : List Nat}
theorem bub_iff (hbN : b < N) (heN : e < N) (hM : ∀ x, x ∈ M ↔ Spr ts (some e) b x) : BubP N ts b e ↔ 2 ≤ (outB ts b).length ∧ ShutP N ts b e ∧ ∀ p ∈ M, p ≠ e → ¬ ShutP N ts b p := by
  constructor
  · rintro ⟨h2, hbe, L, hL, Sh, hl⟩
    have := shut_spread hbN heN hL Sh hM
    exact ⟨h2, ⟨hbe, L, hL, Sh⟩, fun p hp => hl p ((this p).mpr hp)⟩
  · rintro ⟨h2, ⟨hbe, L, hL, Sh⟩, hl⟩
    have := shut_spread hbN heN hL Sh hM
    exact ⟨h2, hbe, L, hL, Sh, fun p hp => hl p ((this p).mp hp)⟩
/-- the ends of a begin's bubbles -/
noncomputable def endsL (N : Nat) (ts : List (Nat × Nat)) (b n : Nat) : List Nat := (List.range n).filter fun e => bdec (BubP N ts b e)
theorem one_filter {n e0 : Nat} {p : Nat → Bool} (h : ∀ x, x < n → (p x = true ↔ x = e0)) (h0 : e0 < n) : (List.range n).filter p = [e0] := by
  refine rise_eq (range_rise n p) (by simp) fun x => ?_
  rw [List.mem_filter, List.mem_range, List.mem_singleton]
  exact ⟨fun ⟨a, c⟩ => (h x a).mp c, fun a => ⟨by omega, (h x (by omega)).mpr a⟩⟩
theorem ends_search (hf : FarOk N ts) (hbN : b < N) : endsL N ts b N = match searchB N ts b with | none => [] | some r => [r.2] := by
  unfold endsL
  cases h : searchB N ts b with
  | none =>
    rw [List.filter_eq_nil_iff]
    intro x hx z
    obtain ⟨P, hP⟩ := (search_iff hf hbN (List.mem_range.mp hx)).mpr (bdec_iff.mp z)
    rw [h] at hP
    cases hP
  | some r =>
    have B := search_bub hf hbN (P := r.1) (e := r.2) h
    refine one_filter (fun x hx => ?_) B.elt
    rw [bdec_iff, ← search_iff hf hbN hx]
    exact ⟨fun ⟨P, hP⟩ => by rw [h] at hP; cases hP; rfl, fun z => ⟨r.1, by rw [h, z]⟩⟩
theorem bubsF_one (hf : FarOk N ts) (hbN : b < N) : bubsF N ts [b] = (endsL N ts b N).map fun e => (b, e) := by
  rw [ends_search hf hbN]
  unfold bubsF
  cases h : searchB N ts b with
  | none => simp [h]
  | some r => simp [h]
theorem bubsF_app (L1 L2 : List Nat) : bubsF N ts (L1 ++ L2) = bubsF N ts L1 ++ bubsF N ts L2 := List.filterMap_append
end
section
variable {P : Program} {w : World} {K : PySem.W.Frag} {mg : Str → Option Value} {base : Heap} {C : Addr}
def sp_is_bubble (_ : PySem.W.Frag) (C : Addr) : Sp := fun vs H Q _ => ∃ (a : Addr) (N : Nat) (ts : List (Nat × Nat)) (b e : Nat), vs = [.ref a, .int ((b : Nat) : Int), .int ((e : Nat) : Int)] ∧ WebAt C a N ts H ∧ OkWeb N ts ∧ b < N ∧ e < N ∧ ∀ H' v, Same H H' → (v = true ↔ BubP N ts b e) → Q (.bl v) H'
theorem ok_is_bubble (D : Def K mg "_is_bubble" s_is_bubble ["web", "begin", "end"]) (B : Bs mg) (Glb : Glo mg) (WK : WebK K mg C)
    (h_inside_of : Good P w K mg base "_inside_of" s_inside_of ["web", "begin", "end"] 4 (sp_inside_of K C))
    (h_is_shut : Good P w K mg base "_is_shut" s_is_shut ["web", "begin", "end"] 5 (sp_is_shut K C))
    (hWeb_ties_from : GoodM P w K mg base C "ties_from" "Web.ties_from" sWeb_ties_from ["self", "place"] 5 (spWeb_ties_from K C)) :
    Good P w K mg base "_is_bubble" s_is_bubble ["web", "begin", "end"] 7 (sp_is_bubble K C) := by
  refine D.good fun f fd F => ?_
  obtain ⟨f_inside_of, d_inside_of, O_inside_of, m_inside_of, k_inside_of, b_inside_of, F_inside_of⟩ := h_inside_of
  obtain ⟨f_is_shut, d_is_shut, O_is_shut, m_is_shut, k_is_shut, b_is_shut, F_is_shut⟩ := h_is_shut
  obtain ⟨fWeb_ties_from, dWeb_ties_from, OWeb_ties_from, tWeb_ties_from, bWeb_ties_from, FWeb_ties_from⟩ := hWeb_ties_from
  refine F.ok sc_is_bubble (fun vs H Q E h => ?_) (fun cdv A outer s H vs Q E hr h => ?_)
  · obtain ⟨a, N, ts, b, e, rfl, hw, ho, hb, he, q⟩ := h
    first | rfl | (rcases h with ⟨_, _, rfl, _⟩ | ⟨_, rfl, _⟩ <;> rfl)
  obtain ⟨a, N, ts, b, e, rfl, hw, ho, hb, he, q⟩ := h
  refine ⟨_, (pss_cons (ps_if (PW.pt (pw_or (pt_cmpR op_lt (pe_callB call_len_seq (by rfl) B.len (by decide +kernel) (pa_cons (pe_meth (pv 0) WK.cl tWeb_ties_from OWeb_ties_from (hr.mono (by decide)) bWeb_ties_from .nil pass0 (pa_cons (pv 1) pa_nil)) pa_nil)) pe_int (nomark _)) (pw_or1 (pt_not (pt_val (pe_call O_is_shut (hr.mono (by decide)) rfl m_is_shut k_is_shut b_is_shut .nil pass0 (pa_cons (pv 0) (pa_cons (pv 1) (pa_cons (pv 2) pa_nil)))))))))
    (pss_one (ps_ret pe_bl)) pss_nil)
  (pss_cons (ps_set (i := 3) sc_is_bubble.nd rfl (by first | exact Or.inl rfl | exact Or.inr rfl) (pe_call O_inside_of (hr.mono (by decide)) rfl m_inside_of k_inside_of b_inside_of .nil pass0 (pa_cons (pv 0) (pa_cons (pv 1) (pa_cons (pv 2) pa_nil)))))
  (pss_one (ps_ret (pe_not (pe_callB (cr_any rfl) (by rfl) B.any (by decide +kernel) (pa_cons (pe_lock (pe_lc (own := [("other", 4)]) (g := gName 4) (by rfl) sc_is_bubble.nd (pi_keys (pv 3)) (blkOk_by (own := [("other", 4)]) (N := ["web", "begin", "end", "within", "other"]) (sc := defScope s_is_bubble) (by decide +kernel)) (fun _ _ _ _ _ => (pg_name (i := 4) sc_is_bubble.nd rfl (by first | exact Or.inl rfl | exact Or.inr rfl))) (fun _ _ _ _ _ => (pts_one (pt_cmpR op_ne (pv 4) (pv 2) (nomark _)))) (fun _ _ _ _ _ => (pe_call O_is_shut (hr.mono (by decide)) rfl m_is_shut k_is_shut b_is_shut .nil pass0 (pa_cons (pv 0) (pa_cons (pv 1) (pa_cons (pv 4) pa_nil))))))) pa_nil))))))), ?_⟩
  obtain ⟨dx, tl, fl, ol, h1, _⟩ := id hw
  have hN := ho.n1
  refine ⟨_, rfl, a, dx, _, rfl, h1, wf_tf _ _ _ _, _, rfl, a, N, ts, b, rfl, hw, hb, fun H1 l1 nl1 S1 hl1 => ?_⟩
  rw [frm_out] at hl1
  refine ⟨l1, _, rfl, .inl (SqL.of hl1), _, _, rfl, rfl, _, rfl, ?_⟩
  by_cases h2 : (outB ts b).length < 2
  · exact iteYes (by rw [List.length_map]; omega) (iteT (q _ _ S1 ⟨(fun z => nomatch z), fun z => absurd z.1 (by omega)⟩))
  refine iteNo (by rw [List.length_map]; omega) ?_
  refine ⟨_, rfl, _, rfl, _, rfl, a, N, ts, b, e, rfl, hw.same S1, ho, hb, he, fun H2 v S2 hv => ⟨_, rfl, ?_⟩⟩
  have S02 := S1.trans S2
  cases v with
  | false => exact iteT (q _ _ S02 ⟨(fun z => nomatch z), fun ⟨_, hbe, L, hL, Sh, _⟩ => hv.mpr ⟨hbe, L, hL, Sh⟩⟩)
  | true =>
    have hsh := hv.mp rfl
    refine iteF ?_
    refine ⟨_, rfl, _, rfl, _, rfl, a, N, ts, b, e, rfl, hw.same S02, ho, hb, fun H3 d M S3 nd hd3 hMl hMn hMlt hM => ?_⟩
    have S03 := S02.trans S3
    have hsz : M.length ≤ 60 := by omega
    have nd0 : H d = none := S02.free nd
    refine ⟨d, _, hd3, trivial, fun od => ?_⟩
    have hF7 : upd H3 d (.frz od (.dK (dM M))) d = some (.frz od (.dK (dM M))) := upd_same
    have k7 : Same H (upd H3 d (.frz od (.dK (dM M)))) := same_upd S03 nd0
    generalize upd H3 d (.frz od (.dK (dM M))) = H7 at hF7 k7 ⊢
    refine ⟨_, rfl, d, od, rfl, .inl ⟨_, hF7, fun L nL => ?_⟩⟩
    have nLd : L ≠ d := (ne_of_none hF7 nL).symm
    refine lc_it walk_keys (fun i H' => Same H7 H' ∧ ∃ bs : List Bool, H' L = some (.lst (bs.map V.bl)) ∧ bs.length ≤ i ∧ (bs.any id = true ↔ ∃ p ∈ M.take i, p ≠ e ∧ ShutP N ts b p)) ⟨same_new nL _, [], upd_same, Nat.le_refl _, by simp⟩ (fun i H' _ ⟨z, _⟩ => z _ _ hF7) ?_ ?_
    · rintro i x H8 H8' hi ⟨S8, bs, hL8, hbl, hbs⟩ ⟨rfl, kk, vv, hkv, rfl⟩
      obtain ⟨n, hn, ek⟩ : ∃ n, M[i]? = some n ∧ ((Sum.inl (n : Int) : Key), V.bl true) = (kk, vv) := by
        rw [List.getElem?_map] at hkv
        cases z : M[i]? with
        | none => rw [z] at hkv; cases hkv
        | some n => rw [z] at hkv; exact ⟨n, rfl, Option.some.inj hkv⟩
      cases ek
      have hi' := (List.getElem?_eq_some_iff.mp hn).1
      refine ⟨rfl, _, rfl, _, rfl, rfl, _, rfl, ?_⟩
      by_cases c : n = e
      · refine iteNot' (by rw [c]; rfl) ⟨S8, bs, hL8, by omega, ?_⟩
        rw [hbs, take_one' hn]
        constructor
        · rintro ⟨p, hp, h⟩
          exact ⟨p, List.mem_append_left _ hp, h⟩
        · rintro ⟨p, hp, h, k⟩
          rcases List.mem_append.mp hp with z | z
          · exact ⟨p, z, h, k⟩
          · exact absurd ((List.mem_singleton.mp z).trans c) h
      · refine iteNot (fun z => c (by have := int_eq.mp z; omega)) ?_
        refine ⟨_, rfl, _, rfl, _, rfl, a, N, ts, b, n, rfl, hw.same (k7.trans S8), ho, hb, hMlt n (List.mem_of_getElem? hn), fun H9 v S9 hv9 => ?_⟩
        refine ⟨_, S9 _ _ hL8, by rw [List.length_map]; exact line200 (by omega), same_upd (S8.trans S9) nL, bs ++ [v], by rw [upd_same, List.map_append]; rfl, by rw [List.length_append]; show bs.length + 1 ≤ _; omega, ?_⟩
        rw [take_one' hn, List.any_append, Bool.or_eq_true, hbs]
        have e1 : ([v].any id = true) ↔ ShutP N ts b n := by rw [← hv9]; simp
        rw [e1]
        constructor
        · rintro (⟨p, hp, h⟩ | h)
          · exact ⟨p, List.mem_append_left _ hp, h⟩
          · exact ⟨n, by simp, c, h⟩
        · rintro ⟨p, hp, h, k⟩
          rcases List.mem_append.mp hp with z | z
          · exact .inl ⟨p, z, h, k⟩
          · rw [List.mem_singleton.mp z] at k; exact .inr k
    rintro H8 ⟨S8, bs, hL8, hbl, hbs⟩
    rw [List.length_map, List.take_length] at hbs
    refine ⟨S8 _ _ hF7, L, _, rfl, SqL.of (by rw [upd_ne nLd]; exact hL8), _, rfl, q _ _ (fun x o z => ?_) ?_⟩
    · have hxd : x ≠ d := ne_of_none z nd0
      rw [upd_ne hxd]
      exact (k7.trans S8) _ _ z
    · rw [Bool.not_eq_true', ← Bool.not_eq_true, hbs, bub_iff hb he hM]
      exact ⟨fun h => ⟨by omega, hsh, fun p hp hpe k => h ⟨p, hp, hpe, k⟩⟩, fun h ⟨p, hp, hpe, k⟩ => h.2.2 p hp hpe k⟩
def spis_shut (_ : PySem.W.Frag) (C : Addr) : Sp := fun vs H Q _ => ∃ (a : Addr) (N : Nat) (ts : List (Nat × Nat)) (b e : Nat), vs = [.ref a, .int ((b : Nat) : Int), .int ((e : Nat) : Int)] ∧ WebAt C a N ts H ∧ OkWeb N ts ∧ b < N ∧ e < N ∧ ∀ H' v, Same H H' → (v = true ↔ ShutP N ts b e) → Q (.bl v) H'
theorem okis_shut (D : Def K mg "is_shut" sis_shut ["web", "begin", "end"]) (B : Bs mg) (Glb : Glo mg) (WK : WebK K mg C)
    (h_need_places : Good P w K mg base "_need_places" s_need_places ["web", "begin", "end"] 5 (sp_need_places K C))
    (h_is_shut : Good P w K mg base "_is_shut" s_is_shut ["web", "begin", "end"] 5 (sp_is_shut K C)) :
    Good P w K mg base "is_shut" sis_shut ["web", "begin", "end"] 6 (spis_shut K C) := by
  refine D.good fun f fd F => ?_
  obtain ⟨f_need_places, d_need_places, O_need_places, m_need_places, k_need_places, b_need_places, F_need_places⟩ := h_need_places
  obtain ⟨f_is_shut, d_is_shut, O_is_shut, m_is_shut, k_is_shut, b_is_shut, F_is_shut⟩ := h_is_shut
  refine F.ok scis_shut (fun vs H Q E h => ?_) (fun cdv A outer s H vs Q E hr h => ?_)
  · obtain ⟨a, N, ts, b, e, rfl, hw, ho, hb, he, q⟩ := h
    first | rfl | (rcases h with ⟨_, _, rfl, _⟩ | ⟨_, rfl, _⟩ <;> rfl)
  obtain ⟨a, N, ts, b, e, rfl, hw, ho, hb, he, q⟩ := h
  refine ⟨_, (pss_cons (ps_expr (pe_call O_need_places hr rfl m_need_places k_need_places b_need_places .nil pass0 (pa_cons (pv 0) (pa_cons (pv 1) (pa_cons (pv 2) pa_nil)))))
  (pss_one (ps_ret (pe_call O_is_shut hr rfl m_is_shut k_is_shut b_is_shut .nil pass0 (pa_cons (pv 0) (pa_cons (pv 1) (pa_cons (pv 2) pa_nil))))))), ?_⟩
  exact ⟨_, rfl, _, rfl, _, rfl, a, N, ts, b, e, rfl, hw, hb, he, _, rfl, _, rfl, _, rfl, a, N, ts, b, e, rfl, hw, ho, hb, he, q⟩
def spis_bubble (_ : PySem.W.Frag) (C : Addr) : Sp := fun vs H Q _ => ∃ (a : Addr) (N : Nat) (ts : List (Nat × Nat)) (b e : Nat), vs = [.ref a, .int ((b : Nat) : Int), .int ((e : Nat) : Int)] ∧ WebAt C a N ts H ∧ OkWeb N ts ∧ b < N ∧ e < N ∧ ∀ H' v, Same H H' → (v = true ↔ BubP N ts b e) → Q (.bl v) H'
theorem okis_bubble (D : Def K mg "is_bubble" sis_bubble ["web", "begin", "end"]) (B : Bs mg) (Glb : Glo mg) (WK : WebK K mg C)
    (h_need_places : Good P w K mg base "_need_places" s_need_places ["web", "begin", "end"] 5 (sp_need_places K C))
    (h_is_bubble : Good P w K mg base "_is_bubble" s_is_bubble ["web", "begin", "end"] 7 (sp_is_bubble K C)) :
    Good P w K mg base "is_bubble" sis_bubble ["web", "begin", "end"] 8 (spis_bubble K C) := by
  refine D.good fun f fd F => ?_
  obtain ⟨f_need_places, d_need_places, O_need_places, m_need_places, k_need_places, b_need_places, F_need_places⟩ := h_need_places
  obtain ⟨f_is_bubble, d_is_bubble, O_is_bubble, m_is_bubble, k_is_bubble, b_is_bubble, F_is_bubble⟩ := h_is_bubble
  refine F.ok scis_bubble (fun vs H Q E h => ?_) (fun cdv A outer s H vs Q E hr h => ?_)
  · obtain ⟨a, N, ts, b, e, rfl, hw, ho, hb, he, q⟩ := h
    first | rfl | (rcases h with ⟨_, _, rfl, _⟩ | ⟨_, rfl, _⟩ <;> rfl)
  obtain ⟨a, N, ts, b, e, rfl, hw, ho, hb, he, q⟩ := h
  refine ⟨_, (pss_cons (ps_expr (pe_call O_need_places (hr.mono (by decide)) rfl m_need_places k_need_places b_need_places .nil pass0 (pa_cons (pv 0) (pa_cons (pv 1) (pa_cons (pv 2) pa_nil)))))
  (pss_one (ps_ret (pe_call O_is_bubble hr rfl m_is_bubble k_is_bubble b_is_bubble .nil pass0 (pa_cons (pv 0) (pa_cons (pv 1) (pa_cons (pv 2) pa_nil))))))), ?_⟩
  exact ⟨_, rfl, _, rfl, _, rfl, a, N, ts, b, e, rfl, hw, hb, he, _, rfl, _, rfl, _, rfl, a, N, ts, b, e, rfl, hw, ho, hb, he, q⟩
end
end My
/-! sorted(d), d a dict whose keys are pairs of naturals -/
namespace My
open PySem PySem.Spec PySem.W L2 L2.DX PyProof.Rows
section
variable {X : Cx}
abbrev encP (q : Nat × Nat) : PyData := .tuple [.int (q.1 : Int), .int (q.2 : Int)]
abbrev keyP (q : Nat × Nat) : List L2.Key := [Sum.inl (q.1 : Int), Sum.inl (q.2 : Int)]
theorem encP_alike (a b : Nat × Nat) : alike (encP a) (encP b) = true := by
  show alike (.tuple [_, _]) (.tuple [_, _]) = true
  simp [alike, alikeAll]
def sortPr (ps : List (Nat × Nat)) : List (Nat × Nat) := ps.mergeSort (dataLe false encP)
def rSortDT : List V → Hp → VK → Prop := fun vs H Q => ∃ (a : Addr) (kvs : List (List L2.Key × V)) (ps : List (Nat × Nat)), vs = [.ref a] ∧ H a = some (.dT kvs) ∧ kvs.map (·.1) = ps.map keyP ∧ ps.length ≤ 1000 ∧
  ∀ (zs : List Addr) (p : Addr), Paired (fun (z : Addr) (q : Nat × Nat) => H z = some (.tup [.int (q.1 : Int), .int (q.2 : Int)])) zs (sortPr ps) → H p = none → Q (.ref p) (upd H p (.lst (zs.map V.ref)))
theorem cr_sortDT (hcalm : X.calm = true) (hu : X.A.units + 64 < cLine) : CallR X (.builtin "sorted") rSortDT := by
  intro pins s σ H xs us Q I r q
  obtain ⟨a, kvs, ps, ex, ha, hks, hlen, q⟩ := q
  subst ex
  obtain ⟨u, eu, rx⟩ := vals1 r
  subst eu
  cases rx
  obtain ⟨z, lo, xs', rel, o, es, ep, ho, hx, hdat, hes, his, hn⟩ := dt_of I.hok ha
  have raw : s.heap.DictRaw a es ep := ⟨o, ho, hx, hdat⟩
  have l1 : kvs.length = xs'.length := Paired.length rel
  have l2 : es.size = xs'.length := size_of_entries hes
  have l3 : kvs.length = ps.length := by
    have := congrArg List.length hks
    rwa [List.length_map, List.length_map] at this
  refine Calls.call_function_entry PyProof.Rows.kind_sorted PyProof.Rows.plain_sorted PyProof.Rows.entry_sorted (PyProof.Rows.args_sorted1 _) ?_
  unfold Builtin.«sorted»
  refine wpAny_bind (m := checkCount "sorted" 1 1 _) (wpAny_pure ?_)
  refine wpAny_bind (PySem.W.kdu_collect (A := X.A.in1) (KdlSrc.rawDict lo) (I.ok.hd hcalm) raw (by rw [sizeLine_eq]; omega) fun h' tk acc hk hacc => ?_)
  have hal : acc.toList.length = ps.length := by rw [Array.length_toList, hacc.1]; omega
  have eR : EachIs (fun (v : Value) (q : Nat × Nat) => ∃ kq : Addr, v = .ref kq ∧ H kq = some (.tup [.int (q.1 : Int), .int (q.2 : Int)])) acc.toList ps := eachIs_of hal fun j v q hv hq => by
    obtain ⟨hi, ev⟩ := hacc.2 j v (by rw [← Array.getElem?_toList]; exact hv)
    have he : es[j]? = some es[j] := Array.getElem?_eq_getElem hi
    rw [entry_at hes j] at he
    cases hxj : xs'[j]? with
    | none =>
      rw [hxj] at he
      exact nomatch (show (none : Option DictEntry) = some _ from he)
    | some x =>
      rw [hxj] at he
      have een : entryOfKey (tupleKind (mixKind X.prog X.w)) x = es[j] := Option.some.inj he
      obtain ⟨e0, he0, r1, r2, r3⟩ := pget rel hxj
      have hk0 : (kvs.map (·.1))[j]? = some e0.1 := by rw [List.getElem?_map, he0]; rfl
      rw [hks, List.getElem?_map, hq] at hk0
      have ek : keyP q = e0.1 := Option.some.inj hk0
      refine ⟨x.2.1, ?_, ?_⟩
      · rw [ev, ← een]
        rfl
      · rw [r2, ← ek]
        rfl
  have I1 : Inv X pins σ H { s with heap := h', toks := tk } := I.kept hk
  refine wpAny_bind (wpAny_newList ?_ (by rw [hal, sizeLine_eq]; omega))
  have hoL : (h'.push (seqObj "list" acc.toList.toArray 0)).get? h'.objs.size = some (seqObj "list" acc.toList.toArray 0) := Heap.get?_push_size _ rfl
  show wpAny _ _ _ _ _ { s with heap := h'.push (seqObj "list" acc.toList.toArray 0), toks := tk }
  have er : EachIs (fun (v : Value) (q : Nat × Nat) => ∃ as, Reads (h'.push (seqObj "list" acc.toList.toArray 0)) v (encP q) as ∧ h'.objs.size ∉ as) acc.toList ps := eR.mono fun v q ⟨kq, ev, hkq⟩ => by
    subst ev
    obtain ⟨_, its, rv, ot, hot, hct, nt, hdt⟩ := (show ObjOk X.prog X.w H h' kq (.tup [.int (q.1 : Int), .int (q.2 : Int)]) from I1.hok kq _ hkq)
    obtain ⟨t1, t2, rfl⟩ : ∃ t1 t2, its = [Value.int (q.1 : Int) t1, Value.int (q.2 : Int) t2] := by
      cases rv with
      | cons r1 r2 =>
        cases r2 with
        | cons r3 r4 =>
          cases r4
          obtain ⟨t1, rfl⟩ := r1
          obtain ⟨t2, rfl⟩ := r3
          exact ⟨t1, t2, rfl⟩
    exact ⟨_, .tuple (Heap.get?_push_of_some _ hot) hct hdt (.cons (.int _ _) (.cons (.int _ _) .nil)), by simp⟩
  refine wpAny_bind (wpAny_holding (list_sort_data (enc := encP) hoL eR er (AllAlike.of encP_alike) (.tuples fun b => ⟨_, _, rfl⟩) (by rw [sizeLine_eq]; omega) (fun b _ => ?_) fun out ho1 ho2 => ?_))
  · show X.A.units + 1 + 1 + (encP b).depth < cLine
    have : (encP b).depth ≤ 1 := by
      show PyData.depth (.tuple [_, _]) ≤ 1
      simp [PyData.depth, PyData.depthAll]
    omega
  obtain ⟨e', he'⟩ := PyProof.Rows.sortedHeap_at (vs := acc.toList) (out := out.toArray) hoL
  obtain ⟨zs, hz, hpz⟩ : ∃ zs : List Addr, Vals (zs.map V.ref) out ∧ Paired (fun (z : Addr) (q : Nat × Nat) => H z = some (.tup [.int (q.1 : Int), .int (q.2 : Int)])) zs (ps.mergeSort (dataLe false encP)) := by
    generalize ps.mergeSort (dataLe false encP) = cs at ho2
    clear ho1 he'
    induction ho2 with
    | nil => exact ⟨[], .nil, .nil⟩
    | cons h _ ih =>
      obtain ⟨kq, rfl, hkq⟩ := h
      obtain ⟨zs, h1, h2⟩ := ih
      exact ⟨kq :: zs, .cons rfl h1, .cons hkq h2⟩
  have hlz : (zs.map V.ref).length ≤ sizeLine := by
    rw [vals_len hz, ho1, sizeLine_eq]
    omega
  refine wpAny_pure ⟨_, rfl, .ref h'.objs.size, upd H h'.objs.size (.lst (zs.map V.ref)), I1.laid (t' := tk) (fun b u e => ?_) (Nat.le_refl _)
    (show ObjOk X.prog X.w _ _ _ (.lst (zs.map V.ref)) from ⟨hlz, out, e', hz, by exact he'⟩), rfl, q zs _ hpz (I1.hok.fresh (Nat.le_refl _))⟩
  have hb : b < h'.objs.size := Heap.lt_size e
  rw [PyProof.Rows.sortedHeap_old (Nat.ne_of_lt hb) (by rw [size_push']; exact Nat.lt_succ_of_lt hb)]
  exact Heap.get?_push_of_some _ e
end
end My
set_option maxHeartbeats 4000000
namespace My
open PySem L2 PyProof.Rows
section
variable {P : Program} {w : World} {K : PySem.W.Frag} {mg : Str → Option Value} {base : Heap} {C : Addr}
def sp_law_shut (_ : PySem.W.Frag) (_ : Addr) : Sp := fun vs H Q _ => ∃ (l : Addr) (N : Nat) (ts : List (Nat × Nat)) (b e : Nat), vs = [.int ((N : Nat) : Int), .ref l, .int ((b : Nat) : Int), .int ((e : Nat) : Int)] ∧ TiesAt H l ts ∧ OkWeb N ts ∧ N ≤ 5 ∧ ts.length ≤ 10 ∧ b < N ∧ e < N ∧
  (¬ ShutP N ts b e → ∀ H', Same H H' → Q .non H') ∧ (∀ L ∈ lotsN b e N, Shut ts L b e → b ≠ e → ∀ H' t lp ip, Same H H' → H' t = some (.tup [.ref lp, .ref ip]) → H lp = none → H' lp = some (.lst (iv L)) → Q (.ref t) H')
theorem ok_law_shut (D : Def K mg "_law_shut" s_law_shut ["_law_places", "_law_ties_here", "_law_begin", "_law_end"]) (B : Bs mg) (Glb : Glo mg) (WK : WebK K mg C)
    (h_law_lots : Good P w K mg base "_law_lots" s_law_lots ["_law_places", "_law_begin", "_law_end"] 1 (sp_law_lots K C))
    (h_law_inner : Good P w K mg base "_law_inner" s_law_inner ["_law_ties_here", "_law_lot", "_law_begin", "_law_end"] 2 (sp_law_inner K C)) :
    Good P w K mg base "_law_shut" s_law_shut ["_law_places", "_law_ties_here", "_law_begin", "_law_end"] 3 (sp_law_shut K C) := by
  refine D.good fun f fd F => ?_
  obtain ⟨f_law_lots, d_law_lots, O_law_lots, m_law_lots, k_law_lots, b_law_lots, F_law_lots⟩ := h_law_lots
  obtain ⟨f_law_inner, d_law_inner, O_law_inner, m_law_inner, k_law_inner, b_law_inner, F_law_inner⟩ := h_law_inner
  refine F.ok sc_law_shut (fun vs H Q E h => ?_) (fun cdv A outer s H vs Q E hr h => ?_)
  · obtain ⟨l, N, ts, b, e, rfl, hT, ho, hN, hm, hbN, heN, qN, qS⟩ := h
    first | rfl | (rcases h with ⟨_, _, rfl, _⟩ | ⟨_, rfl, _⟩ <;> rfl)
  obtain ⟨l, N, ts, b, e, rfl, hT, ho, hN, hm, hbN, heN, qN, qS⟩ := h
  refine ⟨_, (pss_cons (ps_if (pt_cmpR op_eq (pv 2) (pv 3) (nomark _))
    (pss_one (ps_ret pe_non)) pss_nil)
  (pss_cons (ps_for PassesOwn.never rfl (pi_list (pe_call O_law_lots (hr.mono (by decide)) rfl m_law_lots k_law_lots b_law_lots .nil pass0 (pa_cons (pv 0) (pa_cons (pv 2) (pa_cons (pv 3) pa_nil))))) (pg_name (i := 4) sc_law_shut.nd rfl (by first | exact Or.inl rfl | exact Or.inr rfl))
    (pss_cons (ps_set (i := 5) sc_law_shut.nd rfl (by first | exact Or.inl rfl | exact Or.inr rfl) (pe_call O_law_inner hr rfl m_law_inner k_law_inner b_law_inner .nil pass0 (pa_cons (pv 1) (pa_cons (pv 4) (pa_cons (pv 2) (pa_cons (pv 3) pa_nil))))))
  (pss_one (ps_if (pt_cmpR op_notN (pv 5) pe_non (nomark _))
    (pss_one (ps_ret (pe_tup (pa_cons (pv 4) (pa_cons (pv 5) pa_nil))))) pss_nil))))
  (pss_one (ps_ret pe_non)))), ?_⟩
  refine ⟨_, rfl, _, rfl, rfl, _, rfl, ?_⟩
  by_cases hbe : b = e
  · exact iteYes (by rw [hbe]) (qN (fun z => z.1 hbe) _ (fun _ _ z => z))
  refine iteNo (fun z => hbe (by have := int_eq.mp z; omega)) ?_
  refine ⟨_, rfl, _, rfl, _, rfl, N, b, e, rfl, hN, fun H1 ll as S1 nll has hll hL => ?_⟩
  have hal := paired_len hL
  refine ⟨ll, rfl, ⟨_, SqL.of hll⟩, ?_⟩
  refine for_list (K := K) (a := ll) (xs := as.map V.ref) (fun j σ H' => Same H1 H' ∧ (∀ L ∈ (lotsN b e N).take j, ¬ Shut ts L b e) ∧ ∃ v4 v5 : Option V, σ = [some (.int (N : Int)), some (.ref l), some (.int (b : Int)), some (.int (e : Int)), v4, v5]) ⟨(fun _ _ z => z), (fun t ht => nomatch ht), _, _, rfl⟩ (fun i σ H' _ ⟨z, _⟩ => SqL.of (z _ _ hll)) ?_ ?_
  · rintro j v σ H2 hv ⟨S2, hn, v4, v5, rfl⟩
    obtain ⟨p, hp, rfl⟩ : ∃ p, as[j]? = some p ∧ v = .ref p := by
      rw [List.getElem?_map] at hv
      cases z : as[j]? with
      | none => rw [z] at hv; cases hv
      | some p => rw [z] at hv; exact ⟨p, rfl, (Option.some.inj hv).symm⟩
    obtain ⟨L, hLj, hpL⟩ := paired_get hL hp
    have hLm := List.mem_of_getElem? hLj
    have S02 := S1.trans S2
    refine ⟨_, rfl, _, rfl, _, rfl, _, rfl, l, p, N, ts, L, b, e, rfl, hT.same S02, S2 _ _ hpL, ho, hN, hm, hbN, (lots_lt hLm).1, fun hns H3 S3 => ?_, fun hs H3 ip S3 nip hip => ?_⟩
    · refine ⟨_, rfl, rfl, _, rfl, iteNot' rfl ⟨S2.trans S3, fun L' hL' => ?_, _, _, rfl⟩⟩
      rw [take_one' hLj] at hL'
      rcases List.mem_append.mp hL' with z | z
      · exact hn L' z
      · rw [List.mem_singleton.mp z]; exact hns
    · refine ⟨_, rfl, rfl, _, rfl, iteNot (fun z => nomatch z) ⟨_, rfl, _, rfl, (by show 2 ≤ sizeLine; decide), fun tp ntp => ?_⟩⟩
      have S4 := same_new ntp (.tup [V.ref p, V.ref ip])
      exact qS L hLm hs hbe _ tp p ip ((S02.trans S3).trans S4) upd_same (has p (List.mem_of_getElem? hp)) (S4 _ _ (S3 _ _ (S2 _ _ hpL)))
  · rintro σ H2 ⟨S2, hn, v4, v5, rfl⟩
    rw [List.length_map, hal, List.take_length] at hn
    exact qN (fun ⟨_, L, hL, Sh⟩ => hn L hL Sh) _ (S1.trans S2)
end
end My
set_option maxHeartbeats 4000000
namespace My
open PySem L2 PyProof.Rows
noncomputable def endsS (N : Nat) (ts : List (Nat × Nat)) (b n : Nat) : List Nat := (List.range n).filter fun e => bdec (ShutP N ts b e)
/-- the shut tuples whose begin is below n -/
noncomputable def shP (N : Nat) (ts : List (Nat × Nat)) (n : Nat) : List (Nat × Nat) := (List.range n).flatMap fun b => (endsS N ts b N).map fun e => (b, e)
section
variable {N : Nat} {ts : List (Nat × Nat)} {b e n : Nat} {L : List Nat}
theorem endsS_mem : e ∈ endsS N ts b n ↔ e < n ∧ ShutP N ts b e := by
  unfold endsS
  rw [List.mem_filter, List.mem_range, bdec_iff]
theorem shP_mem {q : Nat × Nat} : q ∈ shP N ts n ↔ q.1 < n ∧ q.2 < N ∧ ShutP N ts q.1 q.2 := by
  unfold shP
  rw [List.mem_flatMap]
  constructor
  · rintro ⟨b, hb, h⟩
    obtain ⟨e, he, rfl⟩ := List.mem_map.mp h
    obtain ⟨h1, h2⟩ := endsS_mem.mp he
    exact ⟨List.mem_range.mp hb, h1, h2⟩
  · rintro ⟨h1, h2, h3⟩
    exact ⟨q.1, List.mem_range.mpr h1, List.mem_map.mpr ⟨q.2, endsS_mem.mpr ⟨h2, h3⟩, rfl⟩⟩
theorem shP_succ : shP N ts (n + 1) = shP N ts n ++ (endsS N ts n N).map fun e => (n, e) := by
  unfold shP
  rw [List.range_succ, List.flatMap_append]
  simp
theorem endsS_succ : endsS N ts b (n + 1) = endsS N ts b n ++ if bdec (ShutP N ts b n) = true then [n] else [] := by
  unfold endsS
  rw [range_filter_succ]
theorem flat_le' {α β : Type} {f : α → List β} {m : Nat} : ∀ {L : List α}, (∀ x ∈ L, (f x).length ≤ m) → (L.flatMap f).length ≤ L.length * m
  | [], _ => by simp
  | x :: r, h => by
    rw [List.flatMap_cons, List.length_append, List.length_cons, Nat.add_mul, Nat.one_mul]
    have := flat_le' (f := f) (L := r) fun y hy => h y (List.mem_cons_of_mem _ hy)
    have := h x List.mem_cons_self
    omega
theorem shP_len : (shP N ts n).length ≤ n * N := by
  unfold shP
  have := flat_le' (f := fun b => (endsS N ts b N).map fun e => (b, e)) (L := List.range n) (m := N) fun b _ => by
    rw [List.length_map]
    unfold endsS
    have := List.length_filter_le (fun e => bdec (ShutP N ts b e)) (List.range N)
    rwa [List.length_range] at this
  rwa [List.length_range] at this
abbrev lexP (p q : Nat × Nat) : Prop := p.1 < q.1 ∨ (p.1 = q.1 ∧ p.2 < q.2)
theorem shP_lex : (shP N ts n).Pairwise lexP := by
  induction n with
  | zero => exact .nil
  | succ n ih =>
    rw [shP_succ, List.pairwise_append]
    refine ⟨ih, ?_, fun p hp q hq => ?_⟩
    · rw [List.pairwise_map]
      exact (range_rise N _).imp fun {a c} h => .inr ⟨rfl, h⟩
    · obtain ⟨e, _, rfl⟩ := List.mem_map.mp hq
      exact .inl (shP_mem.mp hp).1
theorem sortPr_lex {ps : List (Nat × Nat)} (h : ps.Pairwise lexP) : sortPr ps = ps := by
  refine List.mergeSort_of_pairwise (h.imp fun {p q} k => ?_)
  have := congrFun (congrFun (PySem.W.dataLe_ii (fun q : Nat × Nat => (q.1 : Int)) (fun q : Nat × Nat => (q.2 : Int))) p) q
  show PySem.W.dataLe false (fun q : Nat × Nat => PyData.tuple [.int (q.1 : Int), .int (q.2 : Int)]) p q = true
  rw [this]
  refine decide_eq_true ?_
  rcases k with k | ⟨k1, k2⟩
  · exact .inl (by omega)
  · exact .inr ⟨by omega, by omega⟩
theorem bub_lot (hbN : b < N) (heN : e < N) (hL : L ∈ lotsN b e N) (Sh : Shut ts L b e) (hbe : b ≠ e) (hf : FarOk N ts) : BubP N ts b e ↔ 2 ≤ (outB ts b).length ∧ ∀ p ∈ L, p ≠ e → ¬ ShutP N ts b p := by
  obtain ⟨M, hM⟩ := spr_list (lo := some e) hbN hf
  have h := shut_spread hbN heN hL Sh hM
  rw [bub_iff hbN heN hM]
  exact ⟨fun ⟨a, _, c⟩ => ⟨a, fun p hp => c p ((h p).mp hp)⟩, fun ⟨a, c⟩ => ⟨a, ⟨hbe, L, hL, Sh⟩, fun p hp => c p ((h p).mpr hp)⟩⟩
theorem bub_shut (h : BubP N ts b e) : ShutP N ts b e := by
  obtain ⟨_, hbe, L, hL, Sh, _⟩ := h
  exact ⟨hbe, L, hL, Sh⟩
theorem due_eq (hf : FarOk N ts) (hn : n ≤ N) : (shP N ts n).filter (fun q => bdec (BubP N ts q.1 q.2)) = bubsF N ts (List.range n) := by
  induction n with
  | zero => rfl
  | succ n ih =>
    rw [shP_succ, List.filter_append, ih (by omega), List.range_succ, bubsF_app, bubsF_one hf (by omega)]
    congr 1
    rw [List.filter_map]
    congr 1
    unfold endsS endsL
    rw [List.filter_filter]
    refine List.filter_congr fun x _ => ?_
    show (bdec (BubP N ts n x) && bdec (ShutP N ts n x)) = bdec (BubP N ts n x)
    by_cases c : BubP N ts n x
    · rw [bdec_iff.mpr c, bdec_iff.mpr (bub_shut c)]; rfl
    · have : bdec (BubP N ts n x) = false := by
        cases h : bdec (BubP N ts n x) with
        | false => rfl
        | true => exact absurd (bdec_iff.mp h) c
      rw [this]; rfl
theorem bubs_at (n : Nat) : (bubsF N ts (List.range n)).filter (fun q => decide (q.1 = b)) = if b < n then bubsF N ts [b] else [] := by
  induction n with
  | zero => rw [if_neg (by omega)]; rfl
  | succ n ih =>
    rw [List.range_succ, bubsF_app, List.filter_append, ih]
    have h1 : (bubsF N ts [n]).filter (fun q => decide (q.1 = b)) = if n = b then bubsF N ts [n] else [] := by
      by_cases c : n = b
      · rw [if_pos c, List.filter_eq_self]
        intro q hq
        have := (bubs_mem hq).1
        rw [List.mem_singleton.mp this, c]
        simp
      · rw [if_neg c, List.filter_eq_nil_iff]
        intro q hq
        have := (bubs_mem hq).1
        rw [List.mem_singleton.mp this]
        simpa using c
    rw [h1]
    by_cases c : b < n
    · rw [if_pos c, if_neg (by omega), if_pos (by omega), List.append_nil]
    · rw [if_neg c]
      by_cases d : n = b
      · rw [if_pos d, if_pos (by omega), d]; rfl
      · rw [if_neg d, if_neg (by omega)]; rfl
theorem bub_mem (hf : FarOk N ts) (hbN : b < N) (heN : e < N) : (b, e) ∈ bubsB N ts ↔ BubP N ts b e := by
  have := due_eq hf (Nat.le_refl N)
  unfold bubsB
  rw [← this, List.mem_filter, bdec_iff, shP_mem]
  exact ⟨fun h => h.2, fun h => ⟨⟨hbN, heN, bub_shut h⟩, h⟩⟩
end
theorem eqv_tzD (p q : Nat × Nat) : PyData.eqv (tzD p) (tzD q) = decide (p = q) := by
  show PyData.eqv (.tuple [_, _]) (.tuple [_, _]) = _
  rw [PyData.eqv, PyData.eqvAll, PyData.eqvAll, PyData.eqvAll, PyData.eqv, PyData.eqv, Bool.and_true, Bool.eq_iff_iff, Bool.and_eq_true, beq_iff_eq, beq_iff_eq, decide_eq_true_eq, Prod.ext_iff]
  exact and_congr ⟨fun h => by omega, fun h => by rw [h]⟩ ⟨fun h => by omega, fun h => by rw [h]⟩
theorem eqvAll_tz : ∀ L : List (Nat × Nat), PyData.eqvAll (L.map tzD) (L.map tzD) = true
  | [] => by simp [PyData.eqvAll]
  | p :: r => by rw [List.map_cons, PyData.eqvAll, eqvAll_tz r, eqv_tzD, decide_eq_true rfl]; rfl
theorem eqv_tz_same (L : List (Nat × Nat)) : PyData.eqv (tz L) (tz L) = true := by
  show PyData.eqv (.list _) (.list _) = true
  rw [PyData.eqv, eqvAll_tz]
theorem any_tz (L : List (Nat × Nat)) (q : Nat × Nat) : ((L.map tzD).any fun z => PyData.eqv z (tzD q)) = decide (q ∈ L) := by
  rw [List.any_map, Bool.eq_iff_iff, List.any_eq_true, decide_eq_true_eq]
  constructor
  · rintro ⟨p, hp, h⟩
    have h : PyData.eqv (tzD p) (tzD q) = true := h
    rw [eqv_tzD, decide_eq_true_eq] at h
    exact h ▸ hp
  · intro h
    exact ⟨q, h, by show PyData.eqv (tzD q) (tzD q) = true; rw [eqv_tzD]; exact decide_eq_true rfl⟩
theorem shaped_tzD (q : Nat × Nat) : SeqAt.shaped (tzD q) = true := by
  unfold SeqAt.shaped
  have h1 : PyData.canLay0 (tzD q) = true := rfl
  have h2 : PyData.depth (tzD q) = 1 := rfl
  rw [h1, h2]
  rfl
/-- a dict by pairs, its values lots -/
def DpA (O : Hp) (H : Hp) (D : Addr) (N : Nat) (ts : List (Nat × Nat)) (ps : List (Nat × Nat)) : Prop := ∃ kvs : List (List Key × V), H D = some (.dT kvs) ∧ kvs.map (·.1) = ps.map keyP ∧ ∀ q ∈ ps, ∃ (lp : Addr) (L : List Nat), valV kvs (keyP q) = some (.ref lp) ∧ H lp = some (.lst (iv L)) ∧ L ∈ lotsN q.1 q.2 N ∧ Shut ts L q.1 q.2 ∧ q.1 ≠ q.2 ∧ O lp = none
theorem keyP_inj {p q : Nat × Nat} (h : keyP p = keyP q) : p = q := by
  have h : [(Sum.inl (p.1 : Int) : Key), Sum.inl (p.2 : Int)] = [Sum.inl (q.1 : Int), Sum.inl (q.2 : Int)] := h
  injection h with h1 h
  injection h with h2 _
  injection h1 with h1
  injection h2 with h2
  exact Prod.ext (Int.ofNat.inj h1) (Int.ofNat.inj h2)
theorem DpA_some {ps : List (Nat × Nat)} {kvs : List (List Key × V)} (hk : kvs.map (·.1) = ps.map keyP) (q : Nat × Nat) : (valV kvs (keyP q)).isSome = decide (q ∈ ps) := by
  rw [← valV_any, Bool.eq_iff_iff, List.any_eq_true, decide_eq_true_eq]
  constructor
  · rintro ⟨kv, h1, h2⟩
    have h2 : kv.1 = keyP q := of_decide_eq_true h2
    have h3 : kv.1 ∈ kvs.map (·.1) := List.mem_map.mpr ⟨kv, h1, rfl⟩
    rw [hk, h2] at h3
    obtain ⟨p, hp, e⟩ := List.mem_map.mp h3
    exact keyP_inj e ▸ hp
  · intro h
    have h3 : keyP q ∈ kvs.map (·.1) := by rw [hk]; exact List.mem_map.mpr ⟨q, h, rfl⟩
    obtain ⟨kv, h1, h2⟩ := List.mem_map.mp h3
    exact ⟨kv, h1, decide_eq_true h2⟩
end My
set_option maxHeartbeats 4000000
namespace My
open PySem L2 PyProof.Rows
def endC (ts : List (Nat × Nat)) (b : Nat) (w : List Nat) : Nat := if w = [] then b else farT ts (lastT w)
theorem endC_cons {ts : List (Nat × Nat)} {b t : Nat} {w : List Nat} : endC ts b (t :: w) = endC ts (farT ts t) w := by
  unfold endC
  rw [if_neg (by simp)]
  by_cases c : w = []
  · subst c; rw [if_pos rfl]; rfl
  · rw [if_neg c, lastT_cons c]
theorem Chain.snoc {ts : List (Nat × Nat)} : ∀ {w : List Nat} {b t : Nat}, Chain ts b w → t ∈ outB ts (endC ts b w) → Chain ts b (w ++ [t])
  | [], b, t, _, ht => ⟨ht, trivial⟩
  | u :: r, b, t, h, ht => ⟨h.1, Chain.snoc h.2 (by rw [endC_cons] at ht; exact ht)⟩
theorem endC_snoc {ts : List (Nat × Nat)} {b t : Nat} {w : List Nat} : endC ts b (w ++ [t]) = farT ts t := by
  unfold endC
  rw [if_neg (by simp), lastT_snoc]
theorem TiesAt.apart {H : Hp} {l pl : Addr} {ts : List (Nat × Nat)} {xs : List V} {o : HO} (h : TiesAt H l ts) (hp : H pl = some (.lst xs)) (hn : l ≠ pl) : TiesAt (upd H pl o) l ts := by
  obtain ⟨tas, h1, h2⟩ := h
  refine ⟨tas, by rw [upd_ne hn]; exact h1, paired_mono (fun p e z => ?_) h2⟩
  show upd H pl o p = _
  rw [upd_ne (fun y => by
    have z : H p = some (.tup [.int (e.1 : Int), .int (e.2 : Int)]) := z
    rw [y, hp] at z
    cases z)]
  exact z
/-- the heap without the pot -/
def Off (a : Addr) (H : Hp) : Hp := fun b => if b = a then none else H b
theorem off_same (a : Addr) (H : Hp) : Same (Off a H) H := fun b o e => by
  unfold Off at e
  by_cases c : b = a
  · rw [if_pos c] at e; cases e
  · rwa [if_neg c] at e
theorem off_ne {a b : Addr} {H : Hp} {o : HO} (h : H b = some o) (n : b ≠ a) : Off a H b = some o := by
  unfold Off
  rw [if_neg n]
  exact h
theorem off_is {a b : Addr} {H : Hp} {o : HO} (h : Off a H b = some o) : b ≠ a := fun z => by
  unfold Off at h
  rw [if_pos z] at h
  cases h
theorem off_kept {a : Addr} {O H H' : Hp} (h : Same (Off a O) H) (k : Kept a H H') : Same (Off a O) H' := fun b o e => k _ _ (h _ _ e) (off_is e)
theorem off_off {a : Addr} {O H : Hp} (h : Same (Off a O) H) : Same (Off a O) (Off a H) := fun b o e => off_ne (h _ _ e) (off_is e)
theorem sub_off {H H' : Hp} {x c : Addr} {xs : List V} (h : H c = some (.lst xs)) (n : c ≠ x) (k : H' c = some (.lst xs)) : Same (Sub H H' x) (Off c H') := fun b o e => off_ne (Sub.same _ _ e) fun z => by
  rw [z, Sub.none h n k] at e
  cases e
section
variable {P : Program} {w : World} {K : PySem.W.Frag} {mg : Str → Option Value} {base : Heap} {C : Addr}
def spback_web (_ : PySem.W.Frag) (C : Addr) : Sp := fun vs H Q _ => ∃ a N ts, vs = [.ref a] ∧ WebAt C a N ts H ∧ OkWeb N ts ∧ ∀ H' b, H b = none → Same H H' → WebAt C b N (swaps ts) H' → (∀ c xs, H c = some (.lst xs) → WebAt C b N (swaps ts) (Off c H')) → Q (.ref b) H'
theorem okback_web (D : Def K mg "back_web" sback_web ["web"]) (B : Bs mg) (Glb : Glo mg) (WK : WebK K mg C)
    (hneed_web : Good P w K mg base "need_web" sneed_web ["web"] 3 (spneed_web K C))
    (hWeb___init__ : GoodI P w K mg base C "__init__" "Web.__init__" sWeb___init__ ["self", "places", "ties"] 5 (spWeb___init__ K C))
    (hWeb_places : GoodP P w K mg base C "places" "Web.places" sWeb_places ["self"] 1 (spWeb_places K C))
    (hWeb_ties : GoodM P w K mg base C "ties" "Web.ties" sWeb_ties ["self"] 1 (spWeb_ties K C)) :
    Good P w K mg base "back_web" sback_web ["web"] 7 (spback_web K C) := by
  refine D.good fun f fd F => ?_
  obtain ⟨fneed_web, dneed_web, Oneed_web, mneed_web, kneed_web, bneed_web, Fneed_web⟩ := hneed_web
  obtain ⟨fWeb___init__, dWeb___init__, OWeb___init__, MK, bWeb___init__⟩ := hWeb___init__
  obtain ⟨qWeb_places, fWeb_places, dWeb_places, OWeb_places, pWeb_places, bWeb_places⟩ := hWeb_places
  obtain ⟨fWeb_ties, dWeb_ties, OWeb_ties, tWeb_ties, bWeb_ties, FWeb_ties⟩ := hWeb_ties
  refine F.ok scback_web (fun vs H Q E h => ?_) (fun cdv A outer s H vs Q E hr h => ?_)
  · obtain ⟨a, N, ts, rfl, hw, ho, q⟩ := h
    first | rfl | (rcases h with ⟨_, _, rfl, _⟩ | ⟨_, rfl, _⟩ <;> rfl)
  obtain ⟨a, N, ts, rfl, hw, ho, q⟩ := h
  refine ⟨_, (pss_cons (ps_expr (pe_call Oneed_web (hr.mono (by decide)) rfl mneed_web kneed_web bneed_web .nil pass0 (pa_cons (pv 0) pa_nil)))
  (pss_one (ps_ret (pe_make MK OWeb___init__ (hr.mono (by decide)) rfl WK.mgC bWeb___init__ .nil pass0 (pa_cons (pe_prop (pv 0) WK.cl pWeb_places OWeb_places (hr.mono (by decide)) bWeb_places .nil pass0 (by rfl)) (pa_cons (pe_lc (own := [("near", 1), ("far", 2)]) (g := gTup K 2 (gCons (gName 1) (gCons (gName 2) gNil))) (by rfl) scback_web.nd (pi_list (pe_meth0 (pv 0) WK.cl tWeb_ties OWeb_ties (hr.mono (by decide)) bWeb_ties .nil pass0)) (blkOk_by (own := [("near", 1), ("far", 2)]) (N := ["web", "near", "far"]) (sc := defScope sback_web) (by decide +kernel)) (fun _ _ _ _ _ => (pg_tup rfl (pgs_cons (pg_name (i := 1) scback_web.nd rfl (by first | exact Or.inl rfl | exact Or.inr rfl)) (pgs_cons (pg_name (i := 2) scback_web.nd rfl (by first | exact Or.inl rfl | exact Or.inr rfl)) pgs_nil)))) (fun _ _ _ _ _ => pts_nil) (fun _ _ _ _ _ => (pe_tup (pa_cons (pv 2) (pa_cons (pv 1) pa_nil))))) pa_nil)))))), ?_⟩
  obtain ⟨dx, tl, fl, ol, h1, h23⟩ := id hw
  have hm := ho.m
  refine ⟨_, rfl, a, N, ts, rfl, hw, ?_⟩
  refine ⟨_, rfl, a, dx, _, rfl, h1, a, N, ts, rfl, hw, ?_⟩
  refine ⟨_, rfl, a, dx, _, rfl, h1, wf_ti _ _ _ _, a, N, ts, rfl, hw, fun H1 l nl hS1 hT1 => ?_⟩
  obtain ⟨tas, hl, hP⟩ := id hT1
  refine ⟨l, rfl, ⟨_, SqL.of hl⟩, fun D nD => ?_⟩
  refine lc_list (K := K) (a := l) (xs := tas.map V.ref) (fun i H' => Same H1 H' ∧ TiesAt H' D (swaps (ts.take i))) ⟨same_new nD _, TiesAt.nil⟩ (fun i H' _ ⟨hS', _⟩ => SqL.of (hS' _ _ hl)) ?_ ?_
  · rintro i x H3 hx ⟨hS3, hD3⟩
    obtain ⟨p, hp, rfl⟩ := ref_of hx
    obtain ⟨⟨u, v⟩, he, hpe⟩ := paired_get hP hp
    have hlt := (List.getElem?_eq_some_iff.mp he).1
    have hp3 : H3 p = some (.tup [.int (u : Int), .int (v : Int)]) := hS3 _ _ hpe
    refine ⟨p, _, rfl, SqT.of hp3, rfl, _, _, rfl, _, _, rfl, rfl, rfl, ?_⟩
    refine ⟨_, rfl, _, rfl, (by show 2 ≤ sizeLine; decide), fun tp ntp => ?_⟩
    obtain ⟨xs, g1, g2, g3⟩ := hD3.push (u := v) (v := u) ntp
    refine ⟨xs, g1, by rw [g2, swaps_len, List.length_take]; exact line200 (by omega), same_upd (fun b o e => same_new ntp _ _ _ (hS3 _ _ e)) nD, ?_⟩
    rw [take_snocE he, show swaps (ts.take i ++ [(u, v)]) = swaps (ts.take i) ++ [(v, u)] by unfold swaps; rw [List.map_append]; rfl]
    exact g3
  · rintro H3 ⟨hS3, hD3⟩
    rw [List.length_map, paired_len hP, List.take_length] at hD3
    have hS03 : Same H H3 := fun b o e => hS3 _ _ (hS1 _ _ e)
    intro x dx' nx ndx ndxx
    have hS4 : Same H3 (upd (upd H3 dx' (.own x)) x (.ins C dx' [])) := fun b o e => by
      rw [upd_ne (ne_of_none e nx), upd_ne (ne_of_none e ndx)]
      exact e
    refine ⟨x, dx', N, D, swaps ts, rfl, swaps_ok ho, (hD3.same hS4).s, upd_same, fun H5 hk5 hw5 => ⟨rfl, ?_⟩⟩
    have hS5 : Same H3 H5 := fun b o e => hk5 _ _ (hS4 _ _ e) (ne_of_none e nx)
    exact q H5 x (hS03.free nx) (hS03.trans hS5) (hw5.same Sub.same) fun c xs hc => hw5.same (sub_off (hS4 _ _ (hS03 _ _ hc)) (ne_of_none (hS03 _ _ hc) nx) (hS5 _ _ (hS03 _ _ hc)))
def sp_law_pick (_ : PySem.W.Frag) (_ : Addr) : Sp := fun vs H Q _ => ∃ a l, ∃ xs : List V, vs = [.ref a, .ref l] ∧ H l = some (.lst xs) ∧ l ≠ a ∧ 0 < xs.length ∧ xs.length ≤ 1000 ∧ PotAt H a ∧ ∀ v H', v ∈ xs → Kept a H H' → PotAt H' a → Q v H'
theorem ok_law_pick (D : Def K mg "_law_pick" s_law_pick ["_law_pot_here", "_law_some"]) (B : Bs mg) (Glb : Glo mg) (WK : WebK K mg C)
    (h_law_draw : Good P w K mg base "_law_draw" s_law_draw ["_law_pot_here", "_law_sides"] 1 (sp_law_draw K C)) :
    Good P w K mg base "_law_pick" s_law_pick ["_law_pot_here", "_law_some"] 2 (sp_law_pick K C) := by
  refine D.good fun f fd F => ?_
  obtain ⟨f_law_draw, d_law_draw, O_law_draw, m_law_draw, k_law_draw, b_law_draw, F_law_draw⟩ := h_law_draw
  refine F.ok sc_law_pick (fun vs H Q E h => ?_) (fun cdv A outer s H vs Q E hr h => ?_)
  · obtain ⟨a, l, xs, rfl, hl, hla, h0, hlen, hp, q⟩ := h
    first | rfl | (rcases h with ⟨_, _, rfl, _⟩ | ⟨_, rfl, _⟩ <;> rfl)
  obtain ⟨a, l, xs, rfl, hl, hla, h0, hlen, hp, q⟩ := h
  refine ⟨_, (pss_one (ps_ret (pe_ix ix_list (pv 1) (pe_call O_law_draw hr rfl m_law_draw k_law_draw b_law_draw .nil pass0 (pa_cons (pv 0) (pa_cons (pe_callB call_len_seq (by rfl) B.len (by decide +kernel) (pa_cons (pv 1) pa_nil)) pa_nil))) (fun _ _ => rfl)))), ?_⟩
  refine ⟨_, rfl, _, rfl, _, rfl, l, _, rfl, .inl (SqL.of hl), a, xs.length, rfl, hp, h0, hlen, fun d H' hd hk hp' => ?_⟩
  exact ⟨_, _, _, _, rfl, rfl, SqL.of (hk l _ hl hla), atI_nat (List.getElem?_eq_getElem hd), q _ H' (List.getElem_mem hd) hk hp'⟩
def sp_law_walk (_ : PySem.W.Frag) (_ : Addr) : Sp := fun vs H Q _ => ∃ (a l : Addr) (N : Nat) (ts : List (Nat × Nat)) (b : Nat), vs = [.ref a, .ref l, .int ((b : Nat) : Int)] ∧ PotAt H a ∧ TiesAt H l ts ∧ l ≠ a ∧ OkWeb N ts ∧ ts.length ≤ 10 ∧ b < N ∧
  ∀ H' f wk, Kept a H H' → PotAt H' a → H f = none → H' f = some (.lst (iv wk)) → Chain ts b wk → wk.length ≤ 12 → Q (.ref f) H'
theorem ok_law_walk (D : Def K mg "_law_walk" s_law_walk ["_law_pot_here", "_law_ties_here", "_law_begin"]) (B : Bs mg) (Glb : Glo mg) (WK : WebK K mg C)
    (h_law_draw : Good P w K mg base "_law_draw" s_law_draw ["_law_pot_here", "_law_sides"] 1 (sp_law_draw K C))
    (h_law_pick : Good P w K mg base "_law_pick" s_law_pick ["_law_pot_here", "_law_some"] 2 (sp_law_pick K C)) :
    Good P w K mg base "_law_walk" s_law_walk ["_law_pot_here", "_law_ties_here", "_law_begin"] 3 (sp_law_walk K C) := by
  refine D.good fun f fd F => ?_
  obtain ⟨f_law_draw, d_law_draw, O_law_draw, m_law_draw, k_law_draw, b_law_draw, F_law_draw⟩ := h_law_draw
  obtain ⟨f_law_pick, d_law_pick, O_law_pick, m_law_pick, k_law_pick, b_law_pick, F_law_pick⟩ := h_law_pick
  refine F.ok sc_law_walk (fun vs H Q E h => ?_) (fun cdv A outer s H vs Q E hr h => ?_)
  · obtain ⟨a, l, N, ts, b, rfl, hp, hT, hla, ho, hm, hb, q⟩ := h
    first | rfl | (rcases h with ⟨_, _, rfl, _⟩ | ⟨_, rfl, _⟩ <;> rfl)
  obtain ⟨a, l, N, ts, b, rfl, hp, hT, hla, ho, hm, hb, q⟩ := h
  refine ⟨_, (pss_cons (ps_asg (pe_tup (pa_cons (pe_lst pa_nil) (pa_cons (pv 2) pa_nil))) (pg_tup rfl (pgs_cons (pg_name (i := 3) sc_law_walk.nd rfl (by first | exact Or.inl rfl | exact Or.inr rfl)) (pgs_cons (pg_name (i := 4) sc_law_walk.nd rfl (by first | exact Or.inl rfl | exact Or.inr rfl)) pgs_nil))))
  (pss_cons (ps_for PassesOwn.never rfl (pi_range1 (by rfl) B.range (pa_cons (pe_op op_add pe_int (pe_call O_law_draw (hr.mono (by decide)) rfl m_law_draw k_law_draw b_law_draw .nil pass0 (pa_cons (pv 0) (pa_cons pe_int pa_nil)))) pa_nil)) (pg_name (i := 5) sc_law_walk.nd rfl (by first | exact Or.inl rfl | exact Or.inr rfl))
    (pss_cons (ps_setLc (i := 6) (own := [("_law_tie", 7)]) (g := gName 7) (by rfl) sc_law_walk.nd rfl rfl (sw_true rfl rfl rfl (by decide +kernel)) (pi_range1 (by rfl) B.range (pa_cons (pe_callB call_len_seq (by rfl) B.len (by decide +kernel) (pa_cons (pv 1) pa_nil)) pa_nil)) (blkOk_by (own := [("_law_tie", 7)]) (N := ["_law_pot_here", "_law_ties_here", "_law_begin", "_law_found", "_law_here", "_law_turn", "_law_some", "_law_tie"]) (sc := defScope s_law_walk) (by decide +kernel)) (fun _ _ _ _ _ => (pg_name (i := 7) sc_law_walk.nd rfl (by first | exact Or.inl rfl | exact Or.inr rfl))) (fun _ _ _ _ _ => (pts_one (pt_cmpR op_eq (pe_ix (ix_tupK (K := K) rfl) (pe_ix (ix_listK (K := K) rfl) (pv 1) (pv 7) (by exact fun _ _ => rfl)) pe_int (by exact fun _ _ => rfl)) (pv 4) (nomark _)))) (fun _ _ _ _ _ => (pv 7)))
  (pss_cons (ps_if (pt_cmpR (op_eqD hr.units) (pv 6) (pe_lst pa_nil) (nomark _))
    (pss_one (ps_ret (pv 3))) pss_nil)
  (pss_cons (ps_expr (pe_bm PySem.F.plainAttrs_list PySem.F.slot_list_append PySem.F.type_list_append mt_append (pv 3) (pa_cons (pe_call O_law_pick hr rfl m_law_pick k_law_pick b_law_pick .nil pass0 (pa_cons (pv 0) (pa_cons (pv 6) pa_nil))) pa_nil)))
  (pss_one (ps_set (i := 4) sc_law_walk.nd rfl (by first | exact Or.inl rfl | exact Or.inr rfl) (pe_ix ix_tup (pe_ix ix_list (pv 1) (pe_ix ix_list (pv 3) (pe_un un_neg pe_int) (fun _ _ => rfl)) (fun _ _ => rfl)) pe_int (fun _ _ => rfl))))))))
  (pss_one (ps_ret (pv 3))))), ?_⟩
  refine ⟨Nat.zero_le _, fun f nf => ⟨_, rfl, (by show 2 ≤ sizeLine; decide), fun tp ntp => ?_⟩⟩
  have hfa : f ≠ a := hp.ne nf
  have S1 := (same_new nf (.lst [])).trans (same_new ntp (.tup [V.ref f, V.int (b : Int)]))
  have ef : upd (upd H f (.lst [])) tp (.tup [V.ref f, V.int (b : Int)]) f = some (.lst (iv [])) := same_new ntp _ _ _ upd_same
  have etp : upd (upd H f (.lst [])) tp (.tup [V.ref f, V.int (b : Int)]) tp = some (.tup [V.ref f, V.int (b : Int)]) := upd_same
  have hp1 := hp.same S1
  have hT1 := hT.same S1
  generalize upd (upd H f (.lst [])) tp (.tup [V.ref f, V.int (b : Int)]) = H1 at S1 ef etp hp1 hT1 ⊢
  refine ⟨tp, _, rfl, SqT.of etp, rfl, _, _, rfl, _, _, rfl, rfl, ?_⟩
  refine ⟨_, rfl, a, 12, rfl, hp1, by omega, by omega, fun d1 H2 hd1 hk2 hp2 => ⟨_, _, rfl, rfl, _, rfl, by omega, by omega, ?_⟩⟩
  have hlf : l ≠ f := fun z => by
    obtain ⟨tas, g, _⟩ := hT
    rw [z, nf] at g
    cases g
  have hT2 := hT1.kept hk2 hp1 hla
  refine for_range (lo := 0) (n := ((1 : Int) + (d1 : Int)).toNat) (fun i σ H' => Kept a H H' ∧ PotAt H' a ∧ TiesAt H' l ts ∧ (∃ wk : List Nat, H' f = some (.lst (iv wk)) ∧ wk.length ≤ i ∧ Chain ts b wk ∧ endC ts b wk < N ∧ ∃ v5 v6 : Option V, σ = [some (.ref a), some (.ref l), some (.int (b : Int)), some (.ref f), some (.int ((endC ts b wk : Nat) : Int)), v5, v6, none])) ⟨(Same.kept S1).trans hk2, hp2, hT2, [], hk2 _ _ ef hfa, Nat.le_refl _, trivial, hb, _, _, rfl⟩ ?_ ?_
  · rintro i σ H3 hi ⟨hk3, hp3, hT3, wk, hf3, hwl, hch, hend, v5, v6, rfl⟩
    obtain ⟨xs3, g1, g2⟩ := hT3.get
    refine ⟨_, rfl, _, _, rfl, .inl (SqL.of g1), ?_⟩
    refine ⟨_, rfl, by omega, by omega, fun D nD => ?_⟩
    rw [g2, Int.toNat_natCast]
    have hDa : D ≠ a := hp3.ne nD
    have hDf : f ≠ D := ne_of_none hf3 nD
    have hDn : H D = none := by
      cases z : H D with
      | none => rfl
      | some o => rw [hk3 _ _ z hDa] at nD; cases nD
    refine lc_range (lo := 0) (n := ts.length) (fun j H' => Same H3 H' ∧ H' D = some (.lst (iv ((List.range j).filter fun t => decide (nearT ts t = endC ts b wk))))) ⟨same_new nD _, upd_same⟩ ?_ ?_
    · rintro j H4 hj ⟨S4, hD4⟩
      rw [Int.zero_add]
      obtain ⟨ys, q3, e1, e2, e3⟩ := tie_at (hT3.same S4) hj
      have hfl := List.length_filter_le (fun t => decide (nearT ts t = endC ts b wk)) (List.range j)
      rw [List.length_range] at hfl
      refine ⟨rfl, _, rfl, _, rfl, _, _, _, .ref q3, rfl, rfl, SqL.of e1, e2, _, _, _, .int ((nearT ts j : Nat) : Int), rfl, rfl, SqT.of e3, atI_nat (j := 0) rfl, _, rfl, rfl, _, rfl, ?_⟩
      rw [range_filter_succ]
      by_cases c : nearT ts j = endC ts b wk
      · refine iteYes (by rw [c]) ⟨_, rfl, _, hD4, by rw [List.length_map]; exact line200 (by omega), same_upd S4 nD, ?_⟩
        rw [upd_same, if_pos (decide_eq_true c), iv_app]
      · refine iteNo (fun z => c (by have := int_eq.mp z; exact Int.ofNat.inj this)) ⟨S4, ?_⟩
        rw [if_neg (by rw [decide_eq_false c]; exact Bool.false_ne_true), List.append_nil]
        exact hD4
    rintro H4 ⟨S4, hD4⟩
    replace hD4 : H4 D = some (.lst (iv (outB ts (endC ts b wk)))) := hD4
    have hol := outB_len ts (endC ts b wk)
    refine ⟨_, rfl, Nat.zero_le _, fun e0 ne0 => ?_⟩
    have S5 := S4.trans (same_new ne0 (.lst []))
    have ee0 : upd H4 e0 (.lst []) e0 = some (.lst (iv [])) := upd_same
    have hD5 := same_new ne0 (.lst []) _ _ hD4
    generalize upd H4 e0 (.lst []) = H5 at S5 ee0 hD5 ⊢
    have hk5 : Kept a H H5 := hk3.trans (Same.kept S5)
    have hp5 := hp3.same S5
    refine ⟨_, _, dp_iv hD5, dp_iv ee0, shaped_iz _, shaped_iz _, ?_⟩
    rw [eqD_empty]
    refine ⟨_, rfl, ?_⟩
    by_cases ho1 : outB ts (endC ts b wk) = []
    · exact iteYes ho1 ⟨_, rfl, q H5 f wk hk5 hp5 nf (S5 _ _ hf3) hch (by omega)⟩
    refine iteNo ho1 ?_
    refine ⟨_, rfl, .inl ⟨rfl, _, SqL.of (S5 _ _ hf3)⟩, _, rfl, _, rfl, a, D, _, rfl, hD5, hDa, by rw [List.length_map]; exact List.length_pos_iff.mpr ho1, by rw [List.length_map]; omega, hp5, fun v H6 hv hk6 hp6 => ?_⟩
    obtain ⟨t, ht, rfl⟩ := List.mem_map.mp hv
    have hf6 := hk6 _ _ (S5 _ _ hf3) hfa
    refine ⟨f, _, _, rfl, rfl, hf6, by rw [List.length_map]; exact line200 (by omega), ?_⟩
    rw [← iv_app]
    obtain ⟨htl, htn⟩ := outB_mem.mp ht
    have hT6 := ((hT3.same S5).kept hk6 hp5 hla).apart hf6 hlf (o := .lst (iv (wk ++ [t])))
    have hp7 : PotAt (upd H6 f (.lst (iv (wk ++ [t])))) a := hp6.put hfa
    have hk7 : Kept a H (upd H6 f (.lst (iv (wk ++ [t])))) := (hk5.trans hk6).put nf
    have hf7 : upd H6 f (.lst (iv (wk ++ [t]))) f = some (.lst (iv (wk ++ [t]))) := upd_same
    generalize upd H6 f (.lst (iv (wk ++ [t]))) = H7 at hT6 hp7 hk7 hf7 ⊢
    obtain ⟨ys, q3, e1, e2, e3⟩ := tie_at hT6 htl
    have hl0 : 0 < (wk ++ [t]).length := by rw [List.length_append]; show 0 < wk.length + 1; omega
    have hlast : (wk ++ [t]).getLastD 0 = t := lastT_snoc wk t
    refine ⟨_, rfl, _, rfl, _, rfl, _, _, _, .int ((t : Nat) : Int), rfl, rfl, SqL.of hf7, by rw [← hlast]; rw [hlast]; have := iv_back hl0; rw [hlast] at this; exact this, _, _, _, .ref q3, rfl, rfl, SqL.of e1, e2, _, _, _, .int ((farT ts t : Nat) : Int), rfl, rfl, SqT.of e3, atI_nat (j := 1) rfl, ?_⟩
    refine ⟨hk7, hp7, hT6, wk ++ [t], hf7, by rw [List.length_append]; show wk.length + 1 ≤ _; omega, hch.snoc ht, by rw [endC_snoc]; exact (far_lt ho htl).2, _, _, by rw [endC_snoc]; rfl⟩
  · rintro σ H3 ⟨hk3, hp3, hT3, wk, hf3, hwl, hch, hend, v5, v6, rfl⟩
    exact ⟨_, rfl, q H3 f wk hk3 hp3 nf hf3 hch (by omega)⟩
end
end My
/-! set(s), s a list or a tuple of whole numbers -/
namespace My
open PySem PySem.Spec PyProof.Rows L2
section
variable {X : Cx}
def rSetSq (K : PySem.W.Frag) (w : World) : List V → Hp → VK → Prop := fun vs H Q => ∃ (l : Addr) (xs : List Int), vs = [V.ref l] ∧ (SqL K H l (xs.map V.int) ∨ SqT K H l (xs.map V.int)) ∧ xs.length ≤ 4000 ∧
  ∀ (p : Addr) (n : Nat), (∀ D : List Int, D.Nodup → (∀ k, k ∈ D ↔ k ∈ xs) → D.length = n) → n ≤ xs.length → H p = none → Q (.ref p) (upd H p (InO w p (inI xs) n))
theorem cr_setSq (calm : X.calm = true) : CallR X (.type "set") (rSetSq X.K X.w) := by
  intro pins s σ H vs us Q I r h
  obtain ⟨l, xs, e, hq, small, q⟩ := h
  rcases hq with hq | hq
  · subst e
    rw [Vals.ref1 r]
    obtain ⟨its, rv, pl, hz⟩ := I.list hq
    exact set_of_ints (I.ok.hd calm) pl.isList (by simpa using ints_of_vals rv) (by unfold scanBound; omega) fun h' tk m hle R keep =>
      ⟨.ref _, upd H s.heap.objs.size (InO X.w s.heap.objs.size (inI xs) m), I.laid (t' := tk) (fun b u e => keep b u (Heap.lt_size e) e) (Nat.le_refl _) (inO_new R), rfl, q _ m (ints_many R) hle (I.hok.fresh (Nat.le_refl _))⟩
  subst e
  rw [Vals.ref1 r]
  obtain ⟨its, rv, pl, hz⟩ := I.tuple hq
  refine call_set_tupI xs (I.ok.hd calm) pl (by simpa using ints_of_vals rv) (by unfold scanBound; omega) fun h' tk m R hle keep => ?_
  exact ⟨.ref _, upd H s.heap.objs.size (InO X.w s.heap.objs.size (inI xs) m), I.laid (t' := tk) (fun b u e => keep b u e) (Nat.le_refl _) (inO_new R), rfl, q _ m (ints_many R) hle (I.hok.fresh (Nat.le_refl _))⟩
theorem call_isiK {K : PySem.W.Frag} (h : X.K = K) : CallR X (.builtin "isinstance") (rIsi K) := h ▸ call_isi
end
end My
/-! sorted(set(s)) within a comprehension -/
namespace My
open PySem PySem.Spec PyProof.Rows L2
section
variable {X : Cx}
theorem cr_setInK {K : PySem.W.Frag} {w : World} (h : X.K = K) (hw : X.w = w) (calm : X.calm = true) : CallR X (.type "set") (rSetIn K w) := h ▸ hw ▸ cr_setIn calm
theorem cr_setSqK {K : PySem.W.Frag} {w : World} (h : X.K = K) (hw : X.w = w) (calm : X.calm = true) : CallR X (.type "set") (rSetSq K w) := h ▸ hw ▸ cr_setSq calm
theorem cr_sortInK {w : World} (hw : X.w = w) (calm : X.calm = true) : CallR X (.builtin "sorted") (rSortIn w) := hw ▸ cr_sortIn calm
theorem cr_allK {K : PySem.W.Frag} (h : X.K = K) (calm : X.calm = true) : CallR X (.builtin "all") (rAll K) := h ▸ cr_all calm
theorem cr_anyK {K : PySem.W.Frag} (h : X.K = K) (calm : X.calm = true) : CallR X (.builtin "any") (rAny K) := h ▸ cr_any calm
end
end My
/-! {k: v}, k a tuple of whole numbers and texts -/
namespace My
open PySem PySem.Spec PyProof.Rows L2
def tDispT (trs : List (TE × TE)) : TE := fun σ H Q => ∀ p, H p = none → tPairs trs σ (upd H p (.dT [])) fun ps H2 => H2 p = some (.dT []) ∧ ∃ (b : Addr) (k : List Key) (y : V), ps = [(.ref b, y)] ∧ H2 b = some (.tup (k.map kV)) ∧ Q (.ref p) (upd H2 p (.dT [(k, y)]))
theorem pe_dispT {X : Cx} {pos : Pos} {k v : Expr} {trs : List (TE × TE)} (hu : X.A.units + 1 < cLine) (h : PPs X pos [some k] [v] trs) : PE X (.Dict [some k] [v] pos) (tDispT trs) := by
  refine ⟨fun pins s σ H Q I q => ?_⟩
  have hn := I.hok.fresh (Nat.le_refl s.heap.objs.size)
  have I1 := I.laid (a := s.heap.objs.size) (o := .dT []) (h' := s.heap.push { cls := .type "dict", data := .dict #[] }) (t' := s.toks) (fun _ _ q => Heap.get?_push_of_some _ q) (Nat.le_refl _) (dt_empty s.heap I.big)
  rw [arm_eval_Dict, zip_pairTrees [some k] [v] X.env pos rfl rfl, dictDisplay_pairs _ (by intro z; cases z) (by rw [pairTrees_length [some k] [v] X.env pos rfl rfl]; exact Nat.le_of_ble_eq_true rfl)]
  refine wpAny_bind (wpAny_standAt (wpAny_bind (wpAny_subDictH (knd := tupleKind (mixKind X.prog X.w)) (Nat.lt_of_succ_lt hu) (by rw [pairTrees_length [some k] [v] X.env pos rfl rfl]; exact Nat.le_of_ble_eq_true rfl) ?_)))
  refine thn (h.run pins _ σ _ _ I1 (q _ hn)) fun ws s2 ⟨ps, H2, I2, rel, e, b, kx, y, ep, eb, q2⟩ => ?_
  subst ep
  cases rel with
  | @cons p0 q0 ps0 qs0 r rr =>
    cases rr
    obtain ⟨k0, v0⟩ := q0
    obtain ⟨r1, r2⟩ := r
    cases (show k0 = Value.ref b from r1)
    obtain ⟨z, hd, xs, rel, dd⟩ := dt_of I2.hok e
    cases rel
    refine ⟨[(kx, b, v0)], ⟨rfl, rfl, key_of I2.hok eb, trivial⟩, dd, fun h' tk dd' hs => ?_⟩
    refine wpAny_pure ⟨.ref s.heap.objs.size, _, ?_, rfl, q2⟩
    obtain ⟨o, es, ep, hq, h2, h3, h4, _, h5⟩ := dd'
    refine d_write I2 (by rw [e]; exact True.intro) hs ⟨o, hq⟩ ⟨by rw [sizeLine_eq]; simp, hd, [(kx, b, v0)], .cons ⟨rfl, ?_, r2⟩ .nil, o, es, ep, hq, h2, h3, h4, h5⟩
    show upd _ _ _ b = _
    rw [upd_ne (ne_of eb e (fun z => nomatch z))]
    exact eb
end My
/-! dict comprehensions: one clause or two, keys whole numbers, texts or tuples of them -/
namespace My
open PySem PySem.Spec PyProof.Rows L2
section
variable {prog : Program} {w : World} {A : Around}
/-- how a turn of clause k goes: an item, its store, the tests, then `more` -/
def TurnIs (M : Model) (A : Around) (e : Expr) (k : Nat) (ip : Pos) (tg : Expr) (ifs : List Expr) (it acc : Value) (env : Env) (more : Sem Unit) : Prop :=
  (Code.compLoop e k it acc env).quiet = true ∧ ∀ (Q : Fin → Shared → Prop) (E : Value → Shared → Prop) (s : Shared), wpAny M A (Sem.onRaise (do
      standAt ip
      match ← pyNext it with
      | none => pure (.done .next)
      | some v =>
        letOwnedTupleGo tg it v
        assign tg env v
        let mut ok := true
        for c in ifs do
          if ok then ok ← isTrue c env (eval c env)
        if ok then
          more
        again (.compLoop e k it acc env)) (fun x => do noteFrame x env; theTreesLotGoes x)) Q E s → wpAny M (A.under (.compLoop e k it acc env)) (M.den (.compLoop e k it acc env)) Q E s
abbrev testing (ifs : List Expr) (env : Env) : Sem Bool := forIn ifs true fun c r => if r = true then do let ok ← isTrue c env (eval c env); pure (ForInStep.yield ok) else pure (ForInStep.yield r)
abbrev noE : Value → Shared → Prop := fun _ _ => False
/-- a comprehension's loop at clause k, whatever comes behind the tests -/
theorem loop_clause {R : Result → Shared → Prop} {s : Shared} {e tg : Expr} {ip : Pos} {ifs : List Expr} {it acc : Value} {env : Env} {k : Nat} {more : Sem Unit} (ti : TurnIs (model prog w) A e k ip tg ifs it acc env more) (Z : Nat → Shared → Prop)
    (turn : ∀ n t, Z n t → wpAny (model prog w) A (pyNext it) (fun r t1 => match r with
      | none => R (.ok .next) t1
      | some v => wpAny (model prog w) A (letOwnedTupleGo tg it v) (fun _ t2 => wpAny (model prog w) A (assign tg env v) (fun _ t3 => wpAny (model prog w) A (testing ifs env) (fun b t4 =>
          if b = true then wpAny (model prog w) A more (fun _ t5 => ∃ m, m < n ∧ Z m t5) noE t4 else ∃ m, m < n ∧ Z m t4) noE t3) noE t2) noE t1) noE t) (n : Nat) (h : Z n s) :
    codeAny (model prog w) A (.compLoop e k it acc env) R s := by
  refine codeAny_loop ti.1 Z (fun n t hz => ti.2 _ _ _ (wpAny_noted ?_)) n h
  refine wpAny_bind (wpAny_standAt (wpAny_bind (thnF (turn n t hz) fun r t1 q1 => ?_)))
  cases r with
  | none => exact wpAny_pure q1
  | some v =>
    refine wpAny_bind (thnF q1 fun _ t2 q2 => wpAny_bind (thnF q2 fun _ t3 q3 => wpAny_bind (thnF q3 fun b t4 q4 => ?_)))
    cases b with
    | false => exact wpAny_pure ⟨rfl, q4⟩
    | true => exact wpAny_bind (thnF q4 fun _ t5 q5 => wpAny_pure ⟨rfl, q5⟩)
end
section
variable {X : Cx}
/-- d[k] = v within a comprehension -/
theorem put_dict {pins : List (Addr × Obj)} {σ : L2.St} {H H' : Hp} {s : Shared} {E : Value → Shared → Prop} {D : Addr} {y v : V} {u r : Value} {Q : Unit → Shared → Prop} (hu : X.A.units + 1 < cLine) (I : Inv X pins σ H s) (g : DPut H D y v H') (ry : RelV y u) (rv : RelV v r)
    (h : ∀ s', Inv X pins σ H' s' → Q () s') : wpAny (model X.prog X.w) X.A (dictSet D u r) Q E s := by
  rcases g with ⟨kvs, k, e, ey, l, eH⟩ | ⟨kvs, k, b, e, ey, eb, l, eH⟩
  · subst ey eH
    exact d_dictSet I e l ry rv h
  · subst ey eH
    cases (show u = Value.ref b from ry)
    obtain ⟨z, nd, xs, rel, dd⟩ := dt_of I.hok e
    have lx : xs.length ≤ sizeLine := by rw [← Paired.length rel]; exact z
    have lp : (putK kvs k v).length ≤ sizeLine := by have := length_putK kvs k v; omega
    refine wpAny_dictSet_heap (hsz := lx) (Nat.lt_of_succ_lt hu) (key_of I.hok eb) dd fun h' d2 sb => h _ ?_
    obtain ⟨q, es, ep, hq, a2, a3, a4, _, a5⟩ := d2
    refine d_write I (by rw [e]; exact True.intro) sb ⟨q, hq⟩ ⟨lp, nd, _, (rel.put k eb rv).keeps fun c ys ec => ?_, q, es, ep, hq, a2, a3, a4, a5⟩
    rw [upd_ne (ne_of ec e (fun z => nomatch z))]
    exact ec
/-- what comes behind a clause's tests: the new dict, slots, heap, what is to be reached -/
abbrev TB := Addr → L2.St → Hp → (Hp → Prop) → Prop
def tDcG (o0 : HO) (wi : TI) (g : TG) (tt : TT) (tb : TB) (vs : List Nat) : TE := fun σ H Q => wi σ H fun J H1 => ∀ D, H1 D = none → ∃ W : Nat → Nat → Hp → Prop, (∃ m, W 0 m (upd H1 D o0)) ∧ ∀ i m H, W i m H →
  (J.stop i H ∧ Q (.ref D) H) ∨ (J.go i H ∧ ∃ Nx : Hp → Prop, (∀ H', Nx H' → ∃ m', m' < m ∧ W (i + 1) m' H') ∧ ∀ x H', J.yld i H x H' → g x (wipe σ vs) H' fun σ2 H2 => wipe σ2 vs = wipe σ vs ∧ tt σ2 H2 fun b H3 =>
    if b = true then tb D σ2 H3 Nx else Nx H3)
/-- the slots that a block may forget -/
def Keeps (vs : List Nat) (σ σ' : L2.St) : Prop := σ'.length = σ.length ∧ ∀ (j : Nat) v, (wipe σ vs)[j]? = some (some v) → σ'[j]? = some (some v)
theorem keeps_self (vs : List Nat) (σ : L2.St) : Keeps vs σ σ := ⟨rfl, fun j v e => (wipe_some e).1⟩
def Behind (B : Cx) (vs : List Nat) (D : Addr) (tb : TB) (more : Sem Unit) : Prop := ∀ (pins : List (Addr × Obj)) (s : Shared) (σ : L2.St) (H : Hp) (Nx : Hp → Prop), Inv B pins σ H s → tb D σ H Nx →
  wpAny (model B.prog B.w) B.A more (fun _ s' => ∃ σ' H', Inv B pins σ' H' s' ∧ Keeps vs σ σ' ∧ Nx H') noE s
def StartIs (M : Model) (A : Around) (e : Expr) (k : Nat) : Prop := ∀ {R : Result → Shared → Prop} {s : Shared} {it acc : Value} {env : Env}, codeAny M A (.compLoop e k it acc env) R s →
  wpAny M A (pyIter it) (fun it' s' => codeAny M A (.compLoop e k it' acc env) R s') (notedBy M A env fun x s' => R (.error x) s') s → codeAny M A (.compStart e k it acc env) R s
theorem dcG_core {e tg iter : Expr} {ifs : List Expr} {gs : List Comprehension} {scope : Scope} {own : List (Str × Nat)} {pos' : Pos} {wi : TI} {g : TG} {tt : TT} {tb : TB} {o0 : HO} {more : Addr → Env → Sem Unit} {pins : List (Addr × Obj)} {s : Shared} {σ : L2.St} {H : Hp} {Q : VK} {use : Option (Value → Sem Unit)} {Qf : Value → Shared → Prop}
    (hcl : clausesOf e = ⟨tg, iter, ifs, 0⟩ :: gs) (turnIs : ∀ it D ce, TurnIs (model X.prog X.w) X.A e 0 iter.pos tg ifs it (.ref D) ce (more D ce)) (startIs : StartIs (model X.prog X.w) X.A e 0)
    (bare : ∀ (H : Hp) (h : Heap), sysModules < h.objs.size → ObjOk X.prog X.w H (h.push { cls := .type "dict", data := .dict #[] }) h.objs.size o0)
    (hc : X.calm = true) (hN : X.N.Nodup) (I : Inv X pins σ H s) (hi : PI X tg iter wi) (ok : BlkOk X.N X.env.scope scope own)
    (hg : ∀ (s : Shared) (H : Hp) (C : Addr) (cl : List (Str × Addr)) (fp : List Addr), PG (X.blk s H scope (compEnvC scope cl C X.env) fp) tg g)
    (ht : ∀ (s : Shared) (H : Hp) (C : Addr) (cl : List (Str × Addr)) (fp : List Addr), PTs (X.blk s H scope (compEnvC scope cl C X.env) fp) ifs tt)
    (hb : ∀ (s : Shared) (H : Hp) (C : Addr) (cl : List (Str × Addr)) (fp : List Addr) (D : Addr), Behind (X.blk s H scope (compEnvC scope cl C X.env) fp) (own.map (·.2)) D tb (more D (compEnvC scope cl C X.env)))
    (hs : ∀ x, foldedSetIterable iter X.env x = pure x) (h : tDcG o0 wi g tt tb (own.map (·.2)) σ H Q)
    (out : ∀ D C s' m H', Inv X pins σ H' s' → Q (.ref D) H' → s'.heap.Ns C m → FpOk X pins H' C → compPost (model X.prog X.w) X.A X.xe use Qf (.ref D) C (.ok .next) s') :
    wpAny (model X.prog X.w) X.A (comprehension e scope X.env pos' newDict false (eval iter X.env) use) Qf X.xe s := by
  have around : ∀ y ∈ scope.names, y.2 = .free → ∃ c, X.env.cells.lookup y.1 = some c := fun y hy z => (ok.free y hy z).elim (fun k => I.ok.has _ (.inl k)) fun k => I.ok.has _ (.inr k)
  refine wpAny_comprehension_free (use := use) hcl hs (closure_ok around) ok.kind (fun y hy z => by rw [ok.uniq y hy, z]) (thn (hi.run pins s σ H _ I h) fun xv t1 k1 => thn k1 fun iv t2 k2 => ?_)
  obtain ⟨it, fps, tn, J, Ha, rfl, Ia, T, ta, fa, q⟩ := k2
  refine wpAny_newObj_type (newEnv_comp ?_)
  generalize eD : t2.heap.objs.size = D
  obtain ⟨W, ⟨m0, w0⟩, turn⟩ := q D (Ia.hok.fresh (Nat.le_of_eq eD))
  generalize eT : ({ t2 with heap := t2.heap.push { cls := .type "dict", data := .dict #[] } } : Shared) = t3
  have heT : t3.heap = t2.heap.push { cls := .type "dict", data := .dict #[] } := by rw [← eT]
  have Ib : Inv X pins σ (upd Ha D o0) t3 := by
    rw [← eT]
    refine Ia.laid (t' := t2.toks) (fun b o z => Heap.get?_push_of_some _ z) (Nat.le_of_eq eD) ?_
    rw [← eD]
    exact bare _ t2.heap Ia.big
  have fb : ∀ b ∈ fps, FpOk X pins (upd Ha D o0) b ∧ b < t3.heap.objs.size := fun b mb => by
    obtain ⟨o, z, _⟩ := T.obj _ _ ta b mb
    have lt := Heap.lt_size z
    have ne : b ≠ D := by rw [← eD]; exact Nat.ne_of_lt lt
    exact ⟨⟨by rw [upd_ne ne]; exact (fa b mb).1, (fa b mb).2⟩, by rw [heT, Heap.size_push]; exact Nat.lt_succ_of_lt lt⟩
  have tb3 : tn 0 t3.heap := T.keep _ _ _ ta fun b _ o z => by rw [heT]; exact Heap.get?_push_of_some _ z
  have Ic := block_start Ib ok hN fb
  generalize eC : cellsFrom (t3.heap.objs.size + 1) scope.names (cloFrom X.env.cells scope.names []) = cl at Ic ⊢
  have pg := hg t3 (upd Ha D o0) t3.heap.objs.size cl fps
  have pt := ht t3 (upd Ha D o0) t3.heap.objs.size cl fps
  have pb := hb t3 (upd Ha D o0) t3.heap.objs.size cl fps D
  show codeAny _ _ (.compStart e 0 (.ref it) (.ref D) (compEnvC scope cl t3.heap.objs.size X.env)) (compPost (model X.prog X.w) X.A X.xe use Qf (.ref D) t3.heap.objs.size) { t3 with heap := pushCells (t3.heap.push { cls := .type "dict", data := .dict #[] }) scope.names }
  have nfp : ∀ b ∈ fps, (upd Ha D o0) b = none := fun b mb => (fb b mb).1.1
  generalize eE : compEnvC scope cl t3.heap.objs.size X.env = ce at Ic pg pt pb ⊢
  have loc : ce.locals = t3.heap.objs.size := by subst eE; rfl
  generalize eH : upd Ha D o0 = Hb at Ib Ic pg pt pb w0 nfp fb
  generalize e4 : ({ t3 with heap := pushCells (t3.heap.push { cls := .type "dict", data := .dict #[] }) scope.names } : Shared) = t4 at Ic ⊢
  have ta4 : tn 0 t4.heap := T.keep _ _ _ tb3 fun b _ o z => by rw [← e4]; exact pushCells_keeps _ _ _ _ (Heap.get?_push_of_some _ z)
  have stands : ∀ {σ' : L2.St} {H' : Hp} {s' : Shared}, Inv (X.blk t3 Hb scope ce fps) [] σ' H' s' → (∀ b ∈ fps, H' b = none) → ∀ b ∈ fps, FpOk (X.blk t3 Hb scope ce fps) [] H' b := fun {σ' H' s'} I' hn b mb =>
    ⟨hn b mb, (I'.ok.exf b mb).1, I'.ok.exfs b mb, .inl mb, fun x c z => (I'.ok.exf b mb).2 x c z, fun p hp => by cases hp⟩
  have loop : codeAny (model X.prog X.w) X.A (.compLoop e 0 (.ref it) (.ref D) ce) (compPost (model X.prog X.w) X.A X.xe use Qf (.ref D) t3.heap.objs.size) t4 := by
    refine loop_clause (turnIs _ D ce) (fun n t => ∃ i H', Inv (X.blk t3 Hb scope ce fps) [] (wipe σ (own.map (·.2))) H' t ∧ tn i t.heap ∧ (∀ b ∈ fps, H' b = none) ∧ W i n H') ?_ m0 ⟨0, Hb, Ic, ta4, nfp, w0⟩
    rintro n t5 ⟨i, H5, I5, ta5, n5, w5⟩
    rcases turn i n H5 w5 with ⟨stop, qq⟩ | ⟨go, Nx, hNx, step⟩
    · refine thnF (T.done (X.blk t3 Hb scope ce fps) rfl rfl rfl hc i [] t5 _ H5 noE I5 (stands I5 n5) ta5 stop) fun r t6 ⟨er, I6⟩ => ?_
      subst er
      have I7 : Inv X pins σ H5 t6 := Ib.call' (ch := fps) I6.os I6.base I6.hok I6.bare fun b mb => ⟨(fb b mb).1.2.2.2.1, (fb b mb).1.2.1, (fb b mb).1.2.2.2.2.1, (fb b mb).1.2.2.2.2.2⟩
      have nC : H5 t3.heap.objs.size = none := by
        have z : H5 ce.locals = none := I6.free
        rwa [loc] at z
      obtain ⟨m, hm, _⟩ := I6.loc
      have hm : t6.heap.Ns ce.locals m := hm
      rw [loc] at hm
      exact out D t3.heap.objs.size t6 m H5 I7 qq hm (Ib.fpOk (Nat.le_refl _) nC)
    · refine thnF (T.item (X.blk t3 Hb scope ce fps) rfl rfl rfl hc i [] t5 _ H5 noE I5 (stands I5 n5) ta5 go) fun r t6 ⟨u, er, k6⟩ => ?_
      subst er
      refine thnF k6 fun _ t7 ⟨x, H7, I7, r7, y7, ta7, n7⟩ => thnF (pg.run _ t7 _ H7 x u _ (I7.pinned (stands I7 n7) (T.obj _ _ ta7)) r7 (step x H7 y7)) fun _ t8 ⟨σ8, H8, I8, hw8, q8⟩ => thnF (pt.run _ t8 σ8 H8 _ I8 q8) fun b t9 ⟨H9, I9, q9⟩ => ?_
      have ends : ∀ {σ9 : L2.St} {t : Shared} {H' : Hp}, Inv (X.blk t3 Hb scope ce fps) ([] ++ pinsAt fps t7.heap) σ9 H' t → Keeps (own.map (·.2)) σ8 σ9 → Nx H' →
          ∃ m, m < n ∧ ∃ i H', Inv (X.blk t3 Hb scope ce fps) [] (wipe σ (own.map (·.2))) H' t ∧ tn i t.heap ∧ (∀ b ∈ fps, H' b = none) ∧ W i m H' := fun {σ9 t H'} I' kp nx => by
        obtain ⟨m', lt, w'⟩ := hNx H' nx
        have pinned : ∀ b ∈ fps, ∀ o, t7.heap.get? b = some o → t.heap.get? b = some o ∧ H' b = none := fun b mb o z =>
          have p := I'.pin (b, o) (List.mem_append_right _ (List.mem_append_right _ (mem_pinsAt mb z)))
          ⟨p.1, p.2.1⟩
        refine ⟨m', lt, i + 1, H', (I'.unpinned (pins := [])).weak (by rw [kp.1, ← hw8, wipe_length]) (fun j v z => kp.2 j v (by rw [hw8]; exact z)), T.keep _ _ _ ta7 fun b mb o z => (pinned b mb o z).1, fun b mb => ?_, w'⟩
        obtain ⟨o, z, _⟩ := T.obj _ _ ta7 b mb
        exact (pinned b mb o z).2
      cases b with
      | false =>
        simp only [Bool.false_eq_true, if_false] at q9 ⊢
        exact ends I9 (keeps_self _ _) q9
      | true =>
        simp only [if_true] at q9 ⊢
        exact thnF (pb _ t9 σ8 H9 Nx I9 q9) fun _ t10 ⟨σ9, H10, I10, kp, nx⟩ => ends I10 kp nx
  exact startIs loop (T.self X.A 0 _ _ _ ta4 loop)
/-- as a value -/
theorem out_value {pins : List (Addr × Obj)} {σ : L2.St} {Q : VK} (D C : Addr) (s' : Shared) (m) (H' : Hp) (I' : Inv X pins σ H' s') (q : Q (.ref D) H') (hn : s'.heap.Ns C m) (f : FpOk X pins H' C) : compPost (model X.prog X.w) X.A X.xe none (EP X pins σ Q) (.ref D) C (.ok .next) s' := by
  obtain ⟨f0, f1, f2, f3, f4, f5⟩ := f
  exact ⟨m, hn, fun h'' sb => ⟨.ref D, H', I'.turned (t' := s'.toks) (fun b o nb z => (sb.2 b nb).trans z) f0 f1 f3 f4 f5, rfl, q⟩⟩
/-- stored to a name -/
theorem out_name {pins : List (Addr × Obj)} {σ : L2.St} {i : Nat} {y : Str} {py : Pos} {E : Ends} (hN : X.N.Nodup) (hy : X.N[i]? = some y) (hyl : X.env.scope.names.lookup y = some .local) (D C : Addr) (s' : Shared) (m) (H' : Hp) (I' : Inv X pins σ H' s')
    (q : gName i (.ref D) σ H' E.nx) (hn : s'.heap.Ns C m) (f : FpOk X pins H' C) : compPost (model X.prog X.w) X.A X.xe (some (assign (.Name y py) X.env)) (fun _ s' => SP X pins E .next s') (.ref D) C (.ok .next) s' := by
  show wpAny _ _ (assign (.Name y py) X.env (.ref D)) _ _ _
  refine wpAny_assign_Name (store_ok2 (v := V.ref D) I' hN hy (.inl hyl) rfl (fun s2 I2 ⟨a, sb, ha⟩ => ?_) (.inr hyl))
  obtain ⟨f0, f1, f2, f3, f4, f5⟩ := f
  have nC : C ≠ a := ha.elim (fun z => by rw [z]; exact f1) fun z e => f4 y a z e.symm
  exact ⟨m, hn.sameBut sb nC, fun h3 sb3 => ⟨_, H', I2.turned (t' := s2.toks) (fun b o nb e => (sb3.2 b nb).trans e) f0 f1 f3 f4 f5, q⟩⟩
theorem sw_dict {kx vx : Expr} {gs : List Comprehension} {scope : Scope} {pos py : Pos} {y : Str} {l : Nat} {env : Env} (hk : env.scope.kind = .function) (hy : env.scope.names.lookup y = some .local) (hl : (py.line == pos.line) = true)
    (ha : (scope.names.any fun (n, k) => n == y && (k == .local || k == .cell)) = false) : swapsWith (.DictComp kx vx gs scope pos) (some (.Name y py)) l env = pure true := by
  have ky : env.kindOf y = some .local := hy
  have hb : env.blockKind = .function := by unfold Env.blockKind; rw [hk]; rfl
  unfold swapsWith
  simp only [hb, ky, ha, Expr.pos, hl]
  rfl
/-- a value at its key -/
def tbPut (tk tv : TE) : TB := fun D σ H Nx => tk σ H fun y H1 => tv σ H1 fun z H2 => ∃ H3, DPut H2 D y z H3 ∧ Nx H3
def put1 (kx vx : Expr) (D : Addr) (env : Env) : Sem Unit := do
  let kv ← eval kx env
  let vv ← holding [kv] (eval vx env)
  standAt { kx.pos with endLine := vx.pos.endLine, endCol := vx.pos.endCol }
  holding [kv, vv] (dictSet D kv vv)
theorem behind_put {B : Cx} {kx vx : Expr} {tk tv : TE} {vs : List Nat} {D : Addr} (hk : PE B kx tk) (hv : PE B vx tv) (hx : B.xe = noE) (hu : B.A.units + 1 < cLine) : Behind B vs D (tbPut tk tv) (put1 kx vx D B.env) := by
  intro pins s σ H Nx I q
  have pk := hk.run pins s σ H _ I q
  rw [hx] at pk
  refine wpAny_bind (thnF pk fun kv s1 ⟨y, H1, I1, r1, q1⟩ => ?_)
  have pv := hv.run pins s1 σ H1 _ I1 q1
  rw [hx] at pv
  refine wpAny_bind (wpAny_holding (thnF pv fun vv s2 ⟨z, H2, I2, r2, H3, g3, nx⟩ => ?_))
  exact wpAny_bind (wpAny_standAt (wpAny_holding (put_dict hu I2 g3 r1 r2 fun s3 I3 => ⟨σ, H3, I3, keeps_self _ _, nx⟩)))
/-- one clause, keys as DPut has them -/
theorem pe_dcT {kx vx tg iter : Expr} {ifs : List Expr} {scope : Scope} {own : List (Str × Nat)} {pos : Pos} {wi : TI} {g : TG} {tt : TT} {tk tv : TE} (hu : X.A.units + 1 < cLine) (hc : X.calm = true) (hN : X.N.Nodup) (hi : PI X tg iter wi) (ok : BlkOk X.N X.env.scope scope own)
    (hg : ∀ (s : Shared) (H : Hp) (C : Addr) (cl : List (Str × Addr)) (fp : List Addr), PG (X.blk s H scope (compEnvC scope cl C X.env) fp) tg g)
    (ht : ∀ (s : Shared) (H : Hp) (C : Addr) (cl : List (Str × Addr)) (fp : List Addr), PTs (X.blk s H scope (compEnvC scope cl C X.env) fp) ifs tt)
    (hk : ∀ (s : Shared) (H : Hp) (C : Addr) (cl : List (Str × Addr)) (fp : List Addr), PE (X.blk s H scope (compEnvC scope cl C X.env) fp) kx tk)
    (hv : ∀ (s : Shared) (H : Hp) (C : Addr) (cl : List (Str × Addr)) (fp : List Addr), PE (X.blk s H scope (compEnvC scope cl C X.env) fp) vx tv) (hs : ∀ x, foldedSetIterable iter X.env x = pure x := by intro _; rfl) :
    PE X (.DictComp kx vx [⟨tg, iter, ifs, 0⟩] scope pos) (tDcG (.dT []) wi g tt (tbPut tk tv) (own.map (·.2))) := by
  refine ⟨fun pins s σ H Q I h => ?_⟩
  rw [arm_eval_DictComp]
  refine dcG_core (more := fun D ce => put1 kx vx D ce) rfl (fun it D ce => ⟨rfl, fun Q E s h => ?_⟩) (fun h0 h => codeAny_compStart_dict h0 h) (fun H h b => dt_empty h b) hc hN I hi ok hg ht (fun s H C cl fp D => behind_put (hk s H C cl fp) (hv s H C cl fp) rfl hu) hs h out_value
  show wpAny _ X.A ((compTurn _ 0 it (.ref D) ce).onRaise _) _ _ s
  rw [compTurn_dict]
  exact h
theorem ps_setDcT {i : Nat} {y : Str} {py : Pos} {kx vx tg iter : Expr} {ifs : List Expr} {scope : Scope} {own : List (Str × Nat)} {pos spos : Pos} {wi : TI} {g : TG} {tt : TT} {tk tv : TE} (hu : X.A.units + 1 < cLine) (hc : X.calm = true) (hN : X.N.Nodup) (hy : X.N[i]? = some y) (hyl : X.env.scope.names.lookup y = some .local)
    (hsw : swapsWith (.DictComp kx vx [⟨tg, iter, ifs, 0⟩] scope pos) (some (.Name y py)) spos.line X.env = pure true) (hi : PI X tg iter wi) (ok : BlkOk X.N X.env.scope scope own)
    (hg : ∀ (s : Shared) (H : Hp) (C : Addr) (cl : List (Str × Addr)) (fp : List Addr), PG (X.blk s H scope (compEnvC scope cl C X.env) fp) tg g)
    (ht : ∀ (s : Shared) (H : Hp) (C : Addr) (cl : List (Str × Addr)) (fp : List Addr), PTs (X.blk s H scope (compEnvC scope cl C X.env) fp) ifs tt)
    (hk : ∀ (s : Shared) (H : Hp) (C : Addr) (cl : List (Str × Addr)) (fp : List Addr), PE (X.blk s H scope (compEnvC scope cl C X.env) fp) kx tk)
    (hv : ∀ (s : Shared) (H : Hp) (C : Addr) (cl : List (Str × Addr)) (fp : List Addr), PE (X.blk s H scope (compEnvC scope cl C X.env) fp) vx tv) (hs : ∀ x, foldedSetIterable iter X.env x = pure x := by intro _; rfl) :
    PS X (.Assign [.Name y py] (.DictComp kx vx [⟨tg, iter, ifs, 0⟩] scope pos) spos) (tAsg (tDcG (.dT []) wi g tt (tbPut tk tv) (own.map (·.2))) (gName i)) := by
  refine ⟨fun pins s σ H D I h => ?_⟩
  rw [exec_Assign_Name_used _ _ _ _ hsw]
  refine wpAny_bind (wpAny_standAt (wpAny_bind ?_))
  show wpAny _ X.A (do let _ ← comprehension (.DictComp kx vx [⟨tg, iter, ifs, 0⟩] scope pos) scope X.env (firstIterPos [⟨tg, iter, ifs, 0⟩] pos) newDict false (eval iter X.env) (some (assign (.Name y py) X.env))) _ _ s
  have h : tDcG (.dT []) wi g tt (tbPut tk tv) (own.map (·.2)) σ H (fun x H1 => gName i x σ H1 D.nx) := h
  refine wpAny_bind (thn (dcG_core (Qf := fun _ s' => SP X pins D .next s') (more := fun D ce => put1 kx vx D ce) rfl (fun it D ce => ⟨rfl, fun Q E s h => ?_⟩) (fun h0 h => codeAny_compStart_dict h0 h) (fun H h b => dt_empty h b) hc hN I hi ok hg ht (fun s H C cl fp D => behind_put (hk s H C cl fp) (hv s H C cl fp) rfl hu) hs h (out_name hN hy hyl)) fun _ s' hq => wpAny_pure (wpAny_pure hq))
  show wpAny _ X.A ((compTurn _ 0 it (.ref D) ce).onRaise _) _ _ s
  rw [compTurn_dict]
  exact h
/-! ### two clauses -/
def tbTwo (wi1 : TI) (g1 : TG) (tt1 : TT) (tb : TB) (vs1 : List Nat) : TB := fun D σ H Nx => wi1 σ H fun J H4 => ∃ W : Nat → Nat → Hp → Prop, (∃ m, W 0 m H4) ∧ ∀ j k H, W j k H →
  (J.stop j H ∧ Nx H) ∨ (J.go j H ∧ ∃ Nx1 : Hp → Prop, (∀ H', Nx1 H' → ∃ k', k' < k ∧ W (j + 1) k' H') ∧ ∀ x H', J.yld j H x H' → g1 x (wipe σ vs1) H' fun σ3 H5 => wipe σ3 vs1 = wipe σ vs1 ∧ tt1 σ3 H5 fun b H6 =>
    if b = true then tb D σ3 H6 Nx1 else Nx1 H6)
def again1 (e i1 : Expr) (D : Addr) (env : Env) : Sem Unit := do
  let x ← eval i1 env
  standAt i1.pos
  let x ← foldedSetIterable i1 env x
  let _ ← runOwn (.compStart e 1 (← holding [x] (pyIter x)) (.ref D) env) env
theorem wipe_other {σ : L2.St} {i : Nat} {vs : List Nat} (h : i ∉ vs) : (wipe σ vs)[i]? = σ[i]? := wipe_out h
theorem behind_two {B : Cx} {e i1 tg1 : Expr} {ifs1 : List Expr} {wi1 : TI} {g1 : TG} {tt1 : TT} {tb : TB} {vs vs1 : List Nat} {D : Addr} {more : Sem Unit} (hc : B.calm = true) (hi : PI B tg1 i1 wi1) (hg : PG B tg1 g1) (ht : PTs B ifs1 tt1) (hb : Behind B vs1 D tb more) (hx : B.xe = noE) (hv : ∀ i ∈ vs1, i ∈ vs)
    (turnIs : ∀ it, TurnIs (model B.prog B.w) B.A e 1 i1.pos tg1 ifs1 it (.ref D) B.env more) (startIs : StartIs (model B.prog B.w) B.A e 1) (hs : ∀ x, foldedSetIterable i1 B.env x = pure x) : Behind B vs D (tbTwo wi1 g1 tt1 tb vs1) (again1 e i1 D B.env) := by
  intro pins s σ H Nx I q
  have pi := hi.run pins s σ H _ I q
  rw [hx] at pi
  refine wpAny_bind (thnF pi fun xv s1 h1 => wpAny_bind (wpAny_standAt (wpAny_bind (wpAny_of_eq (hs xv) (wpAny_bind (wpAny_holding (thnF h1 fun iv s2 h2 => ?_)))))))
  obtain ⟨it, fps, tn, J, H2, rfl, I2, T, ta, fa, W, ⟨m0, w0⟩, turn⟩ := h2
  have stands : ∀ {H' : Hp}, (∀ b ∈ fps, H' b = none) → ∀ b ∈ fps, FpOk B pins H' b := fun hn b mb => ⟨hn b mb, (fa b mb).2⟩
  have back : ∀ {σ' : L2.St}, σ' = wipe σ vs1 → Keeps vs σ σ' := fun {σ'} e => by
    subst e
    refine ⟨wipe_length _ _, fun j v z => ?_⟩
    obtain ⟨z1, z2⟩ := wipe_some z
    rw [wipe_other fun y => z2 (hv j y)]
    exact z1
  have loop : codeAny (model B.prog B.w) B.A (.compLoop e 1 (.ref it) (.ref D) B.env) (fun r s' => match r with
      | .ok _ => ∃ σ' H', Inv B pins σ' H' s' ∧ Keeps vs σ σ' ∧ Nx H'
      | .error _ => False) s2 := by
    refine loop_clause (turnIs _) (fun k t => ∃ j H', Inv B pins (wipe σ vs1) H' t ∧ tn j t.heap ∧ (∀ b ∈ fps, H' b = none) ∧ W j k H') ?_ m0 ⟨0, H2, I2.weak (wipe_length _ _) (fun j v z => (wipe_some z).1), ta, fun b mb => (fa b mb).1, w0⟩
    rintro k t5 ⟨j, H5, I5, ta5, n5, w5⟩
    rcases turn j k H5 w5 with ⟨stop, nx⟩ | ⟨go, Nx1, hNx, step⟩
    · refine thnF (T.done B rfl rfl rfl hc j _ t5 _ H5 noE I5 (stands n5) ta5 stop) fun r t6 ⟨er, I6⟩ => ?_
      subst er
      exact ⟨_, H5, I6, back rfl, nx⟩
    · refine thnF (T.item B rfl rfl rfl hc j _ t5 _ H5 noE I5 (stands n5) ta5 go) fun r t6 ⟨u, er, k6⟩ => ?_
      subst er
      refine thnF k6 fun _ t7 ⟨x, H7, I7, r7, y7, ta7, n7⟩ => ?_
      have pg := hg.run _ t7 _ H7 x u _ (I7.pinned (stands n7) (T.obj _ _ ta7)) r7 (step x H7 y7)
      rw [hx] at pg
      refine thnF pg fun _ t8 ⟨σ8, H8, I8, hw8, q8⟩ => ?_
      have pt := ht.run _ t8 σ8 H8 _ I8 q8
      rw [hx] at pt
      refine thnF pt fun b t9 ⟨H9, I9, q9⟩ => ?_
      have ends : ∀ {σ9 : L2.St} {t : Shared} {H' : Hp}, Inv B (pins ++ pinsAt fps t7.heap) σ9 H' t → Keeps vs1 σ8 σ9 → Nx1 H' → ∃ m, m < k ∧ ∃ j H', Inv B pins (wipe σ vs1) H' t ∧ tn j t.heap ∧ (∀ b ∈ fps, H' b = none) ∧ W j m H' := fun {σ9 t H'} I' kp nx => by
        obtain ⟨m', lt, w'⟩ := hNx H' nx
        have pinned : ∀ b ∈ fps, ∀ o, t7.heap.get? b = some o → t.heap.get? b = some o ∧ H' b = none := fun b mb o z =>
          have p := I'.pin (b, o) (List.mem_append_right _ (List.mem_append_right _ (mem_pinsAt mb z)))
          ⟨p.1, p.2.1⟩
        refine ⟨m', lt, j + 1, H', I'.unpinned.weak (by rw [kp.1, wipe_length, ← wipe_length σ8 vs1, hw8, wipe_length]) (fun i v z => kp.2 i v (by rw [hw8]; exact z)), T.keep _ _ _ ta7 fun b mb o z => (pinned b mb o z).1, fun b mb => ?_, w'⟩
        obtain ⟨o, z, _⟩ := T.obj _ _ ta7 b mb
        exact (pinned b mb o z).2
      cases b with
      | false =>
        simp only [Bool.false_eq_true, if_false] at q9 ⊢
        exact ends I9 (keeps_self _ _) q9
      | true =>
        simp only [if_true] at q9 ⊢
        exact thnF (hb _ t9 σ8 H9 Nx1 I9 q9) fun _ t10 ⟨σ9, H10, I10, kp, nx⟩ => ends I10 kp nx
  have start := startIs loop (T.self B.A 0 _ _ _ ta loop)
  refine wpAny_bind (wpAny_runOwn ?_)
  rw [Around.mark_none]
  refine codeAny_mono start fun r s' hr => ?_
  cases r with
  | ok f => exact wpAny_pure hr
  | error e => exact hr.elim
theorem turn2_eq {kx vx tg iter tg1 iter1 : Expr} {ifs ifs1 : List Expr} {scope : Scope} {pos : Pos} {it : Value} {D : Addr} {ce : Env} : compTurn (.DictComp kx vx [⟨tg, iter, ifs, 0⟩, ⟨tg1, iter1, ifs1, 0⟩] scope pos) 0 it (.ref D) ce = (do
      standAt iter.pos
      match ← pyNext it with
      | none => pure (.done .next)
      | some v =>
        letOwnedTupleGo tg it v
        assign tg ce v
        let mut ok := true
        for c in ifs do
          if ok then ok ← isTrue c ce (eval c ce)
        if ok then
          again1 (.DictComp kx vx [⟨tg, iter, ifs, 0⟩, ⟨tg1, iter1, ifs1, 0⟩] scope pos) iter1 D ce
        again (.compLoop (.DictComp kx vx [⟨tg, iter, ifs, 0⟩, ⟨tg1, iter1, ifs1, 0⟩] scope pos) 0 it (.ref D) ce)) := by
  unfold again1
  simp only [bind_assoc, pure_bind]
  rfl
theorem turn_out {prog : Program} {w : World} {A : Around} {kx vx tg iter tg1 iter1 : Expr} {ifs ifs1 : List Expr} {scope : Scope} {pos : Pos} {it : Value} {D : Addr} {ce : Env} : TurnIs (model prog w) A (.DictComp kx vx [⟨tg, iter, ifs, 0⟩, ⟨tg1, iter1, ifs1, 0⟩] scope pos) 0 iter.pos tg ifs it (.ref D) ce (again1 (.DictComp kx vx [⟨tg, iter, ifs, 0⟩, ⟨tg1, iter1, ifs1, 0⟩] scope pos) iter1 D ce) := by
  refine ⟨rfl, fun Q E s h => ?_⟩
  show wpAny _ A ((compTurn _ 0 it (.ref D) ce).onRaise _) _ _ s
  rw [turn2_eq]
  exact h
theorem turn_in {prog : Program} {w : World} {A : Around} {kx vx tg iter tg1 iter1 : Expr} {ifs ifs1 : List Expr} {scope : Scope} {pos : Pos} {it : Value} {D : Addr} {ce : Env} : TurnIs (model prog w) A (.DictComp kx vx [⟨tg, iter, ifs, 0⟩, ⟨tg1, iter1, ifs1, 0⟩] scope pos) 1 iter1.pos tg1 ifs1 it (.ref D) ce (put1 kx vx D ce) := by
  refine ⟨rfl, fun Q E s h => ?_⟩
  show wpAny _ A ((compTurn _ 1 it (.ref D) ce).onRaise _) _ _ s
  exact h
theorem start_in {prog : Program} {w : World} {A : Around} {kx vx tg iter tg1 iter1 : Expr} {ifs ifs1 : List Expr} {scope : Scope} {pos : Pos} : StartIs (model prog w) A (.DictComp kx vx [⟨tg, iter, ifs, 0⟩, ⟨tg1, iter1, ifs1, 0⟩] scope pos) 1 := by
  intro R s it acc env h0 h
  refine codeAny_of_tree ?_
  show wpAny _ A ((compStart (.DictComp kx vx [⟨tg, iter, ifs, 0⟩, ⟨tg1, iter1, ifs1, 0⟩] scope pos) 1 it acc env).onRaise (fun x => do noteFrame x env; standAt theWindowsPlace)) _ _ s
  refine wpAny_notedAt ?_
  unfold compStart
  show wpAny _ A (ask >>= _) _ _ s
  refine wpAny_bind (wpAny_askSetting (wpAny_ite ?_))
  split
  · first
      | exact wpAny_bind (wpAny_pure (wpAny_pure (And.intro rfl h0)))
      | exact wpAny_pure (And.intro rfl h0)
  · first
      | exact wpAny_bind (wpAny_rule (wpAny_bind (wpAny_standAt (wpAny_bind (wpAny_mono h (fun jt s' h' => wpAny_pure (And.intro rfl h')) fun _ _ z => z)))))
      | (refine wpAny_bind (wpAny_rule ?_); show wpAny _ A (standAt iter1.pos >>= _) _ _ s; exact wpAny_bind (wpAny_standAt (wpAny_bind (wpAny_mono h (fun jt s' h' => wpAny_pure (And.intro rfl h')) fun _ _ z => z))))
/-- two clauses; o0: the empty dict, of the kind that is wanted -/
theorem pe_dc2 {kx vx tg iter tg1 iter1 : Expr} {ifs ifs1 : List Expr} {scope : Scope} {own : List (Str × Nat)} {vs1 : List Nat} {pos : Pos} {wi wi1 : TI} {g g1 : TG} {tt tt1 : TT} {tk tv : TE} (hu : X.A.units + 1 < cLine) (hc : X.calm = true) (hN : X.N.Nodup) (hi : PI X tg iter wi) (ok : BlkOk X.N X.env.scope scope own) (hv1 : ∀ i ∈ vs1, i ∈ own.map (·.2))
    (hg : ∀ (s : Shared) (H : Hp) (C : Addr) (cl : List (Str × Addr)) (fp : List Addr), PG (X.blk s H scope (compEnvC scope cl C X.env) fp) tg g)
    (ht : ∀ (s : Shared) (H : Hp) (C : Addr) (cl : List (Str × Addr)) (fp : List Addr), PTs (X.blk s H scope (compEnvC scope cl C X.env) fp) ifs tt)
    (hi1 : ∀ (s : Shared) (H : Hp) (C : Addr) (cl : List (Str × Addr)) (fp : List Addr), PI (X.blk s H scope (compEnvC scope cl C X.env) fp) tg1 iter1 wi1)
    (hg1 : ∀ (s : Shared) (H : Hp) (C : Addr) (cl : List (Str × Addr)) (fp : List Addr), PG (X.blk s H scope (compEnvC scope cl C X.env) fp) tg1 g1)
    (ht1 : ∀ (s : Shared) (H : Hp) (C : Addr) (cl : List (Str × Addr)) (fp : List Addr), PTs (X.blk s H scope (compEnvC scope cl C X.env) fp) ifs1 tt1)
    (hk : ∀ (s : Shared) (H : Hp) (C : Addr) (cl : List (Str × Addr)) (fp : List Addr), PE (X.blk s H scope (compEnvC scope cl C X.env) fp) kx tk)
    (hv : ∀ (s : Shared) (H : Hp) (C : Addr) (cl : List (Str × Addr)) (fp : List Addr), PE (X.blk s H scope (compEnvC scope cl C X.env) fp) vx tv) (hs : ∀ x, foldedSetIterable iter X.env x = pure x := by intro _; rfl) (hs1 : ∀ env x, foldedSetIterable iter1 env x = pure x := by intro _ _; rfl) :
    PE X (.DictComp kx vx [⟨tg, iter, ifs, 0⟩, ⟨tg1, iter1, ifs1, 0⟩] scope pos) (tDcG (.dK []) wi g tt (tbTwo wi1 g1 tt1 (tbPut tk tv) vs1) (own.map (·.2))) := by
  refine ⟨fun pins s σ H Q I h => ?_⟩
  rw [arm_eval_DictComp]
  exact dcG_core (more := fun D ce => again1 _ iter1 D ce) rfl (fun it D ce => turn_out) (fun h0 h => codeAny_compStart_dict h0 h) (fun H h b => dk_empty h b) hc hN I hi ok hg ht (fun s H C cl fp D => behind_two hc (hi1 s H C cl fp) (hg1 s H C cl fp) (ht1 s H C cl fp) (behind_put (hk s H C cl fp) (hv s H C cl fp) rfl hu) rfl hv1 (fun it => turn_in) start_in (hs1 _)) hs h out_value
theorem ps_setDc2 {i : Nat} {y : Str} {py : Pos} {kx vx tg iter tg1 iter1 : Expr} {ifs ifs1 : List Expr} {scope : Scope} {own : List (Str × Nat)} {vs1 : List Nat} {pos spos : Pos} {wi wi1 : TI} {g g1 : TG} {tt tt1 : TT} {tk tv : TE} (hu : X.A.units + 1 < cLine) (hc : X.calm = true) (hN : X.N.Nodup) (hy : X.N[i]? = some y) (hyl : X.env.scope.names.lookup y = some .local)
    (hsw : swapsWith (.DictComp kx vx [⟨tg, iter, ifs, 0⟩, ⟨tg1, iter1, ifs1, 0⟩] scope pos) (some (.Name y py)) spos.line X.env = pure true) (hi : PI X tg iter wi) (ok : BlkOk X.N X.env.scope scope own) (hv1 : ∀ i ∈ vs1, i ∈ own.map (·.2))
    (hg : ∀ (s : Shared) (H : Hp) (C : Addr) (cl : List (Str × Addr)) (fp : List Addr), PG (X.blk s H scope (compEnvC scope cl C X.env) fp) tg g)
    (ht : ∀ (s : Shared) (H : Hp) (C : Addr) (cl : List (Str × Addr)) (fp : List Addr), PTs (X.blk s H scope (compEnvC scope cl C X.env) fp) ifs tt)
    (hi1 : ∀ (s : Shared) (H : Hp) (C : Addr) (cl : List (Str × Addr)) (fp : List Addr), PI (X.blk s H scope (compEnvC scope cl C X.env) fp) tg1 iter1 wi1)
    (hg1 : ∀ (s : Shared) (H : Hp) (C : Addr) (cl : List (Str × Addr)) (fp : List Addr), PG (X.blk s H scope (compEnvC scope cl C X.env) fp) tg1 g1)
    (ht1 : ∀ (s : Shared) (H : Hp) (C : Addr) (cl : List (Str × Addr)) (fp : List Addr), PTs (X.blk s H scope (compEnvC scope cl C X.env) fp) ifs1 tt1)
    (hk : ∀ (s : Shared) (H : Hp) (C : Addr) (cl : List (Str × Addr)) (fp : List Addr), PE (X.blk s H scope (compEnvC scope cl C X.env) fp) kx tk)
    (hv : ∀ (s : Shared) (H : Hp) (C : Addr) (cl : List (Str × Addr)) (fp : List Addr), PE (X.blk s H scope (compEnvC scope cl C X.env) fp) vx tv) (hs : ∀ x, foldedSetIterable iter X.env x = pure x := by intro _; rfl) (hs1 : ∀ env x, foldedSetIterable iter1 env x = pure x := by intro _ _; rfl) :
    PS X (.Assign [.Name y py] (.DictComp kx vx [⟨tg, iter, ifs, 0⟩, ⟨tg1, iter1, ifs1, 0⟩] scope pos) spos) (tAsg (tDcG (.dK []) wi g tt (tbTwo wi1 g1 tt1 (tbPut tk tv) vs1) (own.map (·.2))) (gName i)) := by
  refine ⟨fun pins s σ H D I h => ?_⟩
  rw [exec_Assign_Name_used _ _ _ _ hsw]
  refine wpAny_bind (wpAny_standAt (wpAny_bind ?_))
  show wpAny _ X.A (do let _ ← comprehension (.DictComp kx vx [⟨tg, iter, ifs, 0⟩, ⟨tg1, iter1, ifs1, 0⟩] scope pos) scope X.env (firstIterPos [⟨tg, iter, ifs, 0⟩, ⟨tg1, iter1, ifs1, 0⟩] pos) newDict false (eval iter X.env) (some (assign (.Name y py) X.env))) _ _ s
  have h : tDcG (.dK []) wi g tt (tbTwo wi1 g1 tt1 (tbPut tk tv) vs1) (own.map (·.2)) σ H (fun x H1 => gName i x σ H1 D.nx) := h
  exact wpAny_bind (thn (dcG_core (Qf := fun _ s' => SP X pins D .next s') (more := fun D ce => again1 _ iter1 D ce) rfl (fun it D ce => turn_out) (fun h0 h => codeAny_compStart_dict h0 h) (fun H h b => dk_empty h b) hc hN I hi ok hg ht (fun s H C cl fp D => behind_two hc (hi1 s H C cl fp) (hg1 s H C cl fp) (ht1 s H C cl fp) (behind_put (hk s H C cl fp) (hv s H C cl fp) rfl hu) rfl hv1 (fun it => turn_in) start_in (hs1 _)) hs h (out_name hN hy hyl)) fun _ s' hq => wpAny_pure (wpAny_pure hq))
end
end My
/-! sorted(xs) by data: what is told does not hang on the sequence -/
namespace My
open PySem PySem.W L2 PyProof.Rows
/-- how items are read as data that may be set in sequence: tuples, alike, no two of them equal -/
structure EncOk {α : Type} (enc : α → PyData) : Prop where
  al : ∀ a b, alike (enc a) (enc b) = true
  inj : ∀ a b, PyData.eqv (enc a) (enc b) = true → a = b
  tup : ∀ a, ∃ x r, enc a = .tuple (x :: r)
  deep : ∀ a, (enc a).depth ≤ 8
theorem toks_inj {x y : PyData} (h : alike x y = true) (e : keyToks x = keyToks y) : PyData.eqv x y = true := by
  cases c : PyData.eqv x y with
  | true => rfl
  | false =>
    have h2 := (toks_eqv x y h).2 c [] [.inl 0]
    rw [e, lex_pre] at h2
    have h3 : PyProof.Rows.lexLt itemOrd (keyToks y) (keyToks y) = false := lex_irrefl _
    rw [h3] at h2
    exact absurd h2 (by decide)
section
variable {α : Type} {enc : α → PyData}
def sortE (enc : α → PyData) (A : List α) : List α := A.mergeSort (dataLe false enc)
theorem sortE_perm (A : List α) : (sortE enc A).Perm A := List.mergeSort_perm _ _
theorem sortE_mem {A : List α} {x : α} : x ∈ sortE enc A ↔ x ∈ A := (sortE_perm A).mem_iff
theorem sortE_map (A : List α) : (A.map enc).mergeSort (dataLe false id) = (sortE enc A).map enc := (List.map_mergeSort (f := enc) (r := dataLe false enc) (s := dataLe false id) (l := A) (fun a _ b _ => rfl)).symm
theorem le_def (a b : α) : dataLe false enc a b = !dataLt (enc b) (enc a) := rfl
theorem le_total' (a b : α) : (dataLe false enc a b || dataLe false enc b a) = true := by
  rw [le_def, le_def]
  cases h1 : dataLt (enc b) (enc a) with
  | false => rfl
  | true =>
    cases h2 : dataLt (enc a) (enc b) with
    | false => rfl
    | true =>
      have := lex_trans (O := itemOrd) _ _ _ h1 h2
      rw [show PyProof.Rows.lexLt itemOrd (keyToks (enc b)) (keyToks (enc b)) = false from lex_irrefl _] at this
      cases this
theorem le_trans' (a b c : α) (h : dataLe false enc a b = true) (k : dataLe false enc b c = true) : dataLe false enc a c = true := by
  rw [le_def] at h k ⊢
  cases e : dataLt (enc c) (enc a) with
  | false => rfl
  | true =>
    rcases lex_negTrans (O := itemOrd) _ (keyToks (enc b)) _ e with z | z
    · rw [show dataLt (enc c) (enc b) = true from z] at k
      cases k
    · rw [show dataLt (enc b) (enc a) = true from z] at h
      cases h
theorem le_antisymm' (E : EncOk enc) (a b : α) (h : dataLe false enc a b = true) (k : dataLe false enc b a = true) : a = b := by
  rw [le_def] at h k
  refine E.inj a b (toks_inj (E.al a b) (lex_total (O := itemOrd) _ _ ?_ ?_))
  · simpa [dataLt] using k
  · simpa [dataLt] using h
theorem sortE_eq (E : EncOk enc) {A B : List α} (h : A.Perm B) : sortE enc A = sortE enc B := by
  have hA : (sortE enc A).Pairwise fun a b => dataLe false enc a b = true := List.pairwise_mergeSort le_trans' le_total' A
  have hB : (sortE enc B).Pairwise fun a b => dataLe false enc a b = true := List.pairwise_mergeSort le_trans' le_total' B
  exact (((sortE_perm A).trans h).trans (sortE_perm B).symm).eq_of_pairwise (fun a b _ _ => le_antisymm' E a b) hA hB
theorem paired_at {β : Type} {F : Addr → β → Prop} : ∀ {ts : List Addr} {L : List β}, Paired F ts L → ∀ {j : Nat} {z : V}, (ts.map V.ref)[j]? = some z → ∃ p b, z = .ref p ∧ p ∈ ts ∧ L[j]? = some b ∧ F p b
  | _, _, .nil, _, _, h => by simp at h
  | _, _, .cons r _, 0, _, h => by
    cases h
    exact ⟨_, _, rfl, List.mem_cons_self, rfl, r⟩
  | _, _, .cons _ t, j + 1, _, h => by
    obtain ⟨p, b, e, m, k1, k2⟩ := paired_at t (j := j) (by simpa using h)
    exact ⟨p, b, e, List.mem_cons_of_mem _ m, by simpa using k1, k2⟩
theorem sorted_pick {F : Addr → α → Prop} (inj : ∀ a b, enc a = enc b → a = b) {ts : List Addr} {A : List α} (hP : Paired F ts A) : ∀ {zs : List V} {M : List α}, Paired (fun (z : V) (d : PyData) => ∃ j : Nat, (ts.map V.ref)[j]? = some z ∧ (A.map enc)[j]? = some d) zs (M.map enc) → ∃ us : List Addr, zs = us.map V.ref ∧ Paired F us M ∧ ∀ u ∈ us, u ∈ ts
  | _, [], .nil => ⟨[], rfl, .nil, fun _ h => by cases h⟩
  | _, m :: M, .cons h t => by
    obtain ⟨us, rfl, hu, hm⟩ := sorted_pick inj hP t
    obtain ⟨j, h1, h2⟩ := h
    obtain ⟨p, e, rfl, hp, he, hf⟩ := paired_at hP h1
    rw [List.getElem?_map, he] at h2
    have h3 := inj _ _ (Option.some.inj h2)
    subst h3
    exact ⟨p :: us, rfl, .cons hf hu, fun u z => (List.mem_cons.mp z).elim (fun z => z ▸ hp) (hm u)⟩
theorem eqv_refl_of {x y : PyData} (h : alike x y = true) (e : x = y) : PyData.eqv x y = true := toks_inj h (by rw [e])
theorem dpAll_of {K : PySem.W.Frag} {H : Hp} {F : Addr → α → Prop} (hd : ∀ p e, F p e → Dp K H (.ref p) (enc e)) : ∀ {ts : List Addr} {A : List α}, Paired F ts A → DpAll K H (ts.map V.ref) (A.map enc)
  | _, _, .nil => .nil
  | _, _, .cons r t => .cons (hd _ _ r) (dpAll_of hd t)
theorem pairedP_len {β : Type} {F : Addr → β → Prop} : ∀ {ts : List Addr} {L : List β}, Paired F ts L → ts.length = L.length
  | _, _, .nil => rfl
  | _, _, .cons _ t => congrArg Nat.succ (pairedP_len t)
/-- sorted(xs), read -/
theorem sort_read {K : PySem.W.Frag} {H : Hp} {l : Addr} {F : Addr → α → Prop} {ts : List Addr} {A : List α} {Q : VK} (E : EncOk enc) (hl : SqL K H l (ts.map V.ref)) (hP : Paired F ts A) (hd : ∀ p e, F p e → Dp K H (.ref p) (enc e)) (hlen : A.length ≤ 100000)
    (q : ∀ (us : List Addr) (p : Addr), Paired F us (sortE enc A) → (∀ u ∈ us, u ∈ ts) → H p = none → Q (.ref p) (upd H p (.lst (us.map V.ref)))) : rSortD K [.ref l] H Q := by
  refine ⟨l, _, A.map enc, rfl, hl, dpAll_of hd hP, AllAlike.of E.al, Sortable.tuples E.tup, fun d hdm => ?_, by rw [List.length_map, pairedP_len hP]; exact hlen, fun zs p hz np => ?_⟩
  · obtain ⟨a, _, rfl⟩ := List.mem_map.mp hdm
    exact E.deep a
  · rw [sortE_map] at hz
    obtain ⟨us, rfl, h1, h2⟩ := sorted_pick (fun a b e => E.inj a b (eqv_refl_of (E.al a b) e)) hP hz
    exact q us p h1 h2 np
end
/-- == and != of data within a comprehension -/
theorem op_eqDK {X : Cx} {K : PySem.W.Frag} (h : X.K = K) (hu : X.A.units + 64 < cLine) : OpR X (compareOp .Eq) (rEqD K) := h ▸ op_eqD hu
theorem op_neDK {X : Cx} {K : PySem.W.Frag} (h : X.K = K) (hu : X.A.units + 64 < cLine) : OpR X (compareOp .NotEq) (rNeD K) := h ▸ op_neD hu
theorem sl_listK {X : Cx} {K : PySem.W.Frag} (h : X.K = K) : SlR X (rSlL K) := h ▸ sl_list
/-- pairs of numbers -/
def enc2 (e : Nat × Nat) : PyData := .tuple [.int (e.1 : Int), .int (e.2 : Int)]
theorem enc2_ok : EncOk enc2 := by
  refine ⟨fun a b => rfl, fun a b h => ?_, fun a => ⟨_, _, rfl⟩, fun a => ?_⟩
  · have h : (((a.1 : Int) == (b.1 : Int)) && (((a.2 : Int) == (b.2 : Int)) && true)) = true := h
    simp only [Bool.and_eq_true, beq_iff_eq, and_true] at h
    exact Prod.ext (by omega) (by omega)
  · show PyData.depth (.tuple [.int (a.1 : Int), .int (a.2 : Int)]) ≤ 8
    simp [PyData.depth, PyData.depthAll]
/-- triples of numbers -/
def enc3 (z : Nat × Nat × Nat) : PyData := .tuple [.int (z.1 : Int), .int (z.2.1 : Int), .int (z.2.2 : Int)]
theorem enc3_ok : EncOk enc3 := by
  refine ⟨fun a b => rfl, fun a b h => ?_, fun a => ⟨_, _, rfl⟩, fun a => ?_⟩
  · have h : (((a.1 : Int) == (b.1 : Int)) && (((a.2.1 : Int) == (b.2.1 : Int)) && (((a.2.2 : Int) == (b.2.2 : Int)) && true))) = true := h
    simp only [Bool.and_eq_true, beq_iff_eq, and_true] at h
    exact Prod.ext (by omega) (Prod.ext (by show a.2.1 = b.2.1; omega) (by show a.2.2 = b.2.2; omega))
  · show PyData.depth (.tuple [.int (a.1 : Int), .int (a.2.1 : Int), .int (a.2.2 : Int)]) ≤ 8
    simp [PyData.depth, PyData.depthAll]
end My
set_option maxHeartbeats 4000000
namespace My
open PySem L2 PyProof.Rows
theorem Chain.drop {ts : List (Nat × Nat)} : ∀ {w : List Nat} {p i t : Nat}, Chain ts p w → w[i]? = some t → t < ts.length ∧ Chain ts (nearT ts t) (w.drop i)
  | [], _, _, _, _, h => by simp at h
  | u :: r, p, 0, t, h, e => by
    cases e
    obtain ⟨a, c⟩ := outB_mem.mp h.1
    refine ⟨a, ?_⟩
    rw [c]
    exact h
  | u :: r, p, i + 1, t, h, e => Chain.drop (w := r) h.2 (by simpa using e)
theorem Chain.link {ts : List (Nat × Nat)} : ∀ {w : List Nat} {p i s t : Nat}, Chain ts p w → w[i]? = some s → w[i + 1]? = some t → nearT ts t = farT ts s
  | [], _, _, _, _, _, h, _ => by simp at h
  | u :: r, p, 0, s, t, h, e1, e2 => by
    cases e1
    cases r with
    | nil => simp at e2
    | cons x q =>
      have : x = t := by simpa using e2
      subst this
      exact (outB_mem.mp h.2.1).2
  | u :: r, p, i + 1, s, t, h, e1, e2 => Chain.link (w := r) h.2 (by simpa using e1) (by simpa using e2)
theorem eqvAll_int2 : ∀ L M : List Int, PyData.eqvAll (L.map PyData.int) (M.map PyData.int) = decide (L = M)
  | [], [] => by simp [PyData.eqvAll]
  | [], _ :: _ => by simp [PyData.eqvAll]
  | _ :: _, [] => by simp [PyData.eqvAll]
  | x :: xs, y :: ys => by
    rw [List.map_cons, List.map_cons, PyData.eqvAll, eqvAll_int2 xs ys, PyData.eqv, Bool.eq_iff_iff, Bool.and_eq_true, beq_iff_eq, decide_eq_true_eq, decide_eq_true_eq, List.cons.injEq]
theorem eqv_ilist2 (L M : List Int) : PyData.eqv (.list (L.map PyData.int)) (.list (M.map PyData.int)) = decide (L = M) := by rw [PyData.eqv, eqvAll_int2]
theorem cut_drop (L : List Nat) (i : Nat) : cutV (iv L) (some (i : Int)) none = iv (L.drop i) := by
  unfold cutV
  rw [HT.sIx_none, HT.sIx_nat, iv, ← List.map_drop, ← List.map_take, List.length_map]
  by_cases c : i ≤ L.length
  · rw [Nat.min_eq_left c, List.take_of_length_le (by rw [List.length_drop]; exact Nat.le_refl _)]
  · rw [Nat.min_eq_right (by omega), List.drop_of_length_le (Nat.le_refl _), List.drop_of_length_le (show L.length ≤ i by omega), List.take_nil]
theorem cut_take (L : List Nat) (k : Nat) : cutV (iv L) none (some (k : Int)) = iv (L.take k) := by
  unfold cutV
  rw [HT.sIx_none, HT.sIx_nat, iv, List.drop_zero, Nat.sub_zero, ← List.map_take, List.length_map]
  congr 1
  by_cases c : k ≤ L.length
  · rw [Nat.min_eq_left c]
  · rw [Nat.min_eq_right (by omega), List.take_of_length_le (Nat.le_refl _), List.take_of_length_le (by omega)]
theorem eqv_izl (L M : List Nat) : PyData.eqv (dz (L.map fun n : Nat => (n : Int))) (dz (M.map fun n : Nat => (n : Int))) = decide (L = M) := by
  have := eqv_ilist2 (iz' L) (iz' M)
  refine this.trans ?_
  rw [decide_eq_decide]
  exact ⟨iz'_inj, fun h => by rw [h]⟩
section
variable {P : Program} {w : World} {K : PySem.W.Frag} {mg : Str → Option Value} {base : Heap} {C : Addr}
def sp_law_walk_right (_ : PySem.W.Frag) (_ : Addr) : Sp := fun vs H Q _ => ∃ (l wl tp bl yl : Addr) (N : Nat) (ts : List (Nat × Nat)) (b e s0 : Nat) (P wk BT : List Nat) (W : List (List Nat)) (as : List Addr), vs = [.ref l, .ref wl, .int ((b : Nat) : Int), .ref tp] ∧ TiesAt H l ts ∧ H wl = some (.lst (iv wk)) ∧ H tp = some (.tup [.ref bl, .ref yl]) ∧ H bl = some (.lst (iv BT)) ∧ H yl = some (.lst (as.map V.ref)) ∧ LisN H as W ∧ Bub N ts b e P ∧ (∀ x, x ∈ BT ↔ x ∈ P ∧ x ≠ b) ∧ (∀ v, v ∈ W ↔ v ∈ waysB ts e P b) ∧ Chain ts s0 wk ∧ wk.length ≤ 12 ∧ W.length ≤ 400 ∧ BT.length ≤ 5 ∧
  ∀ H', Same H H' → Q (.bl true) H'
theorem ok_law_walk_right (D : Def K mg "_law_walk_right" s_law_walk_right ["_law_ties_here", "_law_walk_here", "_law_begin", "_law_told"]) (B : Bs mg) (Glb : Glo mg) (WK : WebK K mg C) :
    Good P w K mg base "_law_walk_right" s_law_walk_right ["_law_ties_here", "_law_walk_here", "_law_begin", "_law_told"] 1 (sp_law_walk_right K C) := by
  refine D.good fun f fd F => ?_
  refine F.ok sc_law_walk_right (fun vs H Q E h => ?_) (fun cdv A outer s H vs Q E hr h => ?_)
  · obtain ⟨l, wl, tp, bl, yl, N, ts, b, e, s0, P, wk, BT, W, as, rfl, hT, hwl, htp, hbl, hyl, hL, Bb, hBT, hW, hch, hwk, hWl, hBl, q⟩ := h
    first | rfl | (rcases h with ⟨_, _, rfl, _⟩ | ⟨_, rfl, _⟩ <;> rfl)
  obtain ⟨l, wl, tp, bl, yl, N, ts, b, e, s0, P, wk, BT, W, as, rfl, hT, hwl, htp, hbl, hyl, hL, Bb, hBT, hW, hch, hwk, hWl, hBl, q⟩ := h
  refine ⟨_, (pss_cons (ps_asg (pv 3) (pg_tup rfl (pgs_cons (pg_name (i := 4) sc_law_walk_right.nd rfl (by first | exact Or.inl rfl | exact Or.inr rfl)) (pgs_cons (pg_name (i := 5) sc_law_walk_right.nd rfl (by first | exact Or.inl rfl | exact Or.inr rfl)) pgs_nil))))
  (pss_cons (ps_for PassesOwn.never rfl (pi_enum (by rfl) B.enumerate (pa_cons (pv 1) pa_nil)) (pg_tup rfl (pgs_cons (pg_name (i := 6) sc_law_walk_right.nd rfl (by first | exact Or.inl rfl | exact Or.inr rfl)) (pgs_cons (pg_name (i := 7) sc_law_walk_right.nd rfl (by first | exact Or.inl rfl | exact Or.inr rfl)) pgs_nil)))
    (pss_cons (ps_if (pt_cmpR op_eq (pe_ix ix_tup (pe_ix ix_list (pv 0) (pv 7) (fun _ _ => rfl)) pe_int (fun _ _ => rfl)) (pv 2) (nomark _))
    (pss_cons (ps_set (i := 8) sc_law_walk_right.nd rfl (by first | exact Or.inl rfl | exact Or.inr rfl) (pe_slice sl_list (pv 1) (po_some (pv 6)) po_none))
  (pss_cons (ps_setLc (i := 9) (own := [("_law_one", 10)]) (g := gName 10) (by rfl) sc_law_walk_right.nd rfl rfl (sw_true rfl rfl rfl (by decide +kernel)) (pi_list (pv 5)) (blkOk_by (own := [("_law_one", 10)]) (N := ["_law_ties_here", "_law_walk_here", "_law_begin", "_law_told", "_law_between", "_law_ways", "_law_at", "_law_tie", "_law_rest", "_law_fits", "_law_one"]) (sc := defScope s_law_walk_right) (by decide +kernel)) (fun _ _ _ _ _ => (pg_name (i := 10) sc_law_walk_right.nd rfl (by first | exact Or.inl rfl | exact Or.inr rfl))) (fun _ _ _ _ _ => (pts_one (PW.pt (pw_or (pt_cmpR (op_eqDK (K := K) rfl hr.units) (pv 10) (pe_slice (sl_listK (K := K) rfl) (pv 8) po_none (po_some (pe_callB (call_len_seqK (K := K) rfl) (by rfl) B.len (by decide +kernel) (pa_cons (pv 10) pa_nil)))) (nomark _)) (pw_or1 (pt_cmpR (op_eqDK (K := K) rfl hr.units) (pv 8) (pe_slice (sl_listK (K := K) rfl) (pv 10) po_none (po_some (pe_callB (call_len_seqK (K := K) rfl) (by rfl) B.len (by decide +kernel) (pa_cons (pv 8) pa_nil)))) (nomark _))))))) (fun _ _ _ _ _ => (pv 10)))
  (pss_one (ps_if (pt_cmpR op_eq (pe_callB call_len_seq (by rfl) B.len (by decide +kernel) (pa_cons (pv 9) pa_nil)) pe_int (nomark _))
    (pss_one (ps_ret pe_bl)) pss_nil)))) pss_nil)
  (pss_one (ps_if (PW.pt (pw_and (pt_cmpR op_in_seq (pe_ix ix_tup (pe_ix ix_list (pv 0) (pv 7) (fun _ _ => rfl)) pe_int (fun _ _ => rfl)) (pv 4) (by rfl)) (pw_and (pt_cmpR op_gt (pv 6) pe_int (nomark _)) (pw_and1 (pt_cmpR op_notIn_seq (pe_ix ix_tup (pe_ix ix_list (pv 0) (pe_ix ix_list (pv 1) (pe_op op_sub (pv 6) pe_int) (fun _ _ => rfl)) (fun _ _ => rfl)) pe_int (fun _ _ => rfl)) (pe_op op_cat (pv 4) (pe_lst (pa_cons (pv 2) pa_nil))) (by rfl))))))
    (pss_one (ps_ret pe_bl)) pss_nil))))
  (pss_one (ps_ret pe_bl)))), ?_⟩
  refine ⟨_, rfl, tp, _, rfl, SqT.of htp, rfl, _, _, rfl, _, _, rfl, rfl, ?_⟩
  refine ⟨_, rfl, wl, _, rfl, SqL.of hwl, ?_⟩
  have hal := paired_len hL
  refine for_it (walk_enum (K := K) (a := wl) (xs := iv wk)) (fun i σ H' => Same H H' ∧ ∃ v6 v7 v8 v9 : Option V, σ = [some (.ref l), some (.ref wl), some (.int (b : Int)), some (.ref tp), some (.ref bl), some (.ref yl), v6, v7, v8, v9, none]) ⟨(fun _ _ z => z), _, _, _, _, rfl⟩ (fun i σ H' hi ⟨z, _⟩ => SqL.of (z _ _ hwl)) ?_ ?_
  · rintro i x σ H2 H3 hi ⟨S2, v6, v7, v8, v9, rfl⟩ ⟨T0, x1, x2, rfl, nT0, rfl, e1, e2⟩
    cases e1
    rw [List.length_map] at hi
    obtain ⟨t, hti, rfl⟩ := iv_of e2
    obtain ⟨htl, hcd⟩ := hch.drop hti
    have S3 := S2.trans (same_new nT0 (.tup [V.int (i : Int), V.int (t : Int)]))
    have eT : upd H2 T0 (.tup [V.int (i : Int), V.int (t : Int)]) T0 = some (.tup [V.int (i : Int), V.int (t : Int)]) := upd_same
    generalize upd H2 T0 (.tup [V.int (i : Int), V.int (t : Int)]) = H3 at S3 eT ⊢
    refine ⟨T0, _, rfl, SqT.of eT, rfl, _, _, rfl, _, _, rfl, rfl, ?_⟩
    obtain ⟨xs, q3, e1, e2, e3⟩ := tie_at (hT.same S3) htl
    refine ⟨_, rfl, _, rfl, _, _, _, .ref q3, rfl, rfl, SqL.of e1, e2, _, _, _, .int ((nearT ts t : Nat) : Int), rfl, rfl, SqT.of e3, atI_nat (j := 0) rfl, _, rfl, rfl, _, rfl, ?_⟩
    by_cases c : nearT ts t = b
    rotate_left
    · refine iteNo (fun z => c (by have := int_eq.mp z; exact Int.ofNat.inj this)) ?_
      refine ⟨_, rfl, _, rfl, _, _, _, .ref q3, rfl, rfl, SqL.of e1, e2, _, _, _, .int ((nearT ts t : Nat) : Int), rfl, rfl, SqT.of e3, atI_nat (j := 0) rfl, _, rfl, bl, iv BT, rfl, .inl (SqL.of (S3 _ _ hbl)), rfl, flat_iv BT, _, rfl, ?_⟩
      rw [in_iv]
      by_cases hB : nearT ts t ∈ BT
      rotate_left
      · exact iteNo hB (iteF ⟨S3, _, _, _, _, rfl⟩)
      refine iteYes hB ?_
      refine ⟨_, rfl, _, _, rfl, rfl, _, rfl, ?_⟩
      by_cases hi0 : i = 0
      · exact iteNo (by omega) (iteF ⟨S3, _, _, _, _, rfl⟩)
      refine iteYes (by omega) ?_
      obtain ⟨k, rfl⟩ : ∃ k, i = k + 1 := ⟨i - 1, by omega⟩
      obtain ⟨u, hu⟩ : ∃ u, wk[k]? = some u := ⟨wk[k]'(by omega), List.getElem?_eq_getElem _⟩
      have hul := (hch.drop hu).1
      have hlink := hch.link hu hti
      obtain ⟨hBP, hBb⟩ := (hBT _).mp hB
      have hfp := Bb.from_passed hul (by rw [← hlink]; exact hBP) (by rw [← hlink]; exact hBb)
      obtain ⟨zs, q4, d1, d2, d3⟩ := tie_at (hT.same S3) hul
      refine ⟨_, rfl, _, rfl, _, rfl, _, _, rfl, rfl, _, _, _, .int ((u : Nat) : Int), rfl, rfl, SqL.of (S3 _ _ hwl), by rw [show ((k + 1 : Nat) : Int) - 1 = (k : Int) by omega]; exact iv_at hu, _, _, _, .ref q4, rfl, rfl, SqL.of d1, d2, _, _, _, .int ((nearT ts u : Nat) : Int), rfl, rfl, SqT.of d3, atI_nat (j := 0) rfl, _, rfl, _, rfl, (by show 1 ≤ sizeLine; decide), fun p1 np1 => ?_⟩
      have S8 := S3.trans (same_new np1 (.lst [V.int (b : Int)]))
      refine ⟨bl, p1, _, _, rfl, rfl, S8 _ _ hbl, upd_same, by rw [List.length_map]; exact Nat.le_of_lt (line200 (by show BT.length + 1 ≤ 200; omega)), fun p2 np2 => ?_⟩
      have S9 := S8.trans (same_new np2 (.lst (iv BT ++ [V.int (b : Int)])))
      refine ⟨p2, iv (BT ++ [b]), rfl, .inl (SqL.of (by rw [upd_same, iv_app])), rfl, flat_iv _, _, rfl, ?_⟩
      rw [notin_iv]
      refine iteNot' ?_ ⟨S9, _, _, _, _, rfl⟩
      by_cases hub : nearT ts u = b
      · rw [hub]; simp
      · exact List.mem_append_left _ ((hBT _).mpr ⟨hfp, hub⟩)
    refine iteYes (by rw [c]) ?_
    refine ⟨_, rfl, _, rfl, _, rfl, wl, _, rfl, SqL.of (S3 _ _ hwl), fun rl nrl => ?_⟩
    rw [cut_drop]
    have S4 := S3.trans (same_new nrl (.lst (iv (wk.drop i))))
    have hrl : upd H3 rl (.lst (iv (wk.drop i))) rl = some (.lst (iv (wk.drop i))) := upd_same
    generalize upd H3 rl (.lst (iv (wk.drop i))) = H4 at S4 hrl ⊢
    refine ⟨_, rfl, yl, rfl, ⟨_, SqL.of (S4 _ _ hyl)⟩, fun D nD => ?_⟩
    refine lc_list (K := K) (a := yl) (xs := as.map V.ref) (fun j H' => Same H4 H' ∧ ∃ fs : List V, H' D = some (.lst fs) ∧ fs.length ≤ j ∧ ((∃ v ∈ W.take j, v <+: wk.drop i ∨ wk.drop i <+: v) → 0 < fs.length)) ⟨same_new nD _, [], upd_same, Nat.le_refl _, fun ⟨v, hv, _⟩ => nomatch hv⟩ (fun i H' _ ⟨z, _⟩ => SqL.of (z _ _ (S4 _ _ hyl))) ?_ ?_
    · rintro j y H5 hy ⟨S5, fs, hD5, hfl, hfs⟩
      obtain ⟨vp, hvp, rfl⟩ := ref_of hy
      obtain ⟨v, hvj, hpv⟩ := paired_get hL hvp
      have hjl := (List.getElem?_eq_some_iff.mp hvj).1
      have hpv5 := S5 _ _ (S4 _ _ hpv)
      refine ⟨rfl, _, rfl, _, rfl, _, rfl, _, _, rfl, .inl (SqL.of hpv5), _, rfl, rl, _, rfl, SqL.of (S5 _ _ hrl), fun p1 np1 => ?_⟩
      rw [show (iv v).length = v.length from List.length_map _, cut_take]
      have S6 := S5.trans (same_new np1 (.lst (iv ((wk.drop i).take v.length))))
      have e6 : upd H5 p1 (.lst (iv ((wk.drop i).take v.length))) p1 = some (.lst (iv ((wk.drop i).take v.length))) := upd_same
      have hD6 := same_new np1 (.lst (iv ((wk.drop i).take v.length))) _ _ hD5
      have hpv6 := same_new np1 (.lst (iv ((wk.drop i).take v.length))) _ _ hpv5
      generalize upd H5 p1 (.lst (iv ((wk.drop i).take v.length))) = H6 at S6 e6 hD6 hpv6 ⊢
      have hsz : fs.length < sizeLine := Nat.lt_of_le_of_lt (show fs.length ≤ 400 by omega) (by decide)
      have more : (∃ u ∈ W.take (j + 1), u <+: wk.drop i ∨ wk.drop i <+: u) → (∃ u ∈ W.take j, u <+: wk.drop i ∨ wk.drop i <+: u) ∨ (v <+: wk.drop i ∨ wk.drop i <+: v) := fun ⟨u, hu, h⟩ => by
        rw [take_one' hvj] at hu
        rcases List.mem_append.mp hu with z | z
        · exact .inl ⟨u, z, h⟩
        · rw [List.mem_singleton.mp z] at h; exact .inr h
      refine ⟨_, _, dp_iv hpv6, dp_iv e6, shaped_iz _, shaped_iz _, ?_⟩
      rw [eqv_izl]
      refine ⟨_, rfl, ?_⟩
      by_cases c1 : v = (wk.drop i).take v.length
      · refine iteYes c1 (iteT ⟨_, rfl, fs, hD6, hsz, same_upd S6 nD, _, upd_same, by rw [List.length_append]; show fs.length + 1 ≤ _; omega, fun _ => by rw [List.length_append]; show 0 < fs.length + 1; omega⟩)
      refine iteNo c1 ?_
      refine ⟨_, rfl, _, rfl, _, rfl, _, _, rfl, .inl (SqL.of (S6 _ _ hrl)), _, rfl, vp, _, rfl, SqL.of hpv6, fun p2 np2 => ?_⟩
      rw [show (iv (wk.drop i)).length = (wk.drop i).length from List.length_map _, cut_take]
      have S7 := S6.trans (same_new np2 (.lst (iv (v.take (wk.drop i).length))))
      have e7 : upd H6 p2 (.lst (iv (v.take (wk.drop i).length))) p2 = some (.lst (iv (v.take (wk.drop i).length))) := upd_same
      have hD7 := same_new np2 (.lst (iv (v.take (wk.drop i).length))) _ _ hD6
      generalize upd H6 p2 (.lst (iv (v.take (wk.drop i).length))) = H7 at S7 e7 hD7 ⊢
      refine ⟨_, _, dp_iv (S7 _ _ hrl), dp_iv e7, shaped_iz _, shaped_iz _, ?_⟩
      rw [eqv_izl]
      refine ⟨_, rfl, ?_⟩
      by_cases c2 : wk.drop i = v.take (wk.drop i).length
      · refine iteYes c2 ⟨_, rfl, fs, hD7, hsz, same_upd S7 nD, _, upd_same, by rw [List.length_append]; show fs.length + 1 ≤ _; omega, fun _ => by rw [List.length_append]; show 0 < fs.length + 1; omega⟩
      refine iteNo c2 ⟨S7, fs, hD7, by omega, fun h => ?_⟩
      rcases more h with z | z | z
      · exact hfs z
      · exact absurd (List.prefix_iff_eq_take.mp z) c1
      · exact absurd (List.prefix_iff_eq_take.mp z) c2
    rintro H5 ⟨S5, fs, hD5, hfl, hfs⟩
    rw [List.length_map, hal, List.take_length] at hfs
    rw [List.length_map, hal] at hfl
    have hcd' : Chain ts b (wk.drop i) := c ▸ hcd
    obtain ⟨v, hv, hvp⟩ := Bb.chain _ b Bb.bmem hcd'
    have hpos := hfs ⟨v, (hW v).mpr hv, hvp⟩
    have S7 := S4.trans S5
    refine ⟨_, rfl, _, _, rfl, .inl (SqL.of hD5), rfl, _, rfl, iteNo (fun z => by have := int_eq.mp z; omega) ?_⟩
    obtain ⟨ys, q5, f1, f2, f3⟩ := tie_at (hT.same S7) htl
    refine ⟨_, rfl, _, rfl, _, _, _, .ref q5, rfl, rfl, SqL.of f1, f2, _, _, _, .int ((nearT ts t : Nat) : Int), rfl, rfl, SqT.of f3, atI_nat (j := 0) rfl, _, rfl, bl, iv BT, rfl, .inl (SqL.of (S7 _ _ hbl)), rfl, flat_iv BT, _, rfl, ?_⟩
    rw [in_iv]
    by_cases hB : nearT ts t ∈ BT
    rotate_left
    · exact iteNo hB (iteF ⟨S7, _, _, _, _, rfl⟩)
    refine iteYes hB ?_
    refine ⟨_, rfl, _, _, rfl, rfl, _, rfl, ?_⟩
    by_cases hi0 : i = 0
    · exact iteNo (by omega) (iteF ⟨S7, _, _, _, _, rfl⟩)
    refine iteYes (by omega) ?_
    obtain ⟨k, rfl⟩ : ∃ k, i = k + 1 := ⟨i - 1, by omega⟩
    obtain ⟨u, hu⟩ : ∃ u, wk[k]? = some u := ⟨wk[k]'(by omega), List.getElem?_eq_getElem _⟩
    have hul := (hch.drop hu).1
    have hlink := hch.link hu hti
    obtain ⟨hBP, hBb⟩ := (hBT _).mp hB
    have hfp := Bb.from_passed hul (by rw [← hlink]; exact hBP) (by rw [← hlink]; exact hBb)
    obtain ⟨zs, q4, d1, d2, d3⟩ := tie_at (hT.same S7) hul
    refine ⟨_, rfl, _, rfl, _, rfl, _, _, rfl, rfl, _, _, _, .int ((u : Nat) : Int), rfl, rfl, SqL.of (S7 _ _ hwl), by rw [show ((k + 1 : Nat) : Int) - 1 = (k : Int) by omega]; exact iv_at hu, _, _, _, .ref q4, rfl, rfl, SqL.of d1, d2, _, _, _, .int ((nearT ts u : Nat) : Int), rfl, rfl, SqT.of d3, atI_nat (j := 0) rfl, _, rfl, _, rfl, (by show 1 ≤ sizeLine; decide), fun p1 np1 => ?_⟩
    have S8 := S7.trans (same_new np1 (.lst [V.int (b : Int)]))
    refine ⟨bl, p1, _, _, rfl, rfl, S8 _ _ hbl, upd_same, by rw [List.length_map]; exact Nat.le_of_lt (line200 (by show BT.length + 1 ≤ 200; omega)), fun p2 np2 => ?_⟩
    have S9 := S8.trans (same_new np2 (.lst (iv BT ++ [V.int (b : Int)])))
    refine ⟨p2, iv (BT ++ [b]), rfl, .inl (SqL.of (by rw [upd_same, iv_app])), rfl, flat_iv _, _, rfl, ?_⟩
    rw [notin_iv]
    refine iteNot' ?_ ⟨S9, _, _, _, _, rfl⟩
    by_cases hub : nearT ts u = b
    · rw [hub]; simp
    · exact List.mem_append_left _ ((hBT _).mpr ⟨hfp, hub⟩)
  · rintro σ H2 ⟨S2, v6, v7, v8, v9, rfl⟩
    exact q _ S2
end
end My
set_option maxHeartbeats 4000000
namespace My
open PySem L2 PyProof.Rows
theorem DpA.put {O H : Hp} {D : Addr} {N : Nat} {ts ps : List (Nat × Nat)} {kvs : List (List Key × V)} (hD : H D = some (.dT kvs)) (hk : kvs.map (·.1) = ps.map keyP) (hv : ∀ q ∈ ps, ∃ (lp : Addr) (L : List Nat), valV kvs (keyP q) = some (.ref lp) ∧ H lp = some (.lst (iv L)) ∧ L ∈ lotsN q.1 q.2 N ∧ Shut ts L q.1 q.2 ∧ q.1 ≠ q.2 ∧ O lp = none)
    {q : Nat × Nat} (hq : q ∉ ps) {lp : Addr} {L : List Nat} (hlp : H lp = some (.lst (iv L))) (hL : L ∈ lotsN q.1 q.2 N) (Sh : Shut ts L q.1 q.2) (hne : q.1 ≠ q.2) (hO : O lp = none) : DpA O (upd H D (.dT (putK kvs (keyP q) (.ref lp)))) D N ts (ps ++ [q]) := by
  have hld : ∀ {y : Addr} {M : List Nat}, H y = some (.lst (iv M)) → upd H D (.dT (putK kvs (keyP q) (.ref lp))) y = some (.lst (iv M)) := fun {y M} h => by
    rw [upd_ne (fun z => by rw [z, hD] at h; cases h)]
    exact h
  refine ⟨_, upd_same, ?_, fun p hp => ?_⟩
  · unfold putK
    have e := valV_any (keyP q) kvs
    rw [DpA_some hk q, decide_eq_false hq] at e
    rw [e, if_neg Bool.false_ne_true, List.map_append, List.map_append, hk]
    rfl
  · rw [valV_put]
    by_cases c : p = q
    · subst c
      exact ⟨lp, L, if_pos rfl, hld hlp, hL, Sh, hne, hO⟩
    · obtain ⟨y, M, h1, h2, h3⟩ := hv p ((List.mem_append.mp hp).resolve_right fun z => c (List.mem_singleton.mp z))
      exact ⟨y, M, by rw [if_neg (fun z => c (keyP_inj z))]; exact h1, hld h2, h3⟩
theorem DpA.same {O H H' : Hp} {D : Addr} {N : Nat} {ts ps : List (Nat × Nat)} (h : DpA O H D N ts ps) (s : Same H H') : DpA O H' D N ts ps := by
  obtain ⟨kvs, h1, h2, h3⟩ := h
  exact ⟨kvs, s _ _ h1, h2, fun q hq => by obtain ⟨y, M, a, b, c⟩ := h3 q hq; exact ⟨y, M, a, s _ _ b, c⟩⟩
section
variable {P : Program} {w : World} {K : PySem.W.Frag} {mg : Str → Option Value} {base : Heap} {C : Addr}
def BuAt (H : Hp) (N : Nat) (ts : List (Nat × Nat)) (p : Addr) (q : Nat × Nat) : Prop := ∃ (lp : Addr) (L : List Nat), H p = some (.tup [.int ((q.1 : Nat) : Int), .int ((q.2 : Nat) : Int), .ref lp]) ∧ H lp = some (.lst (iv L)) ∧ L ∈ lotsN q.1 q.2 N ∧ Shut ts L q.1 q.2 ∧ q.1 ≠ q.2
def BuD (O H H8 : Hp) (due : Addr) (N : Nat) (ts : List (Nat × Nat)) (p : Addr) (q : Nat × Nat) : Prop := ∃ (lp : Addr) (L : List Nat), H p = some (.tup [.int ((q.1 : Nat) : Int), .int ((q.2 : Nat) : Int), .ref lp]) ∧ H8 lp = some (.lst (iv L)) ∧ lp ≠ due ∧ L ∈ lotsN q.1 q.2 N ∧ Shut ts L q.1 q.2 ∧ q.1 ≠ q.2 ∧ O lp = none
theorem BuD.same {O H H' H8 : Hp} {due : Addr} {N : Nat} {ts : List (Nat × Nat)} {p : Addr} {q : Nat × Nat} (h : BuD O H H8 due N ts p q) (s : Same H H') : BuD O H' H8 due N ts p q := by
  obtain ⟨lp, L, a, b⟩ := h
  exact ⟨lp, L, s _ _ a, b⟩
theorem BuD.upd {O H H8 : Hp} {due d2 : Addr} {N : Nat} {ts : List (Nat × Nat)} {p : Addr} {q : Nat × Nat} {xs : List V} {o : HO} (h : BuD O H H8 due N ts p q) (hd : H d2 = some (.lst xs)) : BuD O (L2.upd H d2 o) H8 due N ts p q := by
  obtain ⟨lp, L, a, b⟩ := h
  exact ⟨lp, L, by rw [upd_ne (fun z => by rw [z, hd] at a; cases a)]; exact a, b⟩
def sp_law_bubbles (_ : PySem.W.Frag) (_ : Addr) : Sp := fun vs H Q _ => ∃ (l : Addr) (N : Nat) (ts : List (Nat × Nat)), vs = [.int ((N : Nat) : Int), .ref l] ∧ TiesAt H l ts ∧ OkWeb N ts ∧ N ≤ 5 ∧ ts.length ≤ 10 ∧
  ∀ H' f fs, Same H H' → H f = none → H' f = some (.lst (fs.map V.ref)) → Paired (fun p q => BuAt H' N ts p q ∧ ∀ c xs, H c = some (.lst xs) → BuAt (Off c H') N ts p q) fs (bubsB N ts) → Q (.ref f) H'
theorem ok_law_bubbles (D : Def K mg "_law_bubbles" s_law_bubbles ["_law_places", "_law_ties_here"]) (B : Bs mg) (Glb : Glo mg) (WK : WebK K mg C)
    (h_law_shut : Good P w K mg base "_law_shut" s_law_shut ["_law_places", "_law_ties_here", "_law_begin", "_law_end"] 3 (sp_law_shut K C)) :
    Good P w K mg base "_law_bubbles" s_law_bubbles ["_law_places", "_law_ties_here"] 4 (sp_law_bubbles K C) := by
  refine D.good fun f fd F => ?_
  obtain ⟨f_law_shut, d_law_shut, O_law_shut, m_law_shut, k_law_shut, b_law_shut, F_law_shut⟩ := h_law_shut
  refine F.ok sc_law_bubbles (fun vs H Q E h => ?_) (fun cdv A outer s H vs Q E hr h => ?_)
  · obtain ⟨l, N, ts, rfl, hT3, ho, hN5, hm, q⟩ := h
    first | rfl | (rcases h with ⟨_, _, rfl, _⟩ | ⟨_, rfl, _⟩ <;> rfl)
  obtain ⟨l, N, ts, rfl, hT3, ho, hN5, hm, q⟩ := h
  refine ⟨_, (pss_cons (ps_asg (pe_tup (pa_cons pe_dnewT (pa_cons (pe_lst pa_nil) pa_nil))) (pg_tup rfl (pgs_cons (pg_name (i := 2) sc_law_bubbles.nd rfl (by first | exact Or.inl rfl | exact Or.inr rfl)) (pgs_cons (pg_name (i := 3) sc_law_bubbles.nd rfl (by first | exact Or.inl rfl | exact Or.inr rfl)) pgs_nil))))
  (pss_cons (ps_for PassesOwn.never rfl (pi_range1 (by rfl) B.range (pa_cons (pv 0) pa_nil)) (pg_name (i := 4) sc_law_bubbles.nd rfl (by first | exact Or.inl rfl | exact Or.inr rfl))
    (pss_one (ps_for PassesOwn.never rfl (pi_range1 (by rfl) B.range (pa_cons (pv 0) pa_nil)) (pg_name (i := 5) sc_law_bubbles.nd rfl (by first | exact Or.inl rfl | exact Or.inr rfl))
    (pss_cons (ps_set (i := 6) sc_law_bubbles.nd rfl (by first | exact Or.inl rfl | exact Or.inr rfl) (pe_call O_law_shut hr rfl m_law_shut k_law_shut b_law_shut .nil pass0 (pa_cons (pv 0) (pa_cons (pv 1) (pa_cons (pv 4) (pa_cons (pv 5) pa_nil))))))
  (pss_one (ps_if (pt_cmpR op_notN (pv 6) pe_non (nomark _))
    (pss_one (ps_dput (hu_of hr) (pv 2) (pe_tup (pa_cons (pv 4) (pa_cons (pv 5) pa_nil))) (pe_ix ix_tup (pv 6) pe_int (fun _ _ => rfl)) rfl)) pss_nil))))))
  (pss_cons (ps_for PassesOwn.never rfl (pi_list (pe_callB (cr_sortDT rfl hr.units) (by rfl) B.sorted (by decide +kernel) (pa_cons (pv 2) pa_nil))) (pg_tup rfl (pgs_cons (pg_name (i := 4) sc_law_bubbles.nd rfl (by first | exact Or.inl rfl | exact Or.inr rfl)) (pgs_cons (pg_name (i := 5) sc_law_bubbles.nd rfl (by first | exact Or.inl rfl | exact Or.inr rfl)) pgs_nil)))
    (pss_cons (ps_setLc (i := 7) (own := [("_law_place", 8)]) (g := gName 8) (by rfl) sc_law_bubbles.nd rfl rfl (sw_true rfl rfl rfl (by decide +kernel)) (pi_list (pe_dget (hu_of hr) (pv 2) (pe_tup (pa_cons (pv 4) (pa_cons (pv 5) pa_nil))) (fun _ _ => rfl))) (blkOk_by (own := [("_law_place", 8)]) (N := ["_law_places", "_law_ties_here", "_law_shut_here", "_law_found", "_law_begin", "_law_end", "_law_told", "_law_less", "_law_place", "_law_tie"]) (sc := defScope s_law_bubbles) (by decide +kernel)) (fun _ _ _ _ _ => (pg_name (i := 8) sc_law_bubbles.nd rfl (by first | exact Or.inl rfl | exact Or.inr rfl))) (fun _ _ _ _ _ => (pts_one (pt_cmpR op_ne (pv 8) (pv 5) (nomark _)))) (fun _ _ _ _ _ => (pv 8)))
  (pss_cons (ps_if (pt_cmpR op_lt (pe_callB call_len_seq (by rfl) B.len (by decide +kernel) (pa_cons (pe_lc (own := [("_law_tie", 9)]) (g := gName 9) (by rfl) sc_law_bubbles.nd (pi_list (pv 1)) (blkOk_by (own := [("_law_tie", 9)]) (N := ["_law_places", "_law_ties_here", "_law_shut_here", "_law_found", "_law_begin", "_law_end", "_law_told", "_law_less", "_law_place", "_law_tie"]) (sc := defScope s_law_bubbles) (by decide +kernel)) (fun _ _ _ _ _ => (pg_name (i := 9) sc_law_bubbles.nd rfl (by first | exact Or.inl rfl | exact Or.inr rfl))) (fun _ _ _ _ _ => (pts_one (pt_cmpR op_eq (pe_ix (ix_tupK (K := K) rfl) (pv 9) pe_int (by exact fun _ _ => rfl)) (pv 4) (nomark _)))) (fun _ _ _ _ _ => (pv 9))) pa_nil)) pe_int (nomark _))
    (pss_one ps_continue) pss_nil)
  (pss_one (ps_if (pt_not (pt_val (pe_callB (cr_any rfl) (by rfl) B.any (by decide +kernel) (pa_cons (pe_lc (own := [("_law_place", 8)]) (g := gName 8) (by rfl) sc_law_bubbles.nd (pi_list (pv 7)) (blkOk_by (own := [("_law_place", 8)]) (N := ["_law_places", "_law_ties_here", "_law_shut_here", "_law_found", "_law_begin", "_law_end", "_law_told", "_law_less", "_law_place", "_law_tie"]) (sc := defScope s_law_bubbles) (by decide +kernel)) (fun _ _ _ _ _ => (pg_name (i := 8) sc_law_bubbles.nd rfl (by first | exact Or.inl rfl | exact Or.inr rfl))) (fun _ _ _ _ _ => pts_nil) (fun _ _ _ _ _ => (pe_cmp (pc_din (hu_of hr) (pe_tup (pa_cons (pv 4) (pa_cons (pv 8) pa_nil))) (pv 2)) rfl))) pa_nil))))
    (pss_one (ps_expr (pe_bm PySem.F.plainAttrs_list PySem.F.slot_list_append PySem.F.type_list_append mt_append (pv 3) (pa_cons (pe_tup (pa_cons (pv 4) (pa_cons (pv 5) (pa_cons (pe_dget (hu_of hr) (pv 2) (pe_tup (pa_cons (pv 4) (pa_cons (pv 5) pa_nil))) (fun _ _ => rfl)) pa_nil)))) pa_nil)))) pss_nil)))))
  (pss_one (ps_ret (pv 3)))))), ?_⟩
  have hf : FarOk N ts := fun t h => (far_lt ho h).2
  refine fun D nD => ⟨Nat.zero_le _, fun due ndue => ⟨(by show 2 ≤ sizeLine; decide), fun tp ntp => ?_⟩⟩
  have S36 : Same H (upd (upd (upd H D (.dT [])) due (.lst [])) tp (.tup [V.ref D, V.ref due])) := ((same_new nD (.dT [])).trans (same_new ndue (.lst []))).trans (same_new ntp _)
  have nD3 : H D = none := nD
  have ndue3 : H due = none := (same_new nD (.dT [])).free ndue
  have hdD : D ≠ due := ne_of_none upd_same ndue
  have eD : upd (upd (upd H D (.dT [])) due (.lst [])) tp (.tup [V.ref D, V.ref due]) D = some (.dT []) := same_new ntp _ _ _ (same_new ndue _ _ _ upd_same)
  have edue : upd (upd (upd H D (.dT [])) due (.lst [])) tp (.tup [V.ref D, V.ref due]) due = some (.lst []) := same_new ntp _ _ _ upd_same
  have etp : upd (upd (upd H D (.dT [])) due (.lst [])) tp (.tup [V.ref D, V.ref due]) tp = some (.tup [V.ref D, V.ref due]) := upd_same
  generalize upd (upd (upd H D (.dT [])) due (.lst [])) tp (.tup [V.ref D, V.ref due]) = H6 at S36 eD edue etp ⊢
  refine ⟨tp, _, rfl, SqT.of etp, rfl, _, _, rfl, _, _, rfl, rfl, ?_⟩
  have hNN : (N : Int).toNat = N := by omega
  refine ⟨_, rfl, _, rfl, by omega, by omega, ?_⟩
  refine for_range (lo := 0) (n := (N : Int).toNat) (fun i σ H' => Same H H' ∧ H' due = some (.lst []) ∧ DpA H H' D N ts (shP N ts i) ∧ ∃ v6 v7 v8 : Option V, σ = [some (.int (N : Int)), some (.ref l), some (.ref D), some (.ref due), v6, v7, v8, none, none, none]) ⟨S36, edue, ⟨[], eD, rfl, fun q hq => nomatch hq⟩, none, none, none, rfl⟩ ?_ ?_
  · rintro i σ H7 hi ⟨S7, hdue7, hD7, v6, v7, v8, rfl⟩
    rw [hNN] at hi
    refine ⟨_, rfl, _, rfl, by omega, by omega, ?_⟩
    refine for_range (lo := 0) (n := (N : Int).toNat) (fun j σ H' => Same H H' ∧ H' due = some (.lst []) ∧ DpA H H' D N ts (shP N ts i ++ (endsS N ts i j).map fun e => (i, e)) ∧ ∃ v7 v8 : Option V, σ = [some (.int (N : Int)), some (.ref l), some (.ref D), some (.ref due), some (.int (0 + (i : Int))), v7, v8, none, none, none]) ⟨S7, hdue7, by show DpA _ _ _ _ _ (_ ++ []); rw [List.append_nil]; exact hD7, _, _, rfl⟩ ?_ ?_
    · rintro j σ H8 hj ⟨S8, hdue8, hD8, v7, v8, rfl⟩
      rw [hNN] at hj
      rw [Int.zero_add, Int.zero_add]
      have hTend : ∀ {H' : Hp}, Same H H' → TiesAt H' l ts := fun s => hT3.same s
      refine ⟨_, rfl, _, rfl, _, rfl, _, rfl, l, N, ts, i, j, rfl, hT3.same S8, ho, hN5, hm, hi, hj, fun hns H9 S9 => ?_, fun L hL Sh hbe H9 t lp ip S9 ht9 nlp9 hlp9 => ?_⟩
      · refine ⟨_, rfl, rfl, _, rfl, iteNot' rfl ⟨S8.trans S9, S9 _ _ hdue8, ?_, _, _, rfl⟩⟩
        rw [endsS_succ, if_neg (fun z => hns (bdec_iff.mp z)), List.append_nil]
        exact hD8.same S9
      · refine ⟨_, rfl, rfl, _, rfl, iteNot (fun z => nomatch z) ?_⟩
        have S39 := S8.trans S9
        obtain ⟨kvs, k1, k2, k3⟩ := hD8.same S9
        have hpl := shP_len (N := N) (ts := ts) (n := i)
        have hel : (endsS N ts i j).length ≤ j := by
          unfold endsS
          have := List.length_filter_le (fun e => bdec (ShutP N ts i e)) (List.range j)
          rwa [List.length_range] at this
        have hkl : kvs.length ≤ 100 := by
          have := congrArg List.length k2
          rw [List.length_map, List.length_map, List.length_append, List.length_map] at this
          have h25 : i * N ≤ 5 * 5 := Nat.mul_le_mul (by omega) (by omega)
          omega
        refine ⟨_, rfl, _, _, _, .ref lp, rfl, rfl, SqT.of ht9, atI_nat (j := 0) rfl, _, rfl, _, rfl, _, rfl, (by show 2 ≤ sizeLine; decide), fun kp nkp => ?_⟩
        have S10 := same_new nkp (.tup [V.int (i : Int), V.int (j : Int)])
        have ekp : upd H9 kp (.tup [V.int (i : Int), V.int (j : Int)]) kp = some (.tup ((keyP (i, j)).map kV)) := upd_same
        have k1' := S10 _ _ k1
        have hlp10 := S10 _ _ hlp9
        have hdue10 := S10 _ _ (S9 _ _ hdue8)
        have S310 := S39.trans S10
        have k3' : ∀ q ∈ shP N ts i ++ (endsS N ts i j).map (fun e => (i, e)), ∃ (lp : Addr) (L : List Nat), valV kvs (keyP q) = some (.ref lp) ∧ upd H9 kp (.tup [V.int (i : Int), V.int (j : Int)]) lp = some (.lst (iv L)) ∧ L ∈ lotsN q.1 q.2 N ∧ Shut ts L q.1 q.2 ∧ q.1 ≠ q.2 ∧ H lp = none := fun q hq => by
          obtain ⟨y, M, c1, c2, c3⟩ := k3 q hq
          exact ⟨y, M, c1, S10 _ _ c2, c3⟩
        generalize upd H9 kp (.tup [V.int (i : Int), V.int (j : Int)]) = H10 at ekp k1' hlp10 hdue10 S310 k3' ⊢
        refine ⟨D, _, rfl, DPut.t k1' ekp (Nat.lt_of_le_of_lt hkl (line200 (by omega))), ?_⟩
        have hnew : (i, j) ∉ shP N ts i ++ (endsS N ts i j).map (fun e => (i, e)) := fun z => by
          rcases List.mem_append.mp z with z | z
          · have := (shP_mem.mp z).1
            exact absurd this (Nat.lt_irrefl _)
          · obtain ⟨e, he, ee⟩ := List.mem_map.mp z
            have : e = j := congrArg Prod.snd ee
            have h2 := (endsS_mem.mp he).1
            omega
        have hDn := DpA.put k1' k2 k3' hnew hlp10 hL Sh hbe (S8.free nlp9)
        have S311 : Same H (upd H10 D (.dT (putK kvs (keyP (i, j)) (.ref lp)))) := same_upd S310 nD3
        have hdue11 : upd H10 D (.dT (putK kvs (keyP (i, j)) (.ref lp))) due = some (.lst []) := by rw [upd_ne hdD.symm]; exact hdue10
        generalize upd H10 D (.dT (putK kvs (keyP (i, j)) (.ref lp))) = H11 at hDn S311 hdue11 ⊢
        refine ⟨S311, hdue11, ?_, _, _, rfl⟩
        rw [endsS_succ, if_pos (bdec_iff.mpr ⟨hbe, L, hL, Sh⟩), List.map_append, ← List.append_assoc]
        exact hDn
    · rintro σ H8 ⟨S8, hdue8, hD8, v7, v8, rfl⟩
      rw [hNN] at hD8
      exact ⟨S8, hdue8, by rw [shP_succ]; exact hD8, _, _, _, rfl⟩
  rintro σ H7 ⟨S7, hdue7, hD7, v6, v7, v8, rfl⟩
  rw [hNN] at hD7
  have hwl : (shP N ts N).length ≤ 25 := Nat.le_trans shP_len (Nat.le_trans (Nat.mul_le_mul (by omega) (by omega)) (show 5 * 5 ≤ 25 by decide))
  obtain ⟨kvs, k1, k2, k3⟩ := hD7
  refine ⟨_, rfl, D, kvs, shP N ts N, rfl, k1, k2, by omega, fun zs sl hz nsl => ?_⟩
  rw [sortPr_lex shP_lex] at hz
  have S8 := same_new nsl (.lst (zs.map V.ref))
  have esl : upd H7 sl (.lst (zs.map V.ref)) sl = some (.lst (zs.map V.ref)) := upd_same
  have hzl := paired_len hz
  have hz8 : Paired (fun (z : Addr) (q : Nat × Nat) => upd H7 sl (.lst (zs.map V.ref)) z = some (.tup [.int (q.1 : Int), .int (q.2 : Int)])) zs (shP N ts N) := paired_mono (fun z q h => S8 _ _ h) hz
  have S38 := S7.trans S8
  have hdue8 := S8 _ _ hdue7
  have k18 := S8 _ _ k1
  have k38 : ∀ q ∈ shP N ts N, ∃ (lp : Addr) (L : List Nat), valV kvs (keyP q) = some (.ref lp) ∧ upd H7 sl (.lst (zs.map V.ref)) lp = some (.lst (iv L)) ∧ L ∈ lotsN q.1 q.2 N ∧ Shut ts L q.1 q.2 ∧ q.1 ≠ q.2 ∧ H lp = none := fun q hq => by
    obtain ⟨y, M, c1, c2, c3⟩ := k3 q hq
    exact ⟨y, M, c1, S8 _ _ c2, c3⟩
  generalize upd H7 sl (.lst (zs.map V.ref)) = H8 at esl hz8 S38 hdue8 k18 k38 ⊢
  have hsd : sl ≠ due := fun z => by
    rw [z, hdue7] at nsl
    cases nsl
  refine ⟨sl, rfl, ⟨_, SqL.of esl⟩, ?_⟩
  refine for_list (K := K) (a := sl) (xs := zs.map V.ref) (fun i σ H' => Kept due H8 H' ∧ (∃ fs : List Addr, H' due = some (.lst (fs.map V.ref)) ∧ Paired (BuD H H' H8 due N ts) fs (((shP N ts N).take i).filter fun q => bdec (BubP N ts q.1 q.2))) ∧ ∃ v4 v5 v6 v7 : Option V, σ = [some (.int (N : Int)), some (.ref l), some (.ref D), some (.ref due), v4, v5, v6, v7, none, none]) ⟨(fun _ _ z _ => z), ⟨[], hdue8, .nil⟩, _, _, _, _, rfl⟩ (fun i σ H' _ ⟨z, _⟩ => SqL.of (z _ _ esl hsd)) ?_ ?_
  · rintro i v σ H9 hv ⟨hk9, ⟨fs, hfs, hF9⟩, v4, v5, v6, v7, rfl⟩
    obtain ⟨zp, hzp, rfl⟩ := ref_of hv
    obtain ⟨q0, hq0, hzq⟩ := paired_get hz8 hzp
    obtain ⟨b, e⟩ := q0
    have hqm := List.mem_of_getElem? hq0
    obtain ⟨hbN, heN, hsh⟩ := shP_mem.mp hqm
    have hbN : b < N := hbN
    have heN : e < N := heN
    have nz : ∀ {p : Addr} {o : HO}, H8 p = some o → (∀ ys, o ≠ .lst ys) → p ≠ due := fun h k z => by
      rw [z, hdue8] at h
      cases h
      exact k _ rfl
    have S39 : Same H H9 := fun y o h => hk9 _ _ (S38 _ _ h) (ne_of_none h ndue3)
    have hz9 := hk9 _ _ hzq (nz hzq (fun ys z => nomatch z))
    have hk19 := hk9 _ _ k18 (nz k18 (fun ys z => nomatch z))
    refine ⟨zp, _, rfl, SqT.of hz9, rfl, _, _, rfl, _, _, rfl, rfl, ?_⟩
    obtain ⟨lp, L, hval, hlp8, hL, Sh, hbe, hlpn⟩ := k38 _ hqm
    have hlpd : lp ≠ due := fun z => by
      rw [z, hdue8] at hlp8
      have hLb := (lots_be hL hbN heN).1
      have e2 : ([] : List V) = iv L := by injection hlp8 with h; injection h
      cases L with
      | nil => cases hLb
      | cons f r => cases e2
    have hlp9 := hk9 _ _ hlp8 hlpd
    have hLl := lots_lt hL
    refine ⟨_, rfl, _, rfl, _, rfl, (by show 2 ≤ sizeLine; decide), fun kp nkp => ?_⟩
    have S11 := same_new nkp (.tup [V.int (b : Int), V.int (e : Int)])
    have ekp : upd H9 kp (.tup [V.int (b : Int), V.int (e : Int)]) kp = some (.tup ((keyP (b, e)).map kV)) := upd_same
    generalize upd H9 kp (.tup [V.int (b : Int), V.int (e : Int)]) = H11 at S11 ekp ⊢
    refine ⟨D, .ref lp, rfl, by rw [← hval]; exact DGet.t (S11 _ _ hk19) ekp, lp, rfl, ⟨_, SqL.of (S11 _ _ hlp9)⟩, fun M2 nM2 => ?_⟩
    refine lc_list (K := K) (a := lp) (xs := iv L) (fun j H' => Same H11 H' ∧ H' M2 = some (.lst (iv ((L.take j).filter fun p => decide (p ≠ e))))) ⟨same_new nM2 _, upd_same⟩ (fun i H' _ ⟨z, _⟩ => SqL.of (z _ _ (S11 _ _ hlp9))) ?_ ?_
    · rintro j y H12 hy ⟨S12, hM12⟩
      obtain ⟨n, hn, rfl⟩ := iv_of hy
      have hlt : ((L.take j).filter fun p => decide (p ≠ e)).length ≤ 5 := by
        have := List.length_filter_le (fun p => decide (p ≠ e)) (L.take j)
        rw [List.length_take] at this
        have := hLl.2.1
        omega
      refine ⟨rfl, _, rfl, _, rfl, rfl, _, rfl, ?_⟩
      by_cases c : n = e
      · refine iteNot' (by rw [c]) ⟨S12, ?_⟩
        rw [take_one' hn, List.filter_append, List.filter_cons_of_neg (by simpa using c), List.filter_nil, List.append_nil]
        exact hM12
      · refine iteNot (fun z => c (by have := int_eq.mp z; exact Int.ofNat.inj this)) ⟨_, rfl, _, hM12, by rw [List.length_map]; exact line200 (by omega), same_upd S12 nM2, ?_⟩
        rw [upd_same, take_one' hn, List.filter_append, List.filter_cons_of_pos (by simpa using c), List.filter_nil, iv_app]
    rintro H12 ⟨S12, hM12⟩
    rw [List.length_map, List.take_length] at hM12
    have hbub := bub_lot hbN heN hL Sh hbe hf
    have htake : ((shP N ts N).take (i + 1)).filter (fun q => bdec (BubP N ts q.1 q.2)) = ((shP N ts N).take i).filter (fun q => bdec (BubP N ts q.1 q.2)) ++ if bdec (BubP N ts b e) = true then [(b, e)] else [] := by
      rw [take_one' hq0, List.filter_append]
      congr 1
      rw [List.filter_cons]
      rfl
    have S912 := S11.trans S12
    have hT12 := hT3.same (S39.trans S912)
    obtain ⟨tas, htl, hP⟩ := id hT12
    have htas := paired_len hP
    refine ⟨_, rfl, l, rfl, ⟨_, SqL.of htl⟩, fun M1 nM1 => ?_⟩
    refine lc_list (K := K) (a := l) (xs := tas.map V.ref) (fun i H' => Same H12 H' ∧ ∃ as : List Addr, H' M1 = some (.lst (as.map V.ref)) ∧ as.length = ((List.range i).filter fun t => decide (nearT ts t = b)).length) ⟨same_new nM1 _, [], upd_same, rfl⟩ (fun i H' _ ⟨z, _⟩ => SqL.of (z _ _ htl)) ?_ ?_
    · rintro i v H10 hv ⟨S10, as, hM10, hal⟩
      obtain ⟨p, hp, rfl⟩ := ref_of hv
      obtain ⟨y, hy, hpy⟩ := paired_get hP hp
      have hi := (List.getElem?_eq_some_iff.mp hy).1
      have hny : nearT ts i = y.1 := by unfold nearT; rw [hy]; rfl
      have hll := List.length_filter_le (fun t => decide (nearT ts t = b)) (List.range i)
      rw [List.length_range] at hll
      refine ⟨rfl, _, rfl, _, _, _, .int ((y.1 : Nat) : Int), rfl, rfl, SqT.of (S10 _ _ hpy), atI_nat (j := 0) rfl, _, rfl, rfl, _, rfl, ?_⟩
      rw [range_filter_succ, hny]
      by_cases c : y.1 = b
      · refine iteYes (by rw [c]) ⟨_, rfl, _, hM10, by rw [List.length_map]; exact line200 (by omega), same_upd S10 nM1, as ++ [p], by rw [upd_same, List.map_append]; rfl, ?_⟩
        rw [if_pos (decide_eq_true c), List.length_append, List.length_append, hal]
        rfl
      · refine iteNo (fun z => c (by have := int_eq.mp z; exact Int.ofNat.inj this)) ⟨S10, as, hM10, ?_⟩
        rw [if_neg (by rw [decide_eq_false c]; exact Bool.false_ne_true), List.append_nil, hal]
    rintro H10 ⟨S10, as, hM10, hal⟩
    rw [List.length_map, htas] at hal
    have hal : as.length = (outB ts b).length := hal
    have S910 := S912.trans S10
    have hk10 : Kept due H8 H10 := hk9.trans (Same.kept S910)
    have hM10' := S10 _ _ hM12
    refine ⟨M1, _, rfl, .inl (SqL.of hM10), _, _, rfl, rfl, _, rfl, ?_⟩
    by_cases h2 : (outB ts b).length < 2
    · refine iteYes (by rw [List.length_map]; omega) ⟨hk10, ⟨fs, S910 _ _ hfs, ?_⟩, _, _, _, _, rfl⟩
      rw [htake, if_neg (fun z => by have := (hbub.mp (bdec_iff.mp z)).1; omega), List.append_nil]
      exact paired_mono (fun p q h => h.same S910) hF9
    refine iteNo (by rw [List.length_map]; omega) ?_
    refine ⟨_, rfl, M2, rfl, ⟨_, SqL.of hM10'⟩, fun M3 nM3 => ?_⟩
    generalize hLF : L.filter (fun p => decide (p ≠ e)) = LF at hM10' ⊢
    have hLFl : LF.length ≤ 5 := by
      have := List.length_filter_le (fun p => decide (p ≠ e)) L
      rw [hLF] at this
      have := hLl.2.1
      omega
    refine lc_list (K := K) (a := M2) (xs := iv LF) (fun j H' => Same H10 H' ∧ H' M3 = some (.lst (((LF.take j).map fun p => decide ((b, p) ∈ shP N ts N)).map V.bl))) ⟨same_new nM3 _, upd_same⟩ (fun i H' _ ⟨z, _⟩ => SqL.of (z _ _ hM10')) ?_ ?_
    · rintro j y H13 hy ⟨S13, hM13⟩
      obtain ⟨n, hn, rfl⟩ := iv_of hy
      have hj := (List.getElem?_eq_some_iff.mp hn).1
      refine ⟨rfl, _, rfl, _, rfl, (by show 2 ≤ sizeLine; decide), fun kp2 nkp2 => ?_⟩
      have S14 := S13.trans (same_new nkp2 (.tup [V.int (b : Int), V.int (n : Int)]))
      have ekp2 : upd H13 kp2 (.tup [V.int (b : Int), V.int (n : Int)]) kp2 = some (.tup ((keyP (b, n)).map kV)) := upd_same
      have hM14 := same_new nkp2 (.tup [V.int (b : Int), V.int (n : Int)]) _ _ hM13
      generalize upd H13 kp2 (.tup [V.int (b : Int), V.int (n : Int)]) = H14 at S14 ekp2 hM14 ⊢
      refine ⟨_, rfl, D, _, rfl, DGet.t (k := keyP (b, n)) (S14 _ _ (S910 _ _ hk19)) ekp2, _, hM14, by rw [List.length_map, List.length_map, List.length_take]; exact line200 (by omega), same_upd S14 nM3, ?_⟩
      rw [upd_same, take_one' hn, List.map_append, List.map_append, DpA_some k2]
      rfl
    rintro H13 ⟨S13, hM13⟩
    rw [List.length_map, List.take_length] at hM13
    refine ⟨M3, _, rfl, SqL.of hM13, _, rfl, ?_⟩
    have hany : ((LF.map fun p => decide ((b, p) ∈ shP N ts N)).any id = true) ↔ ¬ ∀ p ∈ L, p ≠ e → ¬ ShutP N ts b p := by
      rw [List.any_map, List.any_eq_true]
      constructor
      · rintro ⟨p, hp, h⟩ k
        have h : (b, p) ∈ shP N ts N := of_decide_eq_true h
        rw [← hLF] at hp
        obtain ⟨h1, h2⟩ := List.mem_filter.mp hp
        exact k p h1 (of_decide_eq_true h2) (shP_mem.mp h).2.2
      · intro k
        refine Classical.byContradiction fun z => k fun p hp hpe hs => z ⟨p, ?_, ?_⟩
        · rw [← hLF]; exact List.mem_filter.mpr ⟨hp, decide_eq_true hpe⟩
        · exact decide_eq_true (shP_mem.mpr ⟨hbN, hLl.1 p hp, hs⟩)
    generalize (LF.map fun p => decide ((b, p) ∈ shP N ts N)).any id = g at hany ⊢
    have S913 := S910.trans S13
    have hk13 : Kept due H8 H13 := hk9.trans (Same.kept S913)
    have hfs13 := S913 _ _ hfs
    have hF13 := paired_mono (fun p q (h : BuD H H9 H8 due N ts p q) => h.same S913) hF9
    have hfl := paired_len hF13
    have hfl2 := List.length_filter_le (fun q : Nat × Nat => bdec (BubP N ts q.1 q.2)) ((shP N ts N).take i)
    rw [List.length_take] at hfl2
    rw [htake]
    cases g with
    | true =>
      have hn : ¬ BubP N ts b e := fun z => hany.mp rfl (hbub.mp z).2
      refine iteF ⟨hk13, ⟨fs, hfs13, ?_⟩, _, _, _, _, rfl⟩
      rw [if_neg (fun z => hn (bdec_iff.mp z)), List.append_nil]
      exact hF13
    | false =>
      have hy : BubP N ts b e := hbub.mpr ⟨by omega, Classical.byContradiction fun z => by have := hany.mpr z; cases this⟩
      refine iteT ⟨_, rfl, .inl ⟨rfl, _, SqL.of hfs13⟩, _, rfl, _, rfl, _, rfl, _, rfl, _, rfl, (by show 2 ≤ sizeLine; decide), fun kp3 nkp3 => ?_⟩
      have S14 := same_new nkp3 (.tup [V.int (b : Int), V.int (e : Int)])
      have ekp3 : upd H13 kp3 (.tup [V.int (b : Int), V.int (e : Int)]) kp3 = some (.tup ((keyP (b, e)).map kV)) := upd_same
      generalize upd H13 kp3 (.tup [V.int (b : Int), V.int (e : Int)]) = H14 at S14 ekp3 ⊢
      refine ⟨D, .ref lp, rfl, by rw [← hval]; exact DGet.t (S14 _ _ (S913 _ _ hk19)) ekp3, (by show 3 ≤ sizeLine; decide), fun tp2 ntp2 => ?_⟩
      have S15 := same_new ntp2 (.tup [V.int (b : Int), V.int (e : Int), V.ref lp])
      have e15 : upd H14 tp2 (.tup [V.int (b : Int), V.int (e : Int), V.ref lp]) tp2 = some (.tup [V.int (b : Int), V.int (e : Int), V.ref lp]) := upd_same
      generalize upd H14 tp2 (.tup [V.int (b : Int), V.int (e : Int), V.ref lp]) = H15 at S15 e15 ⊢
      have hfs15 := S15 _ _ (S14 _ _ hfs13)
      refine ⟨due, _, _, rfl, rfl, hfs15, by rw [List.length_map]; exact line200 (by omega), (hk13.trans (Same.kept (S14.trans S15))).trans (fun x o e1 e2 => by rw [upd_ne e2]; exact e1), ⟨fs ++ [tp2], by rw [upd_same, List.map_append]; rfl, ?_⟩, _, _, _, _, rfl⟩
      rw [if_pos (bdec_iff.mpr hy)]
      refine paired_app (paired_mono (fun p q (h : BuD H H13 H8 due N ts p q) => (h.same (S14.trans S15)).upd hfs15) hF13) ?_
      exact BuD.upd ⟨lp, L, e15, hlp8, hlpd, hL, Sh, hbe, hlpn⟩ hfs15
  rintro σ H9 ⟨hk9, ⟨fs, hfs, hF9⟩, v4, v5, v6, v7, rfl⟩
  rw [List.length_map, hzl, List.take_length, due_eq hf (Nat.le_refl N)] at hF9
  refine ⟨_, rfl, q H9 due fs (fun y o h => hk9 _ _ (S38 _ _ h) (ne_of_none h ndue3)) ndue3 hfs (paired_mono (fun p z (h : BuD H H9 H8 due N ts p z) => ?_) hF9)⟩
  obtain ⟨lp, L, a1, a2, a3, a4⟩ := h
  obtain ⟨a4, a5, a6, a7⟩ := a4
  refine ⟨⟨lp, L, a1, hk9 _ _ a2 a3, a4, a5, a6⟩, fun c xs hc => ⟨lp, L, off_ne a1 (fun y => ?_), off_ne (hk9 _ _ a2 a3) (fun y => by rw [y, hc] at a7; cases a7), a4, a5, a6⟩⟩
  have h9 : H9 c = some (.lst xs) := hk9 _ _ (S38 _ _ hc) (ne_of_none hc ndue3)
  rw [y, h9] at a1
  cases a1
end
end My
set_option maxHeartbeats 4000000
namespace My
open PySem L2 PyProof.Rows
section
variable {P : Program} {w : World} {K : PySem.W.Frag} {mg : Str → Option Value} {base : Heap} {C : Addr}
def sp_law_bubble_right (_ : PySem.W.Frag) (C : Addr) : Sp := fun vs H Q _ => ∃ (a x tp bp l : Addr) (N : Nat) (ts : List (Nat × Nat)) (b e : Nat) (Pb : List Nat), vs = [.ref a, .ref x, .ref tp, .ref bp] ∧ PotAt H a ∧ WebAt C x N ts (Off a H) ∧ Off a H tp = some (.tup [.int ((N : Nat) : Int), .ref l]) ∧ TiesAt (Off a H) l ts ∧ OkWeb N ts ∧ N ≤ 5 ∧ ts.length ≤ 10 ∧ BuAt (Off a H) N ts bp (b, e) ∧ b < N ∧ e < N ∧ searchB N ts b = some (Pb, e) ∧
  ∀ H', Kept a H H' → PotAt H' a → Q (.bl true) H'
theorem ok_law_bubble_right (D : Def K mg "_law_bubble_right" s_law_bubble_right ["_law_pot_here", "_law_web", "_law_told", "_law_bubble"]) (B : Bs mg) (Glb : Glo mg) (WK : WebK K mg C)
    (hways_through : Good P w K mg base "ways_through" sways_through ["web", "begin", "end"] 10 (spways_through K C))
    (h_law_pick : Good P w K mg base "_law_pick" s_law_pick ["_law_pot_here", "_law_some"] 2 (sp_law_pick K C))
    (h_law_walk : Good P w K mg base "_law_walk" s_law_walk ["_law_pot_here", "_law_ties_here", "_law_begin"] 3 (sp_law_walk K C))
    (his_bubble : Good P w K mg base "is_bubble" sis_bubble ["web", "begin", "end"] 8 (spis_bubble K C))
    (h_law_walk_right : Good P w K mg base "_law_walk_right" s_law_walk_right ["_law_ties_here", "_law_walk_here", "_law_begin", "_law_told"] 1 (sp_law_walk_right K C))
    (hinside : Good P w K mg base "inside" sinside ["web", "begin", "end"] 10 (spinside K C))
    (hWeb___init__ : GoodI P w K mg base C "__init__" "Web.__init__" sWeb___init__ ["self", "places", "ties"] 5 (spWeb___init__ K C)) :
    Good P w K mg base "_law_bubble_right" s_law_bubble_right ["_law_pot_here", "_law_web", "_law_told", "_law_bubble"] 11 (sp_law_bubble_right K C) := by
  refine D.good fun f fd F => ?_
  obtain ⟨fways_through, dways_through, Oways_through, mways_through, kways_through, bways_through, Fways_through⟩ := hways_through
  obtain ⟨f_law_pick, d_law_pick, O_law_pick, m_law_pick, k_law_pick, b_law_pick, F_law_pick⟩ := h_law_pick
  obtain ⟨f_law_walk, d_law_walk, O_law_walk, m_law_walk, k_law_walk, b_law_walk, F_law_walk⟩ := h_law_walk
  obtain ⟨fis_bubble, dis_bubble, Ois_bubble, mis_bubble, kis_bubble, bis_bubble, Fis_bubble⟩ := his_bubble
  obtain ⟨f_law_walk_right, d_law_walk_right, O_law_walk_right, m_law_walk_right, k_law_walk_right, b_law_walk_right, F_law_walk_right⟩ := h_law_walk_right
  obtain ⟨finside, dinside, Oinside, minside, kinside, binside, Finside⟩ := hinside
  obtain ⟨fWeb___init__, dWeb___init__, OWeb___init__, MK, bWeb___init__⟩ := hWeb___init__
  refine F.ok sc_law_bubble_right (fun vs H Q E h => ?_) (fun cdv A outer s H vs Q E hr h => ?_)
  · obtain ⟨a, x, tp, bp, l, N, ts, b, e, Pb, rfl, hp, hw, htp, hT, ho, hN5, hm, ⟨lp, L, hbp, hlp, hL, Sh, hbe⟩, hbN, heN, hsb, q⟩ := h
    first | rfl | (rcases h with ⟨_, _, rfl, _⟩ | ⟨_, rfl, _⟩ <;> rfl)
  obtain ⟨a, x, tp, bp, l, N, ts, b, e, Pb, rfl, hp, hw, htp, hT, ho, hN5, hm, ⟨lp, L, hbp, hlp, hL, Sh, hbe⟩, hbN, heN, hsb, q⟩ := h
  refine ⟨_, (pss_cons (ps_asg (pe_tup (pa_cons (pv 2) (pa_cons (pv 3) pa_nil))) (pg_tup rfl (pgs_cons (pg_tup rfl (pgs_cons (pg_name (i := 4) sc_law_bubble_right.nd rfl (by first | exact Or.inl rfl | exact Or.inr rfl)) (pgs_cons (pg_name (i := 5) sc_law_bubble_right.nd rfl (by first | exact Or.inl rfl | exact Or.inr rfl)) pgs_nil))) (pgs_cons (pg_tup rfl (pgs_cons (pg_name (i := 6) sc_law_bubble_right.nd rfl (by first | exact Or.inl rfl | exact Or.inr rfl)) (pgs_cons (pg_name (i := 7) sc_law_bubble_right.nd rfl (by first | exact Or.inl rfl | exact Or.inr rfl)) (pgs_cons (pg_name (i := 8) sc_law_bubble_right.nd rfl (by first | exact Or.inl rfl | exact Or.inr rfl)) pgs_nil)))) pgs_nil))))
  (pss_cons (ps_set (i := 9) sc_law_bubble_right.nd rfl (by first | exact Or.inl rfl | exact Or.inr rfl) (pe_call Oways_through hr rfl mways_through kways_through bways_through .nil pass0 (pa_cons (pv 1) (pa_cons (pv 6) (pa_cons (pv 7) pa_nil)))))
  (pss_cons (ps_setLc (i := 10) (own := [("_law_place", 16)]) (g := gName 16) (by rfl) sc_law_bubble_right.nd rfl rfl (sw_true rfl rfl rfl (by decide +kernel)) (pi_list (pv 8)) (blkOk_by (own := [("_law_place", 16)]) (N := ["_law_pot_here", "_law_web", "_law_told", "_law_bubble", "_law_places", "_law_ties_here", "_law_begin", "_law_end", "_law_lot", "_law_ways", "_law_between", "_law_turn", "_law_here", "_law_walk_here", "_law_near", "_law_more", "_law_place"]) (sc := defScope s_law_bubble_right) (by decide +kernel)) (fun _ _ _ _ _ => (pg_name (i := 16) sc_law_bubble_right.nd rfl (by first | exact Or.inl rfl | exact Or.inr rfl))) (fun _ _ _ _ _ => (pts_one (pt_cmpR (op_notIn_seqK (K := K) rfl) (pv 16) (pe_tup (pa_cons (pv 6) (pa_cons (pv 7) pa_nil))) (by rfl)))) (fun _ _ _ _ _ => (pv 16)))
  (pss_cons (ps_for PassesOwn.never rfl (pi_range1 (by rfl) B.range (pa_cons pe_int pa_nil)) (pg_name (i := 11) sc_law_bubble_right.nd rfl (by first | exact Or.inl rfl | exact Or.inr rfl))
    (pss_cons (ps_set (i := 12) sc_law_bubble_right.nd rfl (by first | exact Or.inl rfl | exact Or.inr rfl) (pe_call O_law_pick (hr.mono (by decide)) rfl m_law_pick k_law_pick b_law_pick .nil pass0 (pa_cons (pv 0) (pa_cons (pe_op op_cat (pe_lst (pa_cons (pv 6) pa_nil)) (pe_callTy (call_listRng rfl) (by rfl) B.list (by decide +kernel) (pa_cons (pe_callTy cr_range1 (by rfl) B.range (by decide +kernel) (pa_cons (pv 4) pa_nil)) pa_nil))) pa_nil))))
  (pss_cons (ps_set (i := 13) sc_law_bubble_right.nd rfl (by first | exact Or.inl rfl | exact Or.inr rfl) (pe_call O_law_walk (hr.mono (by decide)) rfl m_law_walk k_law_walk b_law_walk .nil pass0 (pa_cons (pv 0) (pa_cons (pv 5) (pa_cons (pv 12) pa_nil)))))
  (pss_one (ps_if (pt_not (pt_val (pe_call O_law_walk_right (hr.mono (by decide)) rfl m_law_walk_right k_law_walk_right b_law_walk_right .nil pass0 (pa_cons (pv 5) (pa_cons (pv 13) (pa_cons (pv 6) (pa_cons (pe_tup (pa_cons (pv 10) (pa_cons (pv 9) pa_nil))) pa_nil)))))))
    (pss_one (ps_ret pe_bl)) pss_nil)))))
  (pss_cons (ps_if (pt_cmpR (op_eqD hr.units) (pv 10) (pe_lst pa_nil) (nomark _))
    (pss_one (ps_ret (pe_cmpR (op_eqD hr.units) (pe_call Oinside hr rfl minside kinside binside .nil pass0 (pa_cons (pv 1) (pa_cons (pv 6) (pa_cons (pv 7) pa_nil)))) (pv 8) (nomark _)))) pss_nil)
  (pss_cons (ps_set (i := 14) sc_law_bubble_right.nd rfl (by first | exact Or.inl rfl | exact Or.inr rfl) (pe_call O_law_pick (hr.mono (by decide)) rfl m_law_pick k_law_pick b_law_pick .nil pass0 (pa_cons (pv 0) (pa_cons (pe_op op_cat (pe_lst (pa_cons (pv 7) pa_nil)) (pe_lc (own := [("_law_place", 16)]) (g := gName 16) (by rfl) sc_law_bubble_right.nd (pi_range1 (by rfl) B.range (pa_cons (pv 4) pa_nil)) (blkOk_by (own := [("_law_place", 16)]) (N := ["_law_pot_here", "_law_web", "_law_told", "_law_bubble", "_law_places", "_law_ties_here", "_law_begin", "_law_end", "_law_lot", "_law_ways", "_law_between", "_law_turn", "_law_here", "_law_walk_here", "_law_near", "_law_more", "_law_place"]) (sc := defScope s_law_bubble_right) (by decide +kernel)) (fun _ _ _ _ _ => (pg_name (i := 16) sc_law_bubble_right.nd rfl (by first | exact Or.inl rfl | exact Or.inr rfl))) (fun _ _ _ _ _ => (pts_one (pt_cmpR (op_notIn_seqK (K := K) rfl) (pv 16) (pv 8) (by rfl)))) (fun _ _ _ _ _ => (pv 16)))) pa_nil))))
  (pss_cons (ps_set (i := 15) sc_law_bubble_right.nd rfl (by first | exact Or.inl rfl | exact Or.inr rfl) (pe_op op_cat (pv 5) (pe_lst (pa_cons (pe_tup (pa_cons (pv 14) (pa_cons (pe_call O_law_pick (hr.mono (by decide)) rfl m_law_pick k_law_pick b_law_pick .nil pass0 (pa_cons (pv 0) (pa_cons (pv 10) pa_nil))) pa_nil))) pa_nil))))
  (pss_one (ps_ret (pe_cmpR op_isBl (pe_call Ois_bubble (hr.mono (by decide)) rfl mis_bubble kis_bubble bis_bubble .nil pass0 (pa_cons (pe_make MK OWeb___init__ (hr.mono (by decide)) rfl WK.mgC bWeb___init__ .nil pass0 (pa_cons (pv 4) (pa_cons (pv 15) pa_nil))) (pa_cons (pv 6) (pa_cons (pv 7) pa_nil)))) pe_bl (nomark _))))))))))), ?_⟩
  have hL : L ∈ lotsN b e N := hL
  have Sh : Shut ts L b e := Sh
  have hbe : b ≠ e := hbe
  have Bb := search_bub (fun t h => (far_lt ho h).2) hbN hsb
  have hLI := Bb.the_lot hL Sh
  have hLl := lots_lt hL
  obtain ⟨hbL, heL⟩ := lots_be hL hbN heN
  have hla : l ≠ a := by obtain ⟨_, g, _⟩ := hT; exact off_is g
  have S0 := off_same a H
  refine ⟨_, rfl, _, rfl, (by show 2 ≤ sizeLine; decide), fun t0 nt0 => ?_⟩
  have S1 : Same H (upd H t0 (.tup [V.ref tp, V.ref bp])) := same_new nt0 _
  have e1 : upd H t0 (.tup [V.ref tp, V.ref bp]) t0 = some (.tup [V.ref tp, V.ref bp]) := upd_same
  generalize upd H t0 (.tup [V.ref tp, V.ref bp]) = H1 at S1 e1 ⊢
  refine ⟨t0, _, rfl, SqT.of e1, rfl, _, _, rfl, tp, _, rfl, SqT.of (S1 _ _ (S0 _ _ htp)), rfl, _, _, rfl, _, _, rfl, rfl, _, _, rfl, bp, _, rfl, SqT.of (S1 _ _ (S0 _ _ hbp)), rfl, _, _, rfl, _, _, rfl, _, _, rfl, rfl, rfl, ?_⟩
  have SO1 : Same (Off a H) H1 := fun y o h => S1 _ _ (S0 _ _ h)
  have hp1 := hp.same S1
  refine ⟨_, rfl, _, rfl, _, rfl, x, N, ts, b, e, Pb, rfl, hw.same SO1, ho, hm, hN5, hbN, hsb, fun H2 yl as S2 nyl has hyl hLW => ?_⟩
  have SO2 : Same (Off a H) H2 := fun y o h => S2 _ _ (SO1 _ _ h)
  have hp2 := hp1.same S2
  have hyla : yl ≠ a := hp1.ne nyl
  have hasa : ∀ p ∈ as, p ≠ a := fun p h => hp1.ne (has p h)
  refine ⟨_, rfl, lp, rfl, ⟨_, SqL.of (SO2 _ _ hlp)⟩, fun bl nbl => ?_⟩
  have hbla : bl ≠ a := hp2.ne nbl
  refine lc_list (K := K) (a := lp) (xs := iv L) (fun j H' => Same H2 H' ∧ H' bl = some (.lst (iv ((L.take j).filter fun p => decide (p ∉ [b, e]))))) ⟨same_new nbl _, upd_same⟩ (fun i H' _ ⟨z, _⟩ => SqL.of (z _ _ (SO2 _ _ hlp))) ?_ ?_
  · rintro j y H3 hy ⟨S3, hb3⟩
    obtain ⟨n, hn, rfl⟩ := iv_of hy
    have hlt : ((L.take j).filter fun p => decide (p ∉ [b, e])).length ≤ 5 := by
      have := List.length_filter_le (fun p => decide (p ∉ [b, e])) (L.take j)
      rw [List.length_take] at this
      have := hLl.2.1
      omega
    refine ⟨rfl, _, rfl, _, rfl, _, rfl, (by show 2 ≤ sizeLine; decide), fun tq ntq => ?_⟩
    have S4 := S3.trans (same_new ntq (.tup (iv [b, e])))
    have e4 : upd H3 tq (.tup (iv [b, e])) tq = some (.tup (iv [b, e])) := upd_same
    have hb4 := same_new ntq (.tup (iv [b, e])) _ _ hb3
    refine ⟨tq, iv [b, e], rfl, .inr (SqT.of e4), rfl, flat_iv _, _, rfl, ?_⟩
    rw [notin_iv]
    by_cases c : n ∈ [b, e]
    · refine iteNot' c ⟨S4, ?_⟩
      rw [take_one' hn, List.filter_append, List.filter_cons_of_neg (by rw [decide_eq_true_eq]; exact fun z => z c), List.filter_nil, List.append_nil]
      exact hb4
    · refine iteNot c ⟨_, rfl, _, hb4, by rw [List.length_map]; exact line200 (by omega), same_upd S4 nbl, ?_⟩
      rw [upd_same, take_one' hn, List.filter_append, List.filter_cons_of_pos (by rw [decide_eq_true_eq]; exact c), List.filter_nil, iv_app]
  rintro H3 ⟨S3, hb3⟩
  rw [List.length_map, List.take_length] at hb3
  generalize hBT : L.filter (fun p => decide (p ∉ [b, e])) = BT at hb3
  have hBl : BT.length ≤ 5 := by
    have := List.length_filter_le (fun p => decide (p ∉ [b, e])) L
    rw [hBT] at this
    have := hLl.2.1
    omega
  have hBm : ∀ y, y ∈ BT ↔ y ∈ Pb ∧ y ≠ b := fun y => by
    rw [← hBT, List.mem_filter, decide_eq_true_eq, hLI, inside_mem Bb]
    simp only [List.mem_cons, List.not_mem_nil, or_false, not_or]
    exact ⟨fun ⟨h1, h2, h3⟩ => ⟨h1.resolve_right h3, h2⟩, fun ⟨h1, h2⟩ => ⟨.inl h1, h2, fun z => Bb.enot (z ▸ h1)⟩⟩
  have hp3 := hp2.same S3
  have S23 := S3
  have SO3 : Same (Off a H) (Off a H3) := fun y o h => off_ne (S3 _ _ (SO2 _ _ h)) (off_is h)
  have hyl3 := off_ne (S3 _ _ hyl) hyla
  have hbl3 := off_ne hb3 hbla
  have hLW3 : LisN (Off a H3) as (sortW (waysB ts e Pb b)) := paired_mem_mono hLW fun p u h1 h2 => off_ne (S3 _ _ h2) (hasa p h1)
  have hw3 := hw.same SO3
  have hT3 := hT.same SO3
  have hlp3 := SO3 _ _ hlp
  have hkk : Kept a H H3 := fun y o h n => S3 _ _ (SO2 _ _ (off_ne h n))
  clear hw hT htp hbp hlp SO1 SO2 S1 S2 e1 nt0 hyl hLW hb3 hp1 hp2 nyl has nbl S0 S3 SO3
  have hWl : (sortW (waysB ts e Pb b)).length ≤ 400 := by
    rw [(sortW_perm _).length_eq, show (waysB ts e Pb b).length = (wW ts e Pb.length b).length by rw [Bb.ways_W]]
    exact Bb.few hN5 hm _
  refine ⟨_, rfl, by omega, by omega, ?_⟩
  refine for_range (lo := 0) (n := (3 : Int).toNat) (fun i σ H' => Same (Off a H3) H' ∧ PotAt H' a ∧ ∃ v11 v12 v13 : Option V, σ = [some (.ref a), some (.ref x), some (.ref tp), some (.ref bp), some (.int (N : Int)), some (.ref l), some (.int (b : Int)), some (.int (e : Int)), some (.ref lp), some (.ref yl), some (.ref bl), v11, v12, v13, none, none, none]) ⟨off_same a H3, hp3, _, _, _, rfl⟩ ?_ ?_
  · rintro i σ H4 hi ⟨S4, hp4, v11, v12, v13, rfl⟩
    refine ⟨_, rfl, _, rfl, (by show 1 ≤ sizeLine; decide), fun p1 np1 => ⟨_, rfl, _, rfl, fun rp nrp => ?_⟩⟩
    have T1 := same_new np1 (.lst [V.int (b : Int)])
    have f1 : upd H4 p1 (.lst [V.int (b : Int)]) p1 = some (.lst [V.int (b : Int)]) := upd_same
    generalize upd H4 p1 (.lst [V.int (b : Int)]) = H5 at T1 f1 nrp ⊢
    have T2 := T1.trans (same_new nrp (.rng 0 (N : Int)))
    have f2 := same_new nrp (.rng 0 (N : Int)) _ _ f1
    have r2 : upd H5 rp (.rng 0 (N : Int)) rp = some (.rng 0 (N : Int)) := upd_same
    generalize upd H5 rp (.rng 0 (N : Int)) = H6 at T2 f2 r2 ⊢
    refine ⟨rp, N, rfl, r2, by omega, fun q1 nq1 => ?_⟩
    have T3 := T2.trans (same_new nq1 (.lst ((List.range N).map fun i : Nat => V.int (i : Int))))
    have f3 := same_new nq1 (.lst ((List.range N).map fun i : Nat => V.int (i : Int))) _ _ f2
    have r3 : upd H6 q1 (.lst ((List.range N).map fun i : Nat => V.int (i : Int))) q1 = some (.lst (iv (List.range N))) := upd_same
    generalize upd H6 q1 (.lst ((List.range N).map fun i : Nat => V.int (i : Int))) = H7 at T3 f3 r3 ⊢
    refine ⟨p1, q1, _, _, rfl, rfl, f3, r3, by rw [List.length_map, List.length_range]; exact Nat.le_of_lt (line200 (by show 1 + N ≤ 200; omega)), fun p3 np3 => ?_⟩
    have T4 := T3.trans (same_new np3 (.lst ([V.int (b : Int)] ++ iv (List.range N))))
    have f4 : upd H7 p3 (.lst ([V.int (b : Int)] ++ iv (List.range N))) p3 = some (.lst (iv (b :: List.range N))) := upd_same
    have p3a : p3 ≠ a := (hp4.same T3).ne np3
    generalize upd H7 p3 (.lst ([V.int (b : Int)] ++ iv (List.range N))) = H8 at T4 f4 ⊢
    have hp8 := hp4.same T4
    have S8 : Same (Off a H3) H8 := fun y o h => T4 _ _ (S4 _ _ h)
    refine ⟨a, p3, _, rfl, f4, p3a, by rw [List.length_map]; exact Nat.zero_lt_succ _, by rw [List.length_map, List.length_cons, List.length_range]; omega, hp8, fun v H9 hv hk9 hp9 => ?_⟩
    obtain ⟨n, hn, rfl⟩ := List.mem_map.mp hv
    have hnN : n < N := by
      rcases List.mem_cons.mp hn with z | z
      · rw [z]; exact hbN
      · exact List.mem_range.mp z
    have S9 := off_kept S8 hk9
    refine ⟨_, rfl, _, rfl, _, rfl, a, l, N, ts, n, rfl, hp9, hT3.same S9, hla, ho, hm, hnN, fun H10 f wk hk10 hp10 nf hf hch hwk => ?_⟩
    have S10 := off_kept S9 hk10
    refine ⟨_, rfl, _, rfl, _, rfl, _, rfl, _, rfl, (by show 2 ≤ sizeLine; decide), fun tq ntq => ?_⟩
    have T5 := same_new ntq (.tup [V.ref bl, V.ref yl])
    have f5 : upd H10 tq (.tup [V.ref bl, V.ref yl]) tq = some (.tup [V.ref bl, V.ref yl]) := upd_same
    have hf5 := T5 _ _ hf
    have S11 : Same (Off a H3) (upd H10 tq (.tup [V.ref bl, V.ref yl])) := fun y o h => T5 _ _ (S10 _ _ h)
    have hp11 := hp10.same T5
    generalize upd H10 tq (.tup [V.ref bl, V.ref yl]) = H11 at T5 f5 hf5 S11 hp11 ⊢
    refine ⟨l, f, tq, bl, yl, N, ts, b, e, n, Pb, wk, BT, sortW (waysB ts e Pb b), as, rfl, hT3.same S11, hf5, f5, S11 _ _ hbl3, S11 _ _ hyl3, hLW3.same S11, Bb, hBm, fun v => sortW_mem, hch, hwk, hWl, hBl, fun H12 S12 => ⟨_, rfl, iteF ⟨fun y o h => S12 _ _ (S11 _ _ h), hp11.same S12, _, _, _, rfl⟩⟩⟩
  rintro σ H4 ⟨S4, hp4, v11, v12, v13, rfl⟩
  refine ⟨_, rfl, Nat.zero_le _, fun e0 ne0 => ?_⟩
  have T1 := same_new ne0 (.lst [])
  have ee0 : upd H4 e0 (.lst []) e0 = some (.lst (iv [])) := upd_same
  have S5 : Same (Off a H3) (upd H4 e0 (.lst [])) := fun y o h => T1 _ _ (S4 _ _ h)
  have hp5 := hp4.same T1
  generalize upd H4 e0 (.lst []) = H5 at T1 ee0 S5 hp5 ⊢
  have hkH : ∀ {H' : Hp}, Same (Off a H3) H' → Kept a H H' := fun s y o h n => s _ _ (off_ne (hkk _ _ h n) n)
  refine ⟨_, _, dp_iv (S5 _ _ hbl3), dp_iv ee0, shaped_iz _, shaped_iz _, ?_⟩
  rw [eqD_empty]
  refine ⟨_, rfl, ?_⟩
  by_cases hB0 : BT = []
  · refine iteYes hB0 ⟨_, rfl, _, rfl, _, rfl, x, N, ts, b, e, Pb, rfl, hw3.same S5, ho, by omega, by omega, hbN, hsb, fun H6 p S6 np hp6 => ⟨_, rfl, _, _, dp_iv hp6, dp_iv (S6 _ _ (S5 _ _ hlp3)), shaped_iz _, shaped_iz _, ?_⟩⟩
    rw [eqv_izl, hLI, decide_eq_true rfl]
    exact q _ (hkH fun y o h => S6 _ _ (S5 _ _ h)) (hp5.same S6)
  refine iteNo hB0 ?_
  refine ⟨_, rfl, _, rfl, (by show 1 ≤ sizeLine; decide), fun p1 np1 => ⟨_, rfl, _, rfl, by omega, by omega, fun D nD => ?_⟩⟩
  have U1 := same_new np1 (.lst [V.int (e : Int)])
  have f1 : upd H5 p1 (.lst [V.int (e : Int)]) p1 = some (.lst [V.int (e : Int)]) := upd_same
  have hp6 := hp5.same U1
  have S6 : Same (Off a H3) (upd H5 p1 (.lst [V.int (e : Int)])) := fun y o h => U1 _ _ (S5 _ _ h)
  generalize upd H5 p1 (.lst [V.int (e : Int)]) = H6 at U1 f1 hp6 S6 nD ⊢
  have hNN : (N : Int).toNat = N := by omega
  refine lc_range (lo := 0) (n := (N : Int).toNat) (fun j H' => Same H6 H' ∧ H' D = some (.lst (iv ((List.range j).filter fun p => decide (p ∉ L))))) ⟨same_new nD _, upd_same⟩ ?_ ?_
  · rintro j H7 hj ⟨S7, hD7⟩
    rw [hNN] at hj
    rw [Int.zero_add]
    have hfl := List.length_filter_le (fun p => decide (p ∉ L)) (List.range j)
    rw [List.length_range] at hfl
    refine ⟨rfl, _, rfl, _, rfl, lp, iv L, rfl, .inl (SqL.of (S7 _ _ (S6 _ _ hlp3))), rfl, flat_iv L, _, rfl, ?_⟩
    rw [notin_iv, range_filter_succ]
    by_cases c : j ∈ L
    · refine iteNot' c ⟨S7, ?_⟩
      rw [if_neg (by rw [decide_eq_true_eq]; exact fun z => z c), List.append_nil]
      exact hD7
    · refine iteNot c ⟨_, rfl, _, hD7, by rw [List.length_map]; exact line200 (by omega), same_upd S7 nD, ?_⟩
      rw [upd_same, if_pos (decide_eq_true c), iv_app]
  rintro H7 ⟨S7, hD7⟩
  rw [hNN] at hD7
  have hol := List.length_filter_le (fun p => decide (p ∉ L)) (List.range N)
  rw [List.length_range] at hol
  refine ⟨p1, D, _, _, rfl, rfl, S7 _ _ f1, hD7, by rw [List.length_map]; exact Nat.le_of_lt (line200 (by show 1 + ((List.range N).filter fun p => decide (p ∉ L)).length ≤ 200; omega)), fun p3 np3 => ?_⟩
  have U2 := S7.trans (same_new np3 (.lst ([V.int (e : Int)] ++ iv ((List.range N).filter fun p => decide (p ∉ L)))))
  have f2 : upd H7 p3 (.lst ([V.int (e : Int)] ++ iv ((List.range N).filter fun p => decide (p ∉ L)))) p3 = some (.lst (iv (e :: (List.range N).filter fun p => decide (p ∉ L)))) := upd_same
  have p3a : p3 ≠ a := (hp6.same S7).ne np3
  generalize upd H7 p3 (.lst ([V.int (e : Int)] ++ iv ((List.range N).filter fun p => decide (p ∉ L)))) = H8 at U2 f2 ⊢
  have hp8 := hp6.same U2
  have S8 : Same (Off a H3) H8 := fun y o h => U2 _ _ (S6 _ _ h)
  refine ⟨a, p3, _, rfl, f2, p3a, by rw [List.length_map]; exact Nat.zero_lt_succ _, by rw [List.length_map, List.length_cons]; omega, hp8, fun v H9 hv hk9 hp9 => ?_⟩
  obtain ⟨near, hnear, rfl⟩ := List.mem_map.mp hv
  have hnN : near < N ∧ (near ∉ L ∨ near = e) := by
    rcases List.mem_cons.mp hnear with z | z
    · exact ⟨by rw [z]; exact heN, .inr z⟩
    · obtain ⟨h1, h2⟩ := List.mem_filter.mp z
      exact ⟨List.mem_range.mp h1, .inl (of_decide_eq_true h2)⟩
  have S9 := off_kept S8 hk9
  refine ⟨_, rfl, _, rfl, _, rfl, _, rfl, a, bl, _, rfl, S9 _ _ hbl3, off_is hbl3, by rw [List.length_map]; exact List.length_pos_iff.mpr hB0, by rw [List.length_map]; omega, hp9, fun v H10 hv hk10 hp10 => ⟨(by show 2 ≤ sizeLine; decide), fun tq ntq => ⟨(by show 1 ≤ sizeLine; decide), fun p4 np4 => ?_⟩⟩⟩
  obtain ⟨m, hm', rfl⟩ := List.mem_map.mp hv
  obtain ⟨hmP, hmb⟩ := (hBm m).mp hm'
  have hmL : m ∈ L := by rw [hLI]; exact (inside_mem Bb).mpr (.inl hmP)
  have hmN := hLl.1 m hmL
  have S10 := off_kept S9 hk10
  have hT10 := hT3.same S10
  have V1 := same_new ntq (.tup [V.int (near : Int), V.int (m : Int)])
  have g1 : upd H10 tq (.tup [V.int (near : Int), V.int (m : Int)]) tq = some (.tup [V.int (near : Int), V.int (m : Int)]) := upd_same
  have S11 : Same (Off a H3) (upd H10 tq (.tup [V.int (near : Int), V.int (m : Int)])) := fun y o h => V1 _ _ (S10 _ _ h)
  have hp11 := hp10.same V1
  generalize upd H10 tq (.tup [V.int (near : Int), V.int (m : Int)]) = H11 at V1 g1 S11 hp11 np4 ⊢
  have V2 := same_new np4 (.lst [V.ref tq])
  have g2 : upd H11 p4 (.lst [V.ref tq]) p4 = some (.lst [V.ref tq]) := upd_same
  have hTm : TiesAt (upd H11 p4 (.lst [V.ref tq])) p4 [(near, m)] := ⟨[tq], upd_same, .cons (V2 _ _ g1) .nil⟩
  have S12 : Same (Off a H3) (upd H11 p4 (.lst [V.ref tq])) := fun y o h => V2 _ _ (S11 _ _ h)
  have hp12 := hp11.same V2
  generalize upd H11 p4 (.lst [V.ref tq]) = H12 at V2 g2 hTm S12 hp12 ⊢
  obtain ⟨tas, k1, k2⟩ := hT3.same S12
  have ktl := paired_len k2
  refine ⟨l, p4, _, _, rfl, rfl, k1, g2, by rw [List.length_map]; exact Nat.le_of_lt (line200 (by show tas.length + 1 ≤ 200; omega)), fun p5 np5 => ?_⟩
  have W1 := same_new np5 (.lst (tas.map V.ref ++ [V.ref tq]))
  have hTT : TiesAt (upd H12 p5 (.lst (tas.map V.ref ++ [V.ref tq]))) p5 (ts ++ [(near, m)]) := ⟨tas ++ [tq], by rw [upd_same, List.map_append]; rfl, paired_app (paired_mono (fun p z h => W1 _ _ h) k2) (W1 _ _ (V2 _ _ g1))⟩
  have S13 : Same (Off a H3) (upd H12 p5 (.lst (tas.map V.ref ++ [V.ref tq]))) := fun y o h => W1 _ _ (S12 _ _ h)
  have hp13 := hp12.same W1
  generalize upd H12 p5 (.lst (tas.map V.ref ++ [V.ref tq])) = H13 at W1 hTT S13 hp13 ⊢
  have ho2 : OkWeb N (ts ++ [(near, m)]) := ⟨ho.n0, ho.n1, by rw [List.length_append]; show ts.length + 1 ≤ 80; omega, fun z hz => by
    rcases List.mem_append.mp hz with y | y
    · exact ho.ok z y
    · rw [List.mem_singleton.mp y]; exact ⟨hnN.1, hmN⟩⟩
  refine ⟨_, rfl, _, rfl, fun x2 dx nx ndx ndxx => ?_⟩
  have X1 : Same H13 (upd (upd H13 dx (.own x2)) x2 (.ins C dx [])) := fun y o h => by
    rw [upd_ne (ne_of_none h nx), upd_ne (ne_of_none h ndx)]
    exact h
  refine ⟨x2, dx, N, p5, ts ++ [(near, m)], rfl, ho2, (hTT.same X1).s, upd_same, fun H14 hk14 hw14 => ⟨rfl, ?_⟩⟩
  have X2 : Same H13 H14 := fun y o h => hk14 _ _ (X1 _ _ h) (ne_of_none h nx)
  have hw14 := hw14.same Sub.same
  refine ⟨_, rfl, _, rfl, x2, N, ts ++ [(near, m)], b, e, rfl, hw14, ho2, hbN, heN, fun H15 v S15 hv => ?_⟩
  have ev : v = false := by
    cases v with
    | false => rfl
    | true => exact absurd (bub_shut (hv.mp rfl)) (more_unshut (L' := L) hbN heN hL Sh hnN.2 hmL hmb)
  subst ev
  exact ⟨false, false, rfl, rfl, q _ (hkH fun y o h => S15 _ _ (X2 _ _ (S13 _ _ h))) ((hp13.same X2).same S15)⟩
end
end My
/-! slices of tuples within a comprehension -/
namespace My
open PySem PySem.Spec PyProof.Rows L2
theorem sl_tupK {X : Cx} {K : PySem.W.Frag} (h : X.K = K) : SlR X (rSlT K) := h ▸ sl_tup
end My
set_option maxHeartbeats 4000000
namespace My
open PySem L2 PyProof.Rows
theorem BuAt.same {H H' : Hp} {N : Nat} {ts : List (Nat × Nat)} {p : Addr} {q : Nat × Nat} (h : BuAt H N ts p q) (s : Same H H') : BuAt H' N ts p q := by
  obtain ⟨lp, L, a, b, c⟩ := h
  exact ⟨lp, L, s _ _ a, s _ _ b, c⟩
section
variable {P : Program} {w : World} {K : PySem.W.Frag} {mg : Str → Option Value} {base : Heap} {C : Addr}
def sp_law_right (_ : PySem.W.Frag) (C : Addr) : Sp := fun vs H Q _ => ∃ a, vs = [.ref a] ∧ PotAt H a ∧ ∀ H', Q (.bl true) H'
theorem ok_law_right (D : Def K mg "_law_right" s_law_right ["_law_pot_here"]) (B : Bs mg) (Glb : Glo mg) (WK : WebK K mg C)
    (h_law_ties : Good P w K mg base "_law_ties" s_law_ties ["_law_pot_here", "_law_places"] 2 (sp_law_ties K C))
    (h_law_bubbles : Good P w K mg base "_law_bubbles" s_law_bubbles ["_law_places", "_law_ties_here"] 4 (sp_law_bubbles K C))
    (h_law_draw : Good P w K mg base "_law_draw" s_law_draw ["_law_pot_here", "_law_sides"] 1 (sp_law_draw K C))
    (hback_web : Good P w K mg base "back_web" sback_web ["web"] 7 (spback_web K C))
    (hbubbles : Good P w K mg base "bubbles" sbubbles ["web"] 10 (spbubbles K C))
    (h_law_bubble_right : Good P w K mg base "_law_bubble_right" s_law_bubble_right ["_law_pot_here", "_law_web", "_law_told", "_law_bubble"] 11 (sp_law_bubble_right K C))
    (his_shut : Good P w K mg base "is_shut" sis_shut ["web", "begin", "end"] 6 (spis_shut K C))
    (hWeb___init__ : GoodI P w K mg base C "__init__" "Web.__init__" sWeb___init__ ["self", "places", "ties"] 5 (spWeb___init__ K C)) :
    Good P w K mg base "_law_right" s_law_right ["_law_pot_here"] 12 (sp_law_right K C) := by
  refine D.good fun f fd F => ?_
  obtain ⟨f_law_ties, d_law_ties, O_law_ties, m_law_ties, k_law_ties, b_law_ties, F_law_ties⟩ := h_law_ties
  obtain ⟨f_law_bubbles, d_law_bubbles, O_law_bubbles, m_law_bubbles, k_law_bubbles, b_law_bubbles, F_law_bubbles⟩ := h_law_bubbles
  obtain ⟨f_law_draw, d_law_draw, O_law_draw, m_law_draw, k_law_draw, b_law_draw, F_law_draw⟩ := h_law_draw
  obtain ⟨fback_web, dback_web, Oback_web, mback_web, kback_web, bback_web, Fback_web⟩ := hback_web
  obtain ⟨fbubbles, dbubbles, Obubbles, mbubbles, kbubbles, bbubbles, Fbubbles⟩ := hbubbles
  obtain ⟨f_law_bubble_right, d_law_bubble_right, O_law_bubble_right, m_law_bubble_right, k_law_bubble_right, b_law_bubble_right, F_law_bubble_right⟩ := h_law_bubble_right
  obtain ⟨fis_shut, dis_shut, Ois_shut, mis_shut, kis_shut, bis_shut, Fis_shut⟩ := his_shut
  obtain ⟨fWeb___init__, dWeb___init__, OWeb___init__, MK, bWeb___init__⟩ := hWeb___init__
  refine F.ok sc_law_right (fun vs H Q E h => ?_) (fun cdv A outer s H vs Q E hr h => ?_)
  · obtain ⟨a, rfl, hp, q⟩ := h
    first | rfl | (rcases h with ⟨_, _, rfl, _⟩ | ⟨_, rfl, _⟩ <;> rfl)
  obtain ⟨a, rfl, hp, q⟩ := h
  refine ⟨_, (pss_cons (ps_set (i := 1) sc_law_right.nd rfl (by first | exact Or.inl rfl | exact Or.inr rfl) (pe_op op_add pe_int (pe_call O_law_draw (hr.mono (by decide)) rfl m_law_draw k_law_draw b_law_draw .nil pass0 (pa_cons (pv 0) (pa_cons pe_int pa_nil)))))
  (pss_cons (ps_set (i := 2) sc_law_right.nd rfl (by first | exact Or.inl rfl | exact Or.inr rfl) (pe_call O_law_ties (hr.mono (by decide)) rfl m_law_ties k_law_ties b_law_ties .nil pass0 (pa_cons (pv 0) (pa_cons (pv 1) pa_nil))))
  (pss_cons (ps_par (i := 3) (j := 4) (by rfl) sc_law_right.nd rfl rfl (by decide) rfl rfl (pa_cons (pe_make MK OWeb___init__ (hr.mono (by decide)) rfl WK.mgC bWeb___init__ .nil pass0 (pa_cons (pv 1) (pa_cons (pv 2) pa_nil))) (pa_cons (pe_call Oback_web (hr.mono (by decide)) rfl mback_web kback_web bback_web .nil pass0 (pa_cons (pe_make MK OWeb___init__ (hr.mono (by decide)) rfl WK.mgC bWeb___init__ .nil pass0 (pa_cons (pv 1) (pa_cons (pv 2) pa_nil))) pa_nil)) pa_nil)) (by rfl))
  (pss_cons (ps_set (i := 5) sc_law_right.nd rfl (by first | exact Or.inl rfl | exact Or.inr rfl) (pe_call O_law_bubbles (hr.mono (by decide)) rfl m_law_bubbles k_law_bubbles b_law_bubbles .nil pass0 (pa_cons (pv 1) (pa_cons (pv 2) pa_nil))))
  (pss_cons (ps_if (pt_cmpR (op_neD hr.units) (pe_call Obubbles (hr.mono (by decide)) rfl mbubbles kbubbles bbubbles .nil pass0 (pa_cons (pv 3) pa_nil)) (pe_lc (own := [("_law_bubble", 6)]) (g := gName 6) (by rfl) sc_law_right.nd (pi_list (pv 5)) (blkOk_by (own := [("_law_bubble", 6)]) (N := ["_law_pot_here", "_law_places", "_law_ties_here", "_law_web", "_law_back", "_law_due", "_law_bubble", "_law_begin", "_law_end"]) (sc := defScope s_law_right) (by decide +kernel)) (fun _ _ _ _ _ => (pg_name (i := 6) sc_law_right.nd rfl (by first | exact Or.inl rfl | exact Or.inr rfl))) (fun _ _ _ _ _ => pts_nil) (fun _ _ _ _ _ => (pe_slice (sl_tupK (K := K) rfl) (pv 6) po_none (po_some pe_int)))) (nomark _))
    (pss_one (ps_ret pe_bl)) pss_nil)
  (pss_cons (ps_for PassesOwn.never rfl (pi_list (pv 5)) (pg_name (i := 6) sc_law_right.nd rfl (by first | exact Or.inl rfl | exact Or.inr rfl))
    (pss_one (ps_if (pt_not (pt_val (pe_call O_law_bubble_right hr rfl m_law_bubble_right k_law_bubble_right b_law_bubble_right .nil pass0 (pa_cons (pv 0) (pa_cons (pv 3) (pa_cons (pe_tup (pa_cons (pv 1) (pa_cons (pv 2) pa_nil))) (pa_cons (pv 6) pa_nil)))))))
    (pss_one (ps_ret pe_bl)) pss_nil)))
  (pss_cons (ps_for PassesOwn.never rfl (pi_range1 (by rfl) B.range (pa_cons (pv 1) pa_nil)) (pg_name (i := 7) sc_law_right.nd rfl (by first | exact Or.inl rfl | exact Or.inr rfl))
    (pss_one (ps_for PassesOwn.never rfl (pi_range1 (by rfl) B.range (pa_cons (pv 1) pa_nil)) (pg_name (i := 8) sc_law_right.nd rfl (by first | exact Or.inl rfl | exact Or.inr rfl))
    (pss_one (ps_if (pt_cmpR op_ne (pe_callB call_repr_bl (by rfl) B.repr (by decide +kernel) (pa_cons (pe_call Ois_shut (hr.mono (by decide)) rfl mis_shut kis_shut bis_shut .nil pass0 (pa_cons (pv 3) (pa_cons (pv 7) (pa_cons (pv 8) pa_nil)))) pa_nil)) (pe_callB call_repr_bl (by rfl) B.repr (by decide +kernel) (pa_cons (pe_call Ois_shut (hr.mono (by decide)) rfl mis_shut kis_shut bis_shut .nil pass0 (pa_cons (pv 4) (pa_cons (pv 8) (pa_cons (pv 7) pa_nil)))) pa_nil)) (nomark _))
    (pss_one (ps_ret pe_bl)) pss_nil)))))
  (pss_one (ps_ret pe_bl))))))))), ?_⟩
  refine ⟨_, rfl, a, 4, rfl, hp, by decide, by decide, fun d1 H1 hd1 hk1 hp1 => ⟨_, _, rfl, rfl, ?_⟩⟩
  obtain ⟨N, eN⟩ : ∃ N, N = 2 + d1 := ⟨_, rfl⟩
  have hsv : (fun i j : Int => V.int (i + j)) 2 (d1 : Int) = V.int (N : Int) := congrArg V.int (by omega)
  rw [hsv]
  refine ⟨_, rfl, _, rfl, a, N, rfl, hp1, by omega, by omega, fun l ts H2 hm hts hk2 hp2 nl hT2 => ?_⟩
  have hla : l ≠ a := hp1.ne nl
  have ho : OkWeb N ts := ⟨by omega, by omega, by omega, hts⟩
  have hf : FarOk N ts := fun t h => (far_lt ho h).2
  have hN5 : N ≤ 5 := by omega
  refine ⟨_, rfl, _, rfl, fun x dx nx ndx ndxx => ?_⟩
  have S23 : Same H2 (upd (upd H2 dx (.own x)) x (.ins C dx [])) := fun b o e => by
    rw [upd_ne (ne_of_none e nx), upd_ne (ne_of_none e ndx)]
    exact e
  refine ⟨x, dx, N, l, ts, rfl, ho, (hT2.same S23).s, upd_same, fun H3 hk3 hw3 => ⟨rfl, ?_⟩⟩
  have S3 : Same H2 H3 := fun b o e => hk3 _ _ (S23 _ _ e) (ne_of_none e nx)
  obtain ⟨px, py, ea, _⟩ := id hp2
  have hw3 : WebAt C x N ts (Off a H3) := hw3.same (sub_off (S23 _ _ ea) (ne_of_none ea nx) (S3 _ _ ea))
  have hT3 := hT2.same S3
  have hp3 := hp2.same S3
  clear S23 S3 hk3 hT2 nx ndx ndxx
  refine ⟨_, rfl, _, rfl, fun x2 dx2 nx2 ndx2 ndxx2 => ?_⟩
  have S34 : Same H3 (upd (upd H3 dx2 (.own x2)) x2 (.ins C dx2 [])) := fun b o e => by
    rw [upd_ne (ne_of_none e nx2), upd_ne (ne_of_none e ndx2)]
    exact e
  refine ⟨x2, dx2, N, l, ts, rfl, ho, (hT3.same S34).s, upd_same, fun H5 hk5 hw5 => ⟨rfl, ?_⟩⟩
  have S5 : Same H3 H5 := fun b o e => hk5 _ _ (S34 _ _ e) (ne_of_none e nx2)
  obtain ⟨px3, py3, ea3, _⟩ := id hp3
  have hw5 := hw5.same Sub.same
  have hp5 := hp3.same S5
  have hT5 := hT3.same S5
  clear S34 hk5 nx2 ndx2 ndxx2 ea
  refine ⟨x2, N, ts, rfl, hw5, ho, fun H6 y ny S6 _ hoff => ⟨_, _, rfl, ?_⟩⟩
  have hy6 := hoff a _ (S5 _ _ ea3)
  have S36 := S5.trans S6
  have ea6 := S36 _ _ ea3
  have hw6 : WebAt C x N ts (Off a H6) := hw3.same (off_off (fun b o e => S36 _ _ (off_same a H3 _ _ e)))
  have hT6 := hT5.same S6
  have hp6 := hp5.same S6
  refine ⟨_, rfl, _, rfl, l, N, ts, rfl, hT6, ho, hN5, hm, fun H7 f fs S7 nf hf7 hF7 => ?_⟩
  have hfa : f ≠ a := hp6.ne nf
  have hT7 := hT6.same S7
  have S67 : Same (Off a H6) (Off a H7) := off_off (fun b o e => S7 _ _ (off_same a H6 _ _ e))
  have hw7 := hw6.same S67
  have hy7 := hy6.same S67
  have hp7 := hp6.same S7
  have hfl := paired_len hF7
  have hF7o : Paired (BuAt (Off a H7) N ts) fs (bubsB N ts) := paired_mono (fun p q h => h.2 a _ ea6) hF7
  have hbBl : (bubsB N ts).length ≤ N := by
    have := bubs_len N ts (List.range N)
    rwa [List.length_range] at this
  refine ⟨_, rfl, x, N, ts, rfl, hw7.same (off_same a H7), ho, by omega, by omega, fun H8 bl S8 nbl hB8 => ?_⟩
  refine ⟨_, rfl, f, rfl, ⟨_, SqL.of (S8 _ _ hf7)⟩, fun D nD => ?_⟩
  refine lc_list (K := K) (a := f) (xs := fs.map V.ref) (fun i H' => Same H8 H' ∧ TiesAt H' D ((bubsB N ts).take i)) ⟨same_new nD _, TiesAt.nil⟩ (fun i H' _ ⟨z, _⟩ => SqL.of (z _ _ (S8 _ _ hf7))) ?_ ?_
  · rintro i v H9 hv ⟨S9, hT9⟩
    obtain ⟨p, hpi, rfl⟩ := ref_of hv
    obtain ⟨q0, hq0, hb0, _⟩ := paired_get hF7 hpi
    obtain ⟨lp, L, hpt, _⟩ := hb0
    have hi := (List.getElem?_eq_some_iff.mp hq0).1
    refine ⟨rfl, _, rfl, _, rfl, p, _, rfl, SqT.of (S9 _ _ (S8 _ _ hpt)), (fun z => absurd z.2 (by show ¬ HT.sIx 3 3 (some 2) = 3; decide)), fun tq ntq => ?_⟩
    obtain ⟨ys, m1, m2, m3⟩ := hT9.push (u := q0.1) (v := q0.2) ntq
    refine ⟨ys, m1, by rw [m2, List.length_take]; exact line200 (by omega), same_upd (S9.trans (same_new ntq _)) nD, ?_⟩
    rw [take_one' hq0]
    exact m3
  rintro H9 ⟨S9, hT9⟩
  rw [List.length_map, hfl, List.take_length] at hT9
  refine ⟨_, _, dp_tz (hB8.same S9), dp_tz hT9, shaped_tz _, shaped_tz _, _, rfl, iteNb (eqv_tz_same _) ?_⟩
  have S79 := S8.trans S9
  have S79o : Same (Off a H7) (Off a H9) := off_off (fun b o e => S79 _ _ (off_same a H7 _ _ e))
  have hw9 := hw7.same S79o
  have hy9 := hy7.same S79o
  have hF9 : Paired (BuAt (Off a H9) N ts) fs (bubsB N ts) := paired_mono (fun p q h => h.same S79o) hF7o
  have hp9 := hp7.same S79
  have hT9l : TiesAt (Off a H9) l ts := by
    obtain ⟨tas, g1, g2⟩ := hT7.same S79
    exact ⟨tas, off_ne g1 hla, paired_mono (fun p z h => off_ne h (hp9.ntup h)) g2⟩
  have hf9 := off_ne (S79 _ _ hf7) hfa
  clear hw7 hy7 hF7o hp7 hT7 S79 S79o hF7 hf7 hT9 hB8 S8 S9
  refine ⟨_, rfl, f, rfl, ⟨_, SqL.of (off_same a H9 _ _ hf9)⟩, ?_⟩
  refine for_list (K := K) (a := f) (xs := fs.map V.ref) (fun i σ H' => Same (Off a H9) H' ∧ PotAt H' a ∧ ∃ v6 : Option V, σ = [some (.ref a), some (.int (N : Int)), some (.ref l), some (.ref x), some (.ref y), some (.ref f), v6, none, none]) ⟨off_same a H9, hp9, none, rfl⟩ (fun i σ H' _ ⟨z, _⟩ => SqL.of (z _ _ hf9)) ?_ ?_
  · rintro i v σ H10 hv ⟨S10, hp10, v6, rfl⟩
    obtain ⟨p, hpi, rfl⟩ := ref_of hv
    obtain ⟨⟨b, e⟩, hq0, hb0⟩ := paired_get hF9 hpi
    obtain ⟨hb1, Pb, hb2⟩ := bubs_mem (List.mem_of_getElem? hq0)
    have hbN := List.mem_range.mp hb1
    have hsb : searchB N ts b = some (Pb, e) := hb2
    have Bb := search_bub hf hbN hsb
    refine ⟨_, rfl, _, rfl, _, rfl, _, rfl, (by show 2 ≤ sizeLine; decide), fun tp ntp => ?_⟩
    have T1 := same_new ntp (.tup [V.int (N : Int), V.ref l])
    have etp : upd H10 tp (.tup [V.int (N : Int), V.ref l]) tp = some (.tup [V.int (N : Int), V.ref l]) := upd_same
    have tpa : tp ≠ a := hp10.ne ntp
    have hp11 := hp10.same T1
    have S11 : Same (Off a H9) (upd H10 tp (.tup [V.int (N : Int), V.ref l])) := fun z o h => T1 _ _ (S10 _ _ h)
    generalize upd H10 tp (.tup [V.int (N : Int), V.ref l]) = H11 at T1 etp hp11 S11 ⊢
    have S11o := off_off S11
    refine ⟨_, rfl, a, x, tp, p, l, N, ts, b, e, Pb, rfl, hp11, hw9.same S11o, off_ne etp tpa, hT9l.same S11o, ho, hN5, hm, hb0.same S11o, hbN, Bb.elt, hsb, fun H12 hk12 hp12 => ⟨_, rfl, iteF ⟨off_kept S11 hk12, hp12, _, rfl⟩⟩⟩
  rintro σ H10 ⟨S10, hp10, v6, rfl⟩
  have hNN : (N : Int).toNat = N := by omega
  have hw10 := hw9.same S10
  have hy10 := hy9.same S10
  refine ⟨_, rfl, _, rfl, by omega, by omega, ?_⟩
  refine for_range (lo := 0) (n := (N : Int).toNat) (fun i σ H' => Same H10 H' ∧ ∃ v7 v8 : Option V, σ = [some (.ref a), some (.int (N : Int)), some (.ref l), some (.ref x), some (.ref y), some (.ref f), v6, v7, v8]) ⟨(fun _ _ z => z), _, _, rfl⟩ ?_ ?_
  rotate_left
  · rintro σ H11 ⟨S11, v7, v8, rfl⟩
    exact q _
  rintro i σ H11 hi ⟨S11, v7, v8, rfl⟩
  rw [hNN] at hi
  rw [Int.zero_add]
  refine ⟨_, rfl, _, rfl, by omega, by omega, ?_⟩
  refine for_range (lo := 0) (n := (N : Int).toNat) (fun j σ H' => Same H10 H' ∧ ∃ v8 : Option V, σ = [some (.ref a), some (.int (N : Int)), some (.ref l), some (.ref x), some (.ref y), some (.ref f), v6, some (.int (i : Int)), v8]) ⟨S11, _, rfl⟩ ?_ ?_
  rotate_left
  · rintro σ H12 ⟨S12, v8, rfl⟩
    exact ⟨S12, _, _, rfl⟩
  rintro j σ H12 hj ⟨S12, v8, rfl⟩
  rw [hNN] at hj
  rw [Int.zero_add]
  refine ⟨_, rfl, _, rfl, _, rfl, x, N, ts, i, j, rfl, hw10.same S12, ho, hi, hj, fun H13 v S13 hv => ⟨v, rfl, ?_⟩⟩
  refine ⟨_, rfl, _, rfl, _, rfl, y, N, swaps ts, j, i, rfl, hy10.same (S12.trans S13), swaps_ok ho, hj, hi, fun H14 u S14 hu => ⟨u, rfl, rfl, _, rfl, ?_⟩⟩
  have euv : v = u := by
    rw [Bool.eq_iff_iff, hv, hu]
    exact shut_turned
  subst euv
  exact iteNot' rfl ⟨(S12.trans S13).trans S14, _, rfl⟩
def splaw (K : PySem.W.Frag) (_ : Addr) : Sp := fun vs H Q _ => ∃ a, ∃ ns : List Int, vs = [.ref a] ∧ SqL K H a (ns.map V.int) ∧ ns.length ≤ 63 ∧ ∀ H', Q (.bl true) H'
theorem oklaw (D : Def K mg "law" slaw ["_law_script"]) (B : Bs mg) (Glb : Glo mg) (WK : WebK K mg C)
    (h_law_right : Good P w K mg base "_law_right" s_law_right ["_law_pot_here"] 12 (sp_law_right K C))
    (h_law_pot : Good P w K mg base "_law_pot" s_law_pot ["_law_script", "_law_k"] 1 (sp_law_pot K C)) :
    Good P w K mg base "law" slaw ["_law_script"] 13 (splaw K C) := by
  refine D.good fun f fd F => ?_
  obtain ⟨f_law_right, d_law_right, O_law_right, m_law_right, k_law_right, b_law_right, F_law_right⟩ := h_law_right
  obtain ⟨f_law_pot, d_law_pot, O_law_pot, m_law_pot, k_law_pot, b_law_pot, F_law_pot⟩ := h_law_pot
  refine F.ok sclaw (fun vs H Q E h => ?_) (fun cdv A outer s H vs Q E hr h => ?_)
  · obtain ⟨sa, ns, rfl, hs, h63, q⟩ := h
    first | rfl | (rcases h with ⟨_, _, rfl, _⟩ | ⟨_, rfl, _⟩ <;> rfl)
  obtain ⟨sa, ns, rfl, hs, h63, q⟩ := h
  refine ⟨_, (pss_one (ps_ret (pe_call O_law_right hr rfl m_law_right k_law_right b_law_right .nil pass0 (pa_cons (pe_call O_law_pot (hr.mono (by decide)) rfl m_law_pot k_law_pot b_law_pot .nil pass0 (pa_cons (pv 0) (pa_cons pe_int pa_nil))) pa_nil)))), ?_⟩
  exact ⟨_, rfl, sa, ns, rfl, hs, fun p H1 hp hS np => ⟨p, rfl, hp, q⟩⟩
end
end My
namespace My
open PySem L2 PyProof.Rows
/-! ### the end -/
theorem kit_no {K : PySem.W.Frag} {C : Addr} (h1 : PySem.W.isClsIn K C = true) (h2 : PySem.W.typeIn K (.ref C) = some (.type "type")) (h3 : PySem.W.subIn K (.type "dict") (.ref C) = some false) : PySem.W.kitOne K (.type "dict") (.ref C) = some false := by
  unfold PySem.W.kitOne
  rw [if_neg (by simp)]
  show (if ((PySem.W.clsIn K C).isSome && PySem.W.typeIn K (.ref C) == some (.type "type")) = true then PySem.W.subIn K (.type "dict") (.ref C) else none) = some false
  have h1' : (PySem.W.clsIn K C).isSome = true := h1
  rw [h1', h2, if_pos (by simp)]
  exact h3
theorem fd_is {K : PySem.W.Frag} {x : Str} {st : Stmt} {f : Addr} {fd fe : FuncData} {oc : Value} {od : Option Addr} {sl : Array (Option Value)} (F : Fun K x x st f fd) (l : K.lookup f = some ⟨oc, od, .func fe, sl⟩) : fd = fe := by
  obtain ⟨oc2, od2, kV, doc, pm, an, cdv, ct, osl, e, lk, c⟩ := F.ex
  rw [lk] at l
  have := Option.some.inj l
  injection this with _ _ h3 _
  injection h3
set_option maxHeartbeats 4000000 in
theorem all_mk {l : PySem.W.OpenLaw} {w : World} {K : PySem.W.Frag} {h : Heap} {mg : Str → Option Value} {fa C : Addr} (X : K.In h) (G : h.Ns mainGlobals mg) (hfa : mg "law" = some (.ref fa))
    {fM0 : Addr} {odM0 anM0 : Option Addr} {slM0 : Array (Option Value)} {ocM0 kVM0 dcM0 pmM0 cdM0 ctM0 : Value} {fM1 : Addr} {odM1 anM1 : Option Addr} {slM1 : Array (Option Value)} {ocM1 kVM1 dcM1 pmM1 cdM1 ctM1 : Value} {pM1 : Addr} {rsM1 : List Value} {fM2 : Addr} {odM2 anM2 : Option Addr} {slM2 : Array (Option Value)} {ocM2 kVM2 dcM2 pmM2 cdM2 ctM2 : Value} {fM3 : Addr} {odM3 anM3 : Option Addr} {slM3 : Array (Option Value)} {ocM3 kVM3 dcM3 pmM3 cdM3 ctM3 : Value} {fM4 : Addr} {odM4 anM4 : Option Addr} {slM4 : Array (Option Value)} {ocM4 kVM4 dcM4 pmM4 cdM4 ctM4 : Value} {f0 : Addr} {od0 an0 : Option Addr} {sl0 : Array (Option Value)} {oc0 kV0 dc0 pm0 cd0 ct0 : Value} {f1 : Addr} {od1 an1 : Option Addr} {sl1 : Array (Option Value)} {oc1 kV1 dc1 pm1 cd1 ct1 : Value} {f2 : Addr} {od2 an2 : Option Addr} {sl2 : Array (Option Value)} {oc2 kV2 dc2 pm2 cd2 ct2 : Value} {f3 : Addr} {od3 an3 : Option Addr} {sl3 : Array (Option Value)} {oc3 kV3 dc3 pm3 cd3 ct3 : Value} {f4 : Addr} {od4 an4 : Option Addr} {sl4 : Array (Option Value)} {oc4 kV4 dc4 pm4 cd4 ct4 : Value} {f5 : Addr} {od5 an5 : Option Addr} {sl5 : Array (Option Value)} {oc5 kV5 dc5 pm5 cd5 ct5 : Value} {f6 : Addr} {od6 an6 : Option Addr} {sl6 : Array (Option Value)} {oc6 kV6 dc6 pm6 cd6 ct6 : Value} {f7 : Addr} {od7 an7 : Option Addr} {sl7 : Array (Option Value)} {oc7 kV7 dc7 pm7 cd7 ct7 : Value} {f8 : Addr} {od8 an8 : Option Addr} {sl8 : Array (Option Value)} {oc8 kV8 dc8 pm8 cd8 ct8 : Value} {f9 : Addr} {od9 an9 : Option Addr} {sl9 : Array (Option Value)} {oc9 kV9 dc9 pm9 cd9 ct9 : Value} {f10 : Addr} {od10 an10 : Option Addr} {sl10 : Array (Option Value)} {oc10 kV10 dc10 pm10 cd10 ct10 : Value} {f11 : Addr} {od11 an11 : Option Addr} {sl11 : Array (Option Value)} {oc11 kV11 dc11 pm11 cd11 ct11 : Value} {f12 : Addr} {od12 an12 : Option Addr} {sl12 : Array (Option Value)} {oc12 kV12 dc12 pm12 cd12 ct12 : Value} {f13 : Addr} {od13 an13 : Option Addr} {sl13 : Array (Option Value)} {oc13 kV13 dc13 pm13 cd13 ct13 : Value} {f14 : Addr} {od14 an14 : Option Addr} {sl14 : Array (Option Value)} {oc14 kV14 dc14 pm14 cd14 ct14 : Value} {f15 : Addr} {od15 an15 : Option Addr} {sl15 : Array (Option Value)} {oc15 kV15 dc15 pm15 cd15 ct15 : Value} {f16 : Addr} {od16 an16 : Option Addr} {sl16 : Array (Option Value)} {oc16 kV16 dc16 pm16 cd16 ct16 : Value} {f17 : Addr} {od17 an17 : Option Addr} {sl17 : Array (Option Value)} {oc17 kV17 dc17 pm17 cd17 ct17 : Value} {f18 : Addr} {od18 an18 : Option Addr} {sl18 : Array (Option Value)} {oc18 kV18 dc18 pm18 cd18 ct18 : Value} {f19 : Addr} {od19 an19 : Option Addr} {sl19 : Array (Option Value)} {oc19 kV19 dc19 pm19 cd19 ct19 : Value} {f20 : Addr} {od20 an20 : Option Addr} {sl20 : Array (Option Value)} {oc20 kV20 dc20 pm20 cd20 ct20 : Value} {f21 : Addr} {od21 an21 : Option Addr} {sl21 : Array (Option Value)} {oc21 kV21 dc21 pm21 cd21 ct21 : Value} {f22 : Addr} {od22 an22 : Option Addr} {sl22 : Array (Option Value)} {oc22 kV22 dc22 pm22 cd22 ct22 : Value} {f23 : Addr} {od23 an23 : Option Addr} {sl23 : Array (Option Value)} {oc23 kV23 dc23 pm23 cd23 ct23 : Value} {f24 : Addr} {od24 an24 : Option Addr} {sl24 : Array (Option Value)} {oc24 kV24 dc24 pm24 cd24 ct24 : Value} {f25 : Addr} {od25 an25 : Option Addr} {sl25 : Array (Option Value)} {oc25 kV25 dc25 pm25 cd25 ct25 : Value} {f26 : Addr} {od26 an26 : Option Addr} {sl26 : Array (Option Value)} {oc26 kV26 dc26 pm26 cd26 ct26 : Value} {f27 : Addr} {od27 an27 : Option Addr} {sl27 : Array (Option Value)} {oc27 kV27 dc27 pm27 cd27 ct27 : Value} {f28 : Addr} {od28 an28 : Option Addr} {sl28 : Array (Option Value)} {oc28 kV28 dc28 pm28 cd28 ct28 : Value} {f29 : Addr} {od29 an29 : Option Addr} {sl29 : Array (Option Value)} {oc29 kV29 dc29 pm29 cd29 ct29 : Value} {f30 : Addr} {od30 an30 : Option Addr} {sl30 : Array (Option Value)} {oc30 kV30 dc30 pm30 cd30 ct30 : Value} {f31 : Addr} {od31 an31 : Option Addr} {sl31 : Array (Option Value)} {oc31 kV31 dc31 pm31 cd31 ct31 : Value} {f32 : Addr} {od32 an32 : Option Addr} {sl32 : Array (Option Value)} {oc32 kV32 dc32 pm32 cd32 ct32 : Value} {f33 : Addr} {od33 an33 : Option Addr} {sl33 : Array (Option Value)} {oc33 kV33 dc33 pm33 cd33 ct33 : Value} {f34 : Addr} {od34 an34 : Option Addr} {sl34 : Array (Option Value)} {oc34 kV34 dc34 pm34 cd34 ct34 : Value} {f35 : Addr} {od35 an35 : Option Addr} {sl35 : Array (Option Value)} {oc35 kV35 dc35 pm35 cd35 ct35 : Value} {f36 : Addr} {od36 an36 : Option Addr} {sl36 : Array (Option Value)} {oc36 kV36 dc36 pm36 cd36 ct36 : Value} {f37 : Addr} {od37 an37 : Option Addr} {sl37 : Array (Option Value)} {oc37 kV37 dc37 pm37 cd37 ct37 : Value} {f38 : Addr} {od38 an38 : Option Addr} {sl38 : Array (Option Value)} {oc38 kV38 dc38 pm38 cd38 ct38 : Value} {f39 : Addr} {od39 an39 : Option Addr} {sl39 : Array (Option Value)} {oc39 kV39 dc39 pm39 cd39 ct39 : Value} {f40 : Addr} {od40 an40 : Option Addr} {sl40 : Array (Option Value)} {oc40 kV40 dc40 pm40 cd40 ct40 : Value} {f41 : Addr} {od41 an41 : Option Addr} {sl41 : Array (Option Value)} {oc41 kV41 dc41 pm41 cd41 ct41 : Value} {f42 : Addr} {od42 an42 : Option Addr} {sl42 : Array (Option Value)} {oc42 kV42 dc42 pm42 cd42 ct42 : Value} {f43 : Addr} {od43 an43 : Option Addr} {sl43 : Array (Option Value)} {oc43 kV43 dc43 pm43 cd43 ct43 : Value} {t0 : Tok} {t1 : Tok} {t2 : Tok}
    (aC : PySem.W.nsIn K mainGlobals "Web" = some (some (.ref C)))
    (aM0 : PySem.W.findIn K (.ref C) "__init__" = some (some (.ref fM0))) (iM0 : PySem.W.isFn K (.ref fM0) = true) (lM0 : K.lookup fM0 = some ⟨ocM0, odM0, .func (PySem.W.fnOf "__init__" "Web.__init__" (defArgs sWeb___init__) (defBody sWeb___init__) (defScope sWeb___init__) .none kVM0 dcM0 pmM0 anM0 cdM0 ctM0), slM0⟩) (cM0 : PySem.W.codeIn K cdM0 "Web.__init__" = true) (kM0 : PySem.W.keepIn K (.ref fM0) = true)
    (aM1 : PySem.W.findIn K (.ref C) "places" = some (some (.ref pM1))) (gM1 : PySem.W.specialIn K (.ref pM1) "__get__" = some (some (.builtin "property.__get__"))) (tM1 : PySem.W.takesIn K (.ref pM1) = some true) (rM1 : PySem.W.recIn K pM1 "property" = some (.ref fM1 :: rsM1)) (lM1 : K.lookup fM1 = some ⟨ocM1, odM1, .func (PySem.W.fnOf "places" "Web.places" (defArgs sWeb_places) (defBody sWeb_places) (defScope sWeb_places) .none kVM1 dcM1 pmM1 anM1 cdM1 ctM1), slM1⟩) (cM1 : PySem.W.codeIn K cdM1 "Web.places" = true) (kM1 : PySem.W.keepIn K (.ref fM1) = true)
    (aM2 : PySem.W.findIn K (.ref C) "ties" = some (some (.ref fM2))) (iM2 : PySem.W.isFn K (.ref fM2) = true) (lM2 : K.lookup fM2 = some ⟨ocM2, odM2, .func (PySem.W.fnOf "ties" "Web.ties" (defArgs sWeb_ties) (defBody sWeb_ties) (defScope sWeb_ties) .none kVM2 dcM2 pmM2 anM2 cdM2 ctM2), slM2⟩) (cM2 : PySem.W.codeIn K cdM2 "Web.ties" = true) (kM2 : PySem.W.keepIn K (.ref fM2) = true)
    (aM3 : PySem.W.findIn K (.ref C) "ties_from" = some (some (.ref fM3))) (iM3 : PySem.W.isFn K (.ref fM3) = true) (lM3 : K.lookup fM3 = some ⟨ocM3, odM3, .func (PySem.W.fnOf "ties_from" "Web.ties_from" (defArgs sWeb_ties_from) (defBody sWeb_ties_from) (defScope sWeb_ties_from) .none kVM3 dcM3 pmM3 anM3 cdM3 ctM3), slM3⟩) (cM3 : PySem.W.codeIn K cdM3 "Web.ties_from" = true) (kM3 : PySem.W.keepIn K (.ref fM3) = true)
    (aM4 : PySem.W.findIn K (.ref C) "ties_to" = some (some (.ref fM4))) (iM4 : PySem.W.isFn K (.ref fM4) = true) (lM4 : K.lookup fM4 = some ⟨ocM4, odM4, .func (PySem.W.fnOf "ties_to" "Web.ties_to" (defArgs sWeb_ties_to) (defBody sWeb_ties_to) (defScope sWeb_ties_to) .none kVM4 dcM4 pmM4 anM4 cdM4 ctM4), slM4⟩) (cM4 : PySem.W.codeIn K cdM4 "Web.ties_to" = true) (kM4 : PySem.W.keepIn K (.ref fM4) = true)
    (a0 : PySem.W.nsIn K mainGlobals "is_integer" = some (some (.ref f0))) (l0 : K.lookup f0 = some ⟨oc0, od0, .func (PySem.W.fnOf "is_integer" "is_integer" (defArgs sis_integer) (defBody sis_integer) (defScope sis_integer) .none kV0 dc0 pm0 an0 cd0 ct0), sl0⟩) (c0 : PySem.W.codeIn K cd0 "is_integer" = true) (k0 : PySem.W.keepIn K (.ref f0) = true)
    (a1 : PySem.W.nsIn K mainGlobals "is_count" = some (some (.ref f1))) (l1 : K.lookup f1 = some ⟨oc1, od1, .func (PySem.W.fnOf "is_count" "is_count" (defArgs sis_count) (defBody sis_count) (defScope sis_count) .none kV1 dc1 pm1 an1 cd1 ct1), sl1⟩) (c1 : PySem.W.codeIn K cd1 "is_count" = true) (k1 : PySem.W.keepIn K (.ref f1) = true)
    (a2 : PySem.W.nsIn K mainGlobals "is_between" = some (some (.ref f2))) (l2 : K.lookup f2 = some ⟨oc2, od2, .func (PySem.W.fnOf "is_between" "is_between" (defArgs sis_between) (defBody sis_between) (defScope sis_between) .none kV2 dc2 pm2 an2 cd2 ct2), sl2⟩) (c2 : PySem.W.codeIn K cd2 "is_between" = true) (k2 : PySem.W.keepIn K (.ref f2) = true)
    (a3 : PySem.W.nsIn K mainGlobals "is_below" = some (some (.ref f3))) (l3 : K.lookup f3 = some ⟨oc3, od3, .func (PySem.W.fnOf "is_below" "is_below" (defArgs sis_below) (defBody sis_below) (defScope sis_below) .none kV3 dc3 pm3 an3 cd3 ct3), sl3⟩) (c3 : PySem.W.codeIn K cd3 "is_below" = true) (k3 : PySem.W.keepIn K (.ref f3) = true)
    (a4 : PySem.W.nsIn K mainGlobals "is_listed" = some (some (.ref f4))) (l4 : K.lookup f4 = some ⟨oc4, od4, .func (PySem.W.fnOf "is_listed" "is_listed" (defArgs sis_listed) (defBody sis_listed) (defScope sis_listed) .none kV4 dc4 pm4 an4 cd4 ct4), sl4⟩) (c4 : PySem.W.codeIn K cd4 "is_listed" = true) (k4 : PySem.W.keepIn K (.ref f4) = true)
    (a5 : PySem.W.nsIn K mainGlobals "parts_in_turn" = some (some (.ref f5))) (l5 : K.lookup f5 = some ⟨oc5, od5, .func (PySem.W.fnOf "parts_in_turn" "parts_in_turn" (defArgs sparts_in_turn) (defBody sparts_in_turn) (defScope sparts_in_turn) .none kV5 dc5 pm5 an5 cd5 ct5), sl5⟩) (c5 : PySem.W.codeIn K cd5 "parts_in_turn" = true) (k5 : PySem.W.keepIn K (.ref f5) = true)
    (a6 : PySem.W.nsIn K mainGlobals "_left_from" = some (some (.ref f6))) (l6 : K.lookup f6 = some ⟨oc6, od6, .func (PySem.W.fnOf "_left_from" "_left_from" (defArgs s_left_from) (defBody s_left_from) (defScope s_left_from) .none kV6 dc6 pm6 an6 cd6 ct6), sl6⟩) (c6 : PySem.W.codeIn K cd6 "_left_from" = true) (k6 : PySem.W.keepIn K (.ref f6) = true)
    (a7 : PySem.W.nsIn K mainGlobals "are_ties" = some (some (.ref f7))) (l7 : K.lookup f7 = some ⟨oc7, od7, .func (PySem.W.fnOf "are_ties" "are_ties" (defArgs sare_ties) (defBody sare_ties) (defScope sare_ties) .none kV7 dc7 pm7 an7 cd7 ct7), sl7⟩) (c7 : PySem.W.codeIn K cd7 "are_ties" = true) (k7 : PySem.W.keepIn K (.ref f7) = true)
    (a8 : PySem.W.nsIn K mainGlobals "need_web" = some (some (.ref f8))) (l8 : K.lookup f8 = some ⟨oc8, od8, .func (PySem.W.fnOf "need_web" "need_web" (defArgs sneed_web) (defBody sneed_web) (defScope sneed_web) .none kV8 dc8 pm8 an8 cd8 ct8), sl8⟩) (c8 : PySem.W.codeIn K cd8 "need_web" = true) (k8 : PySem.W.keepIn K (.ref f8) = true)
    (a9 : PySem.W.nsIn K mainGlobals "need_place" = some (some (.ref f9))) (l9 : K.lookup f9 = some ⟨oc9, od9, .func (PySem.W.fnOf "need_place" "need_place" (defArgs sneed_place) (defBody sneed_place) (defScope sneed_place) .none kV9 dc9 pm9 an9 cd9 ct9), sl9⟩) (c9 : PySem.W.codeIn K cd9 "need_place" = true) (k9 : PySem.W.keepIn K (.ref f9) = true)
    (a10 : PySem.W.nsIn K mainGlobals "back_web" = some (some (.ref f10))) (l10 : K.lookup f10 = some ⟨oc10, od10, .func (PySem.W.fnOf "back_web" "back_web" (defArgs sback_web) (defBody sback_web) (defScope sback_web) .none kV10 dc10 pm10 an10 cd10 ct10), sl10⟩) (c10 : PySem.W.codeIn K cd10 "back_web" = true) (k10 : PySem.W.keepIn K (.ref f10) = true)
    (a11 : PySem.W.nsIn K mainGlobals "_need_places" = some (some (.ref f11))) (l11 : K.lookup f11 = some ⟨oc11, od11, .func (PySem.W.fnOf "_need_places" "_need_places" (defArgs s_need_places) (defBody s_need_places) (defScope s_need_places) .none kV11 dc11 pm11 an11 cd11 ct11), sl11⟩) (c11 : PySem.W.codeIn K cd11 "_need_places" = true) (k11 : PySem.W.keepIn K (.ref f11) = true)
    (a12 : PySem.W.nsIn K mainGlobals "_spread" = some (some (.ref f12))) (l12 : K.lookup f12 = some ⟨oc12, od12, .func (PySem.W.fnOf "_spread" "_spread" (defArgs s_spread) (defBody s_spread) (defScope s_spread) .none kV12 dc12 pm12 an12 cd12 ct12), sl12⟩) (c12 : PySem.W.codeIn K cd12 "_spread" = true) (k12 : PySem.W.keepIn K (.ref f12) = true)
    (a13 : PySem.W.nsIn K mainGlobals "_ends_from" = some (some (.ref f13))) (l13 : K.lookup f13 = some ⟨oc13, od13, .func (PySem.W.fnOf "_ends_from" "_ends_from" (defArgs s_ends_from) (defBody s_ends_from) (defScope s_ends_from) .none kV13 dc13 pm13 an13 cd13 ct13), sl13⟩) (c13 : PySem.W.codeIn K cd13 "_ends_from" = true) (k13 : PySem.W.keepIn K (.ref f13) = true)
    (a14 : PySem.W.nsIn K mainGlobals "_inside_of" = some (some (.ref f14))) (l14 : K.lookup f14 = some ⟨oc14, od14, .func (PySem.W.fnOf "_inside_of" "_inside_of" (defArgs s_inside_of) (defBody s_inside_of) (defScope s_inside_of) .none kV14 dc14 pm14 an14 cd14 ct14), sl14⟩) (c14 : PySem.W.codeIn K cd14 "_inside_of" = true) (k14 : PySem.W.keepIn K (.ref f14) = true)
    (a15 : PySem.W.nsIn K mainGlobals "_inner_ties" = some (some (.ref f15))) (l15 : K.lookup f15 = some ⟨oc15, od15, .func (PySem.W.fnOf "_inner_ties" "_inner_ties" (defArgs s_inner_ties) (defBody s_inner_ties) (defScope s_inner_ties) .none kV15 dc15 pm15 an15 cd15 ct15), sl15⟩) (c15 : PySem.W.codeIn K cd15 "_inner_ties" = true) (k15 : PySem.W.keepIn K (.ref f15) = true)
    (a16 : PySem.W.nsIn K mainGlobals "_have_no_round" = some (some (.ref f16))) (l16 : K.lookup f16 = some ⟨oc16, od16, .func (PySem.W.fnOf "_have_no_round" "_have_no_round" (defArgs s_have_no_round) (defBody s_have_no_round) (defScope s_have_no_round) .none kV16 dc16 pm16 an16 cd16 ct16), sl16⟩) (c16 : PySem.W.codeIn K cd16 "_have_no_round" = true) (k16 : PySem.W.keepIn K (.ref f16) = true)
    (a17 : PySem.W.nsIn K mainGlobals "_is_shut" = some (some (.ref f17))) (l17 : K.lookup f17 = some ⟨oc17, od17, .func (PySem.W.fnOf "_is_shut" "_is_shut" (defArgs s_is_shut) (defBody s_is_shut) (defScope s_is_shut) .none kV17 dc17 pm17 an17 cd17 ct17), sl17⟩) (c17 : PySem.W.codeIn K cd17 "_is_shut" = true) (k17 : PySem.W.keepIn K (.ref f17) = true)
    (a18 : PySem.W.nsIn K mainGlobals "_is_bubble" = some (some (.ref f18))) (l18 : K.lookup f18 = some ⟨oc18, od18, .func (PySem.W.fnOf "_is_bubble" "_is_bubble" (defArgs s_is_bubble) (defBody s_is_bubble) (defScope s_is_bubble) .none kV18 dc18 pm18 an18 cd18 ct18), sl18⟩) (c18 : PySem.W.codeIn K cd18 "_is_bubble" = true) (k18 : PySem.W.keepIn K (.ref f18) = true)
    (a19 : PySem.W.nsIn K mainGlobals "is_shut" = some (some (.ref f19))) (l19 : K.lookup f19 = some ⟨oc19, od19, .func (PySem.W.fnOf "is_shut" "is_shut" (defArgs sis_shut) (defBody sis_shut) (defScope sis_shut) .none kV19 dc19 pm19 an19 cd19 ct19), sl19⟩) (c19 : PySem.W.codeIn K cd19 "is_shut" = true) (k19 : PySem.W.keepIn K (.ref f19) = true)
    (a20 : PySem.W.nsIn K mainGlobals "is_bubble" = some (some (.ref f20))) (l20 : K.lookup f20 = some ⟨oc20, od20, .func (PySem.W.fnOf "is_bubble" "is_bubble" (defArgs sis_bubble) (defBody sis_bubble) (defScope sis_bubble) .none kV20 dc20 pm20 an20 cd20 ct20), sl20⟩) (c20 : PySem.W.codeIn K cd20 "is_bubble" = true) (k20 : PySem.W.keepIn K (.ref f20) = true)
    (a21 : PySem.W.nsIn K mainGlobals "_marked_with" = some (some (.ref f21))) (l21 : K.lookup f21 = some ⟨oc21, od21, .func (PySem.W.fnOf "_marked_with" "_marked_with" (defArgs s_marked_with) (defBody s_marked_with) (defScope s_marked_with) .none kV21 dc21 pm21 an21 cd21 ct21), sl21⟩) (c21 : PySem.W.codeIn K cd21 "_marked_with" = true) (k21 : PySem.W.keepIn K (.ref f21) = true)
    (a22 : PySem.W.nsIn K mainGlobals "_may_be_passed" = some (some (.ref f22))) (l22 : K.lookup f22 = some ⟨oc22, od22, .func (PySem.W.fnOf "_may_be_passed" "_may_be_passed" (defArgs s_may_be_passed) (defBody s_may_be_passed) (defScope s_may_be_passed) .none kV22 dc22 pm22 an22 cd22 ct22), sl22⟩) (c22 : PySem.W.codeIn K cd22 "_may_be_passed" = true) (k22 : PySem.W.keepIn K (.ref f22) = true)
    (a23 : PySem.W.nsIn K mainGlobals "_searched" = some (some (.ref f23))) (l23 : K.lookup f23 = some ⟨oc23, od23, .func (PySem.W.fnOf "_searched" "_searched" (defArgs s_searched) (defBody s_searched) (defScope s_searched) .none kV23 dc23 pm23 an23 cd23 ct23), sl23⟩) (c23 : PySem.W.codeIn K cd23 "_searched" = true) (k23 : PySem.W.keepIn K (.ref f23) = true)
    (a24 : PySem.W.nsIn K mainGlobals "_end_of" = some (some (.ref f24))) (l24 : K.lookup f24 = some ⟨oc24, od24, .func (PySem.W.fnOf "_end_of" "_end_of" (defArgs s_end_of) (defBody s_end_of) (defScope s_end_of) .none kV24 dc24 pm24 an24 cd24 ct24), sl24⟩) (c24 : PySem.W.codeIn K cd24 "_end_of" = true) (k24 : PySem.W.keepIn K (.ref f24) = true)
    (a25 : PySem.W.nsIn K mainGlobals "bubbles" = some (some (.ref f25))) (l25 : K.lookup f25 = some ⟨oc25, od25, .func (PySem.W.fnOf "bubbles" "bubbles" (defArgs sbubbles) (defBody sbubbles) (defScope sbubbles) .none kV25 dc25 pm25 an25 cd25 ct25), sl25⟩) (c25 : PySem.W.codeIn K cd25 "bubbles" = true) (k25 : PySem.W.keepIn K (.ref f25) = true)
    (a26 : PySem.W.nsIn K mainGlobals "_passed_within" = some (some (.ref f26))) (l26 : K.lookup f26 = some ⟨oc26, od26, .func (PySem.W.fnOf "_passed_within" "_passed_within" (defArgs s_passed_within) (defBody s_passed_within) (defScope s_passed_within) .none kV26 dc26 pm26 an26 cd26 ct26), sl26⟩) (c26 : PySem.W.codeIn K cd26 "_passed_within" = true) (k26 : PySem.W.keepIn K (.ref f26) = true)
    (a27 : PySem.W.nsIn K mainGlobals "inside" = some (some (.ref f27))) (l27 : K.lookup f27 = some ⟨oc27, od27, .func (PySem.W.fnOf "inside" "inside" (defArgs sinside) (defBody sinside) (defScope sinside) .none kV27 dc27 pm27 an27 cd27 ct27), sl27⟩) (c27 : PySem.W.codeIn K cd27 "inside" = true) (k27 : PySem.W.keepIn K (.ref f27) = true)
    (a28 : PySem.W.nsIn K mainGlobals "_gone_on" = some (some (.ref f28))) (l28 : K.lookup f28 = some ⟨oc28, od28, .func (PySem.W.fnOf "_gone_on" "_gone_on" (defArgs s_gone_on) (defBody s_gone_on) (defScope s_gone_on) .none kV28 dc28 pm28 an28 cd28 ct28), sl28⟩) (c28 : PySem.W.codeIn K cd28 "_gone_on" = true) (k28 : PySem.W.keepIn K (.ref f28) = true)
    (a29 : PySem.W.nsIn K mainGlobals "ways_through" = some (some (.ref f29))) (l29 : K.lookup f29 = some ⟨oc29, od29, .func (PySem.W.fnOf "ways_through" "ways_through" (defArgs sways_through) (defBody sways_through) (defScope sways_through) .none kV29 dc29 pm29 an29 cd29 ct29), sl29⟩) (c29 : PySem.W.codeIn K cd29 "ways_through" = true) (k29 : PySem.W.keepIn K (.ref f29) = true)
    (a30 : PySem.W.nsIn K mainGlobals "_law_pot" = some (some (.ref f30))) (l30 : K.lookup f30 = some ⟨oc30, od30, .func (PySem.W.fnOf "_law_pot" "_law_pot" (defArgs s_law_pot) (defBody s_law_pot) (defScope s_law_pot) .none kV30 dc30 pm30 an30 cd30 ct30), sl30⟩) (c30 : PySem.W.codeIn K cd30 "_law_pot" = true) (k30 : PySem.W.keepIn K (.ref f30) = true)
    (a31 : PySem.W.nsIn K mainGlobals "_law_draw" = some (some (.ref f31))) (l31 : K.lookup f31 = some ⟨oc31, od31, .func (PySem.W.fnOf "_law_draw" "_law_draw" (defArgs s_law_draw) (defBody s_law_draw) (defScope s_law_draw) .none kV31 dc31 pm31 an31 cd31 ct31), sl31⟩) (c31 : PySem.W.codeIn K cd31 "_law_draw" = true) (k31 : PySem.W.keepIn K (.ref f31) = true)
    (a32 : PySem.W.nsIn K mainGlobals "_law_pick" = some (some (.ref f32))) (l32 : K.lookup f32 = some ⟨oc32, od32, .func (PySem.W.fnOf "_law_pick" "_law_pick" (defArgs s_law_pick) (defBody s_law_pick) (defScope s_law_pick) .none kV32 dc32 pm32 an32 cd32 ct32), sl32⟩) (c32 : PySem.W.codeIn K cd32 "_law_pick" = true) (k32 : PySem.W.keepIn K (.ref f32) = true)
    (a33 : PySem.W.nsIn K mainGlobals "_law_ties" = some (some (.ref f33))) (l33 : K.lookup f33 = some ⟨oc33, od33, .func (PySem.W.fnOf "_law_ties" "_law_ties" (defArgs s_law_ties) (defBody s_law_ties) (defScope s_law_ties) .none kV33 dc33 pm33 an33 cd33 ct33), sl33⟩) (c33 : PySem.W.codeIn K cd33 "_law_ties" = true) (k33 : PySem.W.keepIn K (.ref f33) = true)
    (a34 : PySem.W.nsIn K mainGlobals "_law_lots" = some (some (.ref f34))) (l34 : K.lookup f34 = some ⟨oc34, od34, .func (PySem.W.fnOf "_law_lots" "_law_lots" (defArgs s_law_lots) (defBody s_law_lots) (defScope s_law_lots) .none kV34 dc34 pm34 an34 cd34 ct34), sl34⟩) (c34 : PySem.W.codeIn K cd34 "_law_lots" = true) (k34 : PySem.W.keepIn K (.ref f34) = true)
    (a35 : PySem.W.nsIn K mainGlobals "_law_come_to" = some (some (.ref f35))) (l35 : K.lookup f35 = some ⟨oc35, od35, .func (PySem.W.fnOf "_law_come_to" "_law_come_to" (defArgs s_law_come_to) (defBody s_law_come_to) (defScope s_law_come_to) .none kV35 dc35 pm35 an35 cd35 ct35), sl35⟩) (c35 : PySem.W.codeIn K cd35 "_law_come_to" = true) (k35 : PySem.W.keepIn K (.ref f35) = true)
    (a36 : PySem.W.nsIn K mainGlobals "_law_inner" = some (some (.ref f36))) (l36 : K.lookup f36 = some ⟨oc36, od36, .func (PySem.W.fnOf "_law_inner" "_law_inner" (defArgs s_law_inner) (defBody s_law_inner) (defScope s_law_inner) .none kV36 dc36 pm36 an36 cd36 ct36), sl36⟩) (c36 : PySem.W.codeIn K cd36 "_law_inner" = true) (k36 : PySem.W.keepIn K (.ref f36) = true)
    (a37 : PySem.W.nsIn K mainGlobals "_law_shut" = some (some (.ref f37))) (l37 : K.lookup f37 = some ⟨oc37, od37, .func (PySem.W.fnOf "_law_shut" "_law_shut" (defArgs s_law_shut) (defBody s_law_shut) (defScope s_law_shut) .none kV37 dc37 pm37 an37 cd37 ct37), sl37⟩) (c37 : PySem.W.codeIn K cd37 "_law_shut" = true) (k37 : PySem.W.keepIn K (.ref f37) = true)
    (a38 : PySem.W.nsIn K mainGlobals "_law_walk" = some (some (.ref f38))) (l38 : K.lookup f38 = some ⟨oc38, od38, .func (PySem.W.fnOf "_law_walk" "_law_walk" (defArgs s_law_walk) (defBody s_law_walk) (defScope s_law_walk) .none kV38 dc38 pm38 an38 cd38 ct38), sl38⟩) (c38 : PySem.W.codeIn K cd38 "_law_walk" = true) (k38 : PySem.W.keepIn K (.ref f38) = true)
    (a39 : PySem.W.nsIn K mainGlobals "_law_walk_right" = some (some (.ref f39))) (l39 : K.lookup f39 = some ⟨oc39, od39, .func (PySem.W.fnOf "_law_walk_right" "_law_walk_right" (defArgs s_law_walk_right) (defBody s_law_walk_right) (defScope s_law_walk_right) .none kV39 dc39 pm39 an39 cd39 ct39), sl39⟩) (c39 : PySem.W.codeIn K cd39 "_law_walk_right" = true) (k39 : PySem.W.keepIn K (.ref f39) = true)
    (a40 : PySem.W.nsIn K mainGlobals "_law_bubbles" = some (some (.ref f40))) (l40 : K.lookup f40 = some ⟨oc40, od40, .func (PySem.W.fnOf "_law_bubbles" "_law_bubbles" (defArgs s_law_bubbles) (defBody s_law_bubbles) (defScope s_law_bubbles) .none kV40 dc40 pm40 an40 cd40 ct40), sl40⟩) (c40 : PySem.W.codeIn K cd40 "_law_bubbles" = true) (k40 : PySem.W.keepIn K (.ref f40) = true)
    (a41 : PySem.W.nsIn K mainGlobals "_law_bubble_right" = some (some (.ref f41))) (l41 : K.lookup f41 = some ⟨oc41, od41, .func (PySem.W.fnOf "_law_bubble_right" "_law_bubble_right" (defArgs s_law_bubble_right) (defBody s_law_bubble_right) (defScope s_law_bubble_right) .none kV41 dc41 pm41 an41 cd41 ct41), sl41⟩) (c41 : PySem.W.codeIn K cd41 "_law_bubble_right" = true) (k41 : PySem.W.keepIn K (.ref f41) = true)
    (a42 : PySem.W.nsIn K mainGlobals "_law_right" = some (some (.ref f42))) (l42 : K.lookup f42 = some ⟨oc42, od42, .func (PySem.W.fnOf "_law_right" "_law_right" (defArgs s_law_right) (defBody s_law_right) (defScope s_law_right) .none kV42 dc42 pm42 an42 cd42 ct42), sl42⟩) (c42 : PySem.W.codeIn K cd42 "_law_right" = true) (k42 : PySem.W.keepIn K (.ref f42) = true)
    (a43 : PySem.W.nsIn K mainGlobals "law" = some (some (.ref f43))) (l43 : K.lookup f43 = some ⟨oc43, od43, .func (PySem.W.fnOf "law" "law" (defArgs slaw) (defBody slaw) (defScope slaw) .none kV43 dc43 pm43 an43 cd43 ct43), sl43⟩) (c43 : PySem.W.codeIn K cd43 "law" = true) (k43 : PySem.W.keepIn K (.ref f43) = true)
    (pg : PySem.W.plainGet K C Str.empty = true) (hd : PySem.W.hasDictIn K C = true) (po : PySem.W.plainOver K C = true) (sa : PySem.W.findIn K (.ref C) "__setattr__" = some (some (.builtin "object.__setattr__"))) (mk : PySem.W.makesIn K C = true) (kc : PySem.W.keepIn K (.ref C) = true)
    (n0 : PySem.W.findIn K (.ref C) "_places" = some none)
    (n1 : PySem.W.findIn K (.ref C) "_ties" = some none)
    (n2 : PySem.W.findIn K (.ref C) "_ties_from" = some none)
    (n3 : PySem.W.findIn K (.ref C) "_ties_to" = some none)
    (q1 : PySem.W.findIn K (.ref C) "__class__" = some (some (.builtin "object.__class__"))) (q2 : PySem.W.specialIn K (.builtin "object.__class__") "__get__" = some (some (.builtin "getset_descriptor.__get__"))) (q3 : PySem.W.takesIn K (.builtin "object.__class__") = some true) (q4 : PySem.W.mroIn K C (.type "object") = some true)
    (w1 : PySem.W.findIn K (.ref C) "__ne__" = some (some (.builtin "object.__ne__")))
    (z0 : PySem.W.nsIn K mainGlobals "isinstance" = some none)
    (z1 : PySem.W.nsIn K mainGlobals "int" = some none)
    (z2 : PySem.W.nsIn K mainGlobals "bool" = some none)
    (z3 : PySem.W.nsIn K mainGlobals "list" = some none)
    (z4 : PySem.W.nsIn K mainGlobals "tuple" = some none)
    (z5 : PySem.W.nsIn K mainGlobals "len" = some none)
    (z6 : PySem.W.nsIn K mainGlobals "range" = some none)
    (z7 : PySem.W.nsIn K mainGlobals "abs" = some none)
    (z8 : PySem.W.nsIn K mainGlobals "max" = some none)
    (z9 : PySem.W.nsIn K mainGlobals "divmod" = some none)
    (z10 : PySem.W.nsIn K mainGlobals "enumerate" = some none)
    (z11 : PySem.W.nsIn K mainGlobals "sorted" = some none)
    (z12 : PySem.W.nsIn K mainGlobals "all" = some none)
    (z13 : PySem.W.nsIn K mainGlobals "any" = some none)
    (z14 : PySem.W.nsIn K mainGlobals "set" = some none)
    (z15 : PySem.W.nsIn K mainGlobals "repr" = some none)
    (y0 : PySem.W.nsIn K mainGlobals "MOST_PLACES" = some (some (.int 60 t0)))
    (y1 : PySem.W.nsIn K mainGlobals "MOST_TIES" = some (some (.int 80 t1)))
    (y2 : PySem.W.nsIn K mainGlobals "MOST_WAYS" = some (some (.int 400 t2)))
    : ∃ fd : FuncData, (∀ (s : Shared) (v : Value), BindsTo s fd ⟨[v], []⟩ [("_law_script", v)]) ∧ ∀ base : Heap, K.In base → base.Ns mainGlobals mg → FnOk l.prog w K mg base CX0 13 fa fd ["_law_script"] (splaw K 0) := by
  have e := hfa.symm.trans (PySem.W.mg_of X G a43)
  cases e
  have B : Bs mg := ⟨PySem.W.mg_none_of X G z0, PySem.W.mg_none_of X G z1, PySem.W.mg_none_of X G z2, PySem.W.mg_none_of X G z3, PySem.W.mg_none_of X G z4, PySem.W.mg_none_of X G z5, PySem.W.mg_none_of X G z6, PySem.W.mg_none_of X G z7, PySem.W.mg_none_of X G z8, PySem.W.mg_none_of X G z9, PySem.W.mg_none_of X G z10, PySem.W.mg_none_of X G z11, PySem.W.mg_none_of X G z12, PySem.W.mg_none_of X G z13, PySem.W.mg_none_of X G z14, PySem.W.mg_none_of X G z15⟩
  have Glb : Glo mg := ⟨⟨t0, PySem.W.mg_of X G y0⟩, ⟨t1, PySem.W.mg_of X G y1⟩, ⟨t2, PySem.W.mg_of X G y2⟩⟩
  have WK : WebK K mg C := ⟨⟨pg, hd, po, sa⟩, n0, n1, n2, n3, PySem.W.mg_of X G aC, q1, q2, q3, q4, (by unfold PySem.W.kitOne; exact if_pos (beq_self_eq_true _)), w1⟩
  have DWeb___init__ : DefI K C "__init__" "Web.__init__" sWeb___init__ ["self", "places", "ties"] := ⟨fM0, _, fun_mk (st := sWeb___init__) lM0 cM0 kM0, ⟨mk, aM0, iM0, kc⟩, (fun_mk (st := sWeb___init__) lM0 cM0 kM0).binds (ps := ["self", "places", "ties"]) fun _ _ _ _ _ _ us hl => match us, hl with | [_, _, _], _ => rfl⟩
  have DWeb_places : DefP K C "places" "Web.places" sWeb_places ["self"] := ⟨pM1, fM1, _, fun_mk (st := sWeb_places) lM1 cM1 kM1, ⟨aM1, gM1, tM1, _, rM1⟩, (fun_mk (st := sWeb_places) lM1 cM1 kM1).binds (ps := ["self"]) fun _ _ _ _ _ _ us hl => match us, hl with | [_], _ => rfl⟩
  have DWeb_ties : DefM K C "ties" "Web.ties" sWeb_ties ["self"] := ⟨fM2, _, fun_mk (st := sWeb_ties) lM2 cM2 kM2, ⟨aM2, iM2, kM2⟩, (fun_mk (st := sWeb_ties) lM2 cM2 kM2).binds (ps := ["self"]) fun _ _ _ _ _ _ us hl => match us, hl with | [_], _ => rfl⟩
  have DWeb_ties_from : DefM K C "ties_from" "Web.ties_from" sWeb_ties_from ["self", "place"] := ⟨fM3, _, fun_mk (st := sWeb_ties_from) lM3 cM3 kM3, ⟨aM3, iM3, kM3⟩, (fun_mk (st := sWeb_ties_from) lM3 cM3 kM3).binds (ps := ["self", "place"]) fun _ _ _ _ _ _ us hl => match us, hl with | [_, _], _ => rfl⟩
  have DWeb_ties_to : DefM K C "ties_to" "Web.ties_to" sWeb_ties_to ["self", "place"] := ⟨fM4, _, fun_mk (st := sWeb_ties_to) lM4 cM4 kM4, ⟨aM4, iM4, kM4⟩, (fun_mk (st := sWeb_ties_to) lM4 cM4 kM4).binds (ps := ["self", "place"]) fun _ _ _ _ _ _ us hl => match us, hl with | [_, _], _ => rfl⟩
  have Dis_integer : Def K mg "is_integer" sis_integer ["value"] := def_mk X G a0 l0 c0 k0 fun _ _ _ _ _ _ us hl => match us, hl with | [_], _ => rfl
  have Dis_count : Def K mg "is_count" sis_count ["value"] := def_mk X G a1 l1 c1 k1 fun _ _ _ _ _ _ us hl => match us, hl with | [_], _ => rfl
  have Dis_between : Def K mg "is_between" sis_between ["value", "least", "most"] := def_mk X G a2 l2 c2 k2 fun _ _ _ _ _ _ us hl => match us, hl with | [_, _, _], _ => rfl
  have Dis_below : Def K mg "is_below" sis_below ["value", "limit"] := def_mk X G a3 l3 c3 k3 fun _ _ _ _ _ _ us hl => match us, hl with | [_, _], _ => rfl
  have Dis_listed : Def K mg "is_listed" sis_listed ["value"] := def_mk X G a4 l4 c4 k4 fun _ _ _ _ _ _ us hl => match us, hl with | [_], _ => rfl
  have Dparts_in_turn : Def K mg "parts_in_turn" sparts_in_turn ["points", "steps"] := def_mk X G a5 l5 c5 k5 fun _ _ _ _ _ _ us hl => match us, hl with | [_, _], _ => rfl
  have D_left_from : Def K mg "_left_from" s_left_from ["ends", "point", "seen"] := def_mk X G a6 l6 c6 k6 fun _ _ _ _ _ _ us hl => match us, hl with | [_, _, _], _ => rfl
  have Dare_ties : Def K mg "are_ties" sare_ties ["places", "value"] := def_mk X G a7 l7 c7 k7 fun _ _ _ _ _ _ us hl => match us, hl with | [_, _], _ => rfl
  have Dneed_web : Def K mg "need_web" sneed_web ["web"] := def_mk X G a8 l8 c8 k8 fun _ _ _ _ _ _ us hl => match us, hl with | [_], _ => rfl
  have Dneed_place : Def K mg "need_place" sneed_place ["web", "place"] := def_mk X G a9 l9 c9 k9 fun _ _ _ _ _ _ us hl => match us, hl with | [_, _], _ => rfl
  have Dback_web : Def K mg "back_web" sback_web ["web"] := def_mk X G a10 l10 c10 k10 fun _ _ _ _ _ _ us hl => match us, hl with | [_], _ => rfl
  have D_need_places : Def K mg "_need_places" s_need_places ["web", "begin", "end"] := def_mk X G a11 l11 c11 k11 fun _ _ _ _ _ _ us hl => match us, hl with | [_, _, _], _ => rfl
  have D_spread : Def K mg "_spread" s_spread ["ends", "start", "last"] := def_mk X G a12 l12 c12 k12 fun _ _ _ _ _ _ us hl => match us, hl with | [_, _, _], _ => rfl
  have D_ends_from : Def K mg "_ends_from" s_ends_from ["web", "ties"] := def_mk X G a13 l13 c13 k13 fun _ _ _ _ _ _ us hl => match us, hl with | [_, _], _ => rfl
  have D_inside_of : Def K mg "_inside_of" s_inside_of ["web", "begin", "end"] := def_mk X G a14 l14 c14 k14 fun _ _ _ _ _ _ us hl => match us, hl with | [_, _, _], _ => rfl
  have D_inner_ties : Def K mg "_inner_ties" s_inner_ties ["web", "lot", "begin", "end"] := def_mk X G a15 l15 c15 k15 fun _ _ _ _ _ _ us hl => match us, hl with | [_, _, _, _], _ => rfl
  have D_have_no_round : Def K mg "_have_no_round" s_have_no_round ["web", "ties"] := def_mk X G a16 l16 c16 k16 fun _ _ _ _ _ _ us hl => match us, hl with | [_, _], _ => rfl
  have D_is_shut : Def K mg "_is_shut" s_is_shut ["web", "begin", "end"] := def_mk X G a17 l17 c17 k17 fun _ _ _ _ _ _ us hl => match us, hl with | [_, _, _], _ => rfl
  have D_is_bubble : Def K mg "_is_bubble" s_is_bubble ["web", "begin", "end"] := def_mk X G a18 l18 c18 k18 fun _ _ _ _ _ _ us hl => match us, hl with | [_, _, _], _ => rfl
  have Dis_shut : Def K mg "is_shut" sis_shut ["web", "begin", "end"] := def_mk X G a19 l19 c19 k19 fun _ _ _ _ _ _ us hl => match us, hl with | [_, _, _], _ => rfl
  have Dis_bubble : Def K mg "is_bubble" sis_bubble ["web", "begin", "end"] := def_mk X G a20 l20 c20 k20 fun _ _ _ _ _ _ us hl => match us, hl with | [_, _, _], _ => rfl
  have D_marked_with : Def K mg "_marked_with" s_marked_with ["web", "marked", "place"] := def_mk X G a21 l21 c21 k21 fun _ _ _ _ _ _ us hl => match us, hl with | [_, _, _], _ => rfl
  have D_may_be_passed : Def K mg "_may_be_passed" s_may_be_passed ["web", "place", "passed"] := def_mk X G a22 l22 c22 k22 fun _ _ _ _ _ _ us hl => match us, hl with | [_, _, _], _ => rfl
  have D_searched : Def K mg "_searched" s_searched ["web", "begin"] := def_mk X G a23 l23 c23 k23 fun _ _ _ _ _ _ us hl => match us, hl with | [_, _], _ => rfl
  have D_end_of : Def K mg "_end_of" s_end_of ["web", "place"] := def_mk X G a24 l24 c24 k24 fun _ _ _ _ _ _ us hl => match us, hl with | [_, _], _ => rfl
  have Dbubbles : Def K mg "bubbles" sbubbles ["web"] := def_mk X G a25 l25 c25 k25 fun _ _ _ _ _ _ us hl => match us, hl with | [_], _ => rfl
  have D_passed_within : Def K mg "_passed_within" s_passed_within ["web", "begin", "end"] := def_mk X G a26 l26 c26 k26 fun _ _ _ _ _ _ us hl => match us, hl with | [_, _, _], _ => rfl
  have Dinside : Def K mg "inside" sinside ["web", "begin", "end"] := def_mk X G a27 l27 c27 k27 fun _ _ _ _ _ _ us hl => match us, hl with | [_, _, _], _ => rfl
  have D_gone_on : Def K mg "_gone_on" s_gone_on ["web", "end", "walks"] := def_mk X G a28 l28 c28 k28 fun _ _ _ _ _ _ us hl => match us, hl with | [_, _, _], _ => rfl
  have Dways_through : Def K mg "ways_through" sways_through ["web", "begin", "end"] := def_mk X G a29 l29 c29 k29 fun _ _ _ _ _ _ us hl => match us, hl with | [_, _, _], _ => rfl
  have D_law_pot : Def K mg "_law_pot" s_law_pot ["_law_script", "_law_k"] := def_mk X G a30 l30 c30 k30 fun _ _ _ _ _ _ us hl => match us, hl with | [_, _], _ => rfl
  have D_law_draw : Def K mg "_law_draw" s_law_draw ["_law_pot_here", "_law_sides"] := def_mk X G a31 l31 c31 k31 fun _ _ _ _ _ _ us hl => match us, hl with | [_, _], _ => rfl
  have D_law_pick : Def K mg "_law_pick" s_law_pick ["_law_pot_here", "_law_some"] := def_mk X G a32 l32 c32 k32 fun _ _ _ _ _ _ us hl => match us, hl with | [_, _], _ => rfl
  have D_law_ties : Def K mg "_law_ties" s_law_ties ["_law_pot_here", "_law_places"] := def_mk X G a33 l33 c33 k33 fun _ _ _ _ _ _ us hl => match us, hl with | [_, _], _ => rfl
  have D_law_lots : Def K mg "_law_lots" s_law_lots ["_law_places", "_law_begin", "_law_end"] := def_mk X G a34 l34 c34 k34 fun _ _ _ _ _ _ us hl => match us, hl with | [_, _, _], _ => rfl
  have D_law_come_to : Def K mg "_law_come_to" s_law_come_to ["_law_ties_here", "_law_inner_here", "_law_place"] := def_mk X G a35 l35 c35 k35 fun _ _ _ _ _ _ us hl => match us, hl with | [_, _, _], _ => rfl
  have D_law_inner : Def K mg "_law_inner" s_law_inner ["_law_ties_here", "_law_lot", "_law_begin", "_law_end"] := def_mk X G a36 l36 c36 k36 fun _ _ _ _ _ _ us hl => match us, hl with | [_, _, _, _], _ => rfl
  have D_law_shut : Def K mg "_law_shut" s_law_shut ["_law_places", "_law_ties_here", "_law_begin", "_law_end"] := def_mk X G a37 l37 c37 k37 fun _ _ _ _ _ _ us hl => match us, hl with | [_, _, _, _], _ => rfl
  have D_law_walk : Def K mg "_law_walk" s_law_walk ["_law_pot_here", "_law_ties_here", "_law_begin"] := def_mk X G a38 l38 c38 k38 fun _ _ _ _ _ _ us hl => match us, hl with | [_, _, _], _ => rfl
  have D_law_walk_right : Def K mg "_law_walk_right" s_law_walk_right ["_law_ties_here", "_law_walk_here", "_law_begin", "_law_told"] := def_mk X G a39 l39 c39 k39 fun _ _ _ _ _ _ us hl => match us, hl with | [_, _, _, _], _ => rfl
  have D_law_bubbles : Def K mg "_law_bubbles" s_law_bubbles ["_law_places", "_law_ties_here"] := def_mk X G a40 l40 c40 k40 fun _ _ _ _ _ _ us hl => match us, hl with | [_, _], _ => rfl
  have D_law_bubble_right : Def K mg "_law_bubble_right" s_law_bubble_right ["_law_pot_here", "_law_web", "_law_told", "_law_bubble"] := def_mk X G a41 l41 c41 k41 fun _ _ _ _ _ _ us hl => match us, hl with | [_, _, _, _], _ => rfl
  have D_law_right : Def K mg "_law_right" s_law_right ["_law_pot_here"] := def_mk X G a42 l42 c42 k42 fun _ _ _ _ _ _ us hl => match us, hl with | [_], _ => rfl
  have Dlaw : Def K mg "law" slaw ["_law_script"] := def_mk X G a43 l43 c43 k43 fun _ _ _ _ _ _ us hl => match us, hl with | [_], _ => rfl
  refine ⟨PySem.W.fnOf "law" "law" (defArgs slaw) (defBody slaw) (defScope slaw) .none kV43 dc43 pm43 an43 cd43 ct43, fun s v => .of_eq rfl, fun base _ _ => ?_⟩
  have H_law_draw := ok_law_draw (P := l.prog) (w := w) (base := base) D_law_draw B Glb WK
  have H_law_ties := ok_law_ties (P := l.prog) (w := w) (base := base) D_law_ties B Glb WK H_law_draw
  have H_law_lots := ok_law_lots (P := l.prog) (w := w) (base := base) D_law_lots B Glb WK
  have H_law_come_to := ok_law_come_to (P := l.prog) (w := w) (base := base) D_law_come_to B Glb WK
  have H_law_inner := ok_law_inner (P := l.prog) (w := w) (base := base) D_law_inner B Glb WK H_law_come_to
  have H_law_shut := ok_law_shut (P := l.prog) (w := w) (base := base) D_law_shut B Glb WK H_law_lots H_law_inner
  have H_law_bubbles := ok_law_bubbles (P := l.prog) (w := w) (base := base) D_law_bubbles B Glb WK H_law_shut
  have Hneed_web := okneed_web (P := l.prog) (w := w) (base := base) Dneed_web B Glb WK
  have His_integer := okis_integer (P := l.prog) (w := w) (base := base) Dis_integer B Glb WK
  have His_between := okis_between (P := l.prog) (w := w) (base := base) Dis_between B Glb WK His_integer
  have His_listed := okis_listed (P := l.prog) (w := w) (base := base) Dis_listed B Glb WK
  have His_count := okis_count (P := l.prog) (w := w) (base := base) Dis_count B Glb WK His_integer
  have His_below := okis_below (P := l.prog) (w := w) (base := base) Dis_below B Glb WK His_count
  have Hare_ties := okare_ties (P := l.prog) (w := w) (base := base) Dare_ties B Glb WK His_listed His_below
  have HWeb___init__ := okWeb___init__ (P := l.prog) (w := w) (base := base) DWeb___init__ B Glb WK His_between Hare_ties
  have HWeb_places := okWeb_places (P := l.prog) (w := w) (base := base) DWeb_places B Glb WK
  have HWeb_ties := okWeb_ties (P := l.prog) (w := w) (base := base) DWeb_ties B Glb WK
  have Hback_web := okback_web (P := l.prog) (w := w) (base := base) Dback_web B Glb WK Hneed_web HWeb___init__ HWeb_places HWeb_ties
  have Hneed_place := okneed_place (P := l.prog) (w := w) (base := base) Dneed_place B Glb WK His_below HWeb_places
  have HWeb_ties_from := okWeb_ties_from (P := l.prog) (w := w) (base := base) DWeb_ties_from B Glb WK Hneed_place
  have H_marked_with := ok_marked_with (P := l.prog) (w := w) (base := base) D_marked_with B Glb WK HWeb_ties_from HWeb_ties
  have HWeb_ties_to := okWeb_ties_to (P := l.prog) (w := w) (base := base) DWeb_ties_to B Glb WK Hneed_place
  have H_may_be_passed := ok_may_be_passed (P := l.prog) (w := w) (base := base) D_may_be_passed B Glb WK HWeb_ties_to HWeb_ties
  have H_searched := ok_searched (P := l.prog) (w := w) (base := base) D_searched B Glb WK H_marked_with H_may_be_passed HWeb_ties_from
  have H_end_of := ok_end_of (P := l.prog) (w := w) (base := base) D_end_of B Glb WK H_searched
  have Hbubbles := okbubbles (P := l.prog) (w := w) (base := base) Dbubbles B Glb WK Hneed_web H_end_of HWeb_places
  have H_need_places := ok_need_places (P := l.prog) (w := w) (base := base) D_need_places B Glb WK Hneed_web Hneed_place
  have H_passed_within := ok_passed_within (P := l.prog) (w := w) (base := base) D_passed_within B Glb WK H_searched
  have H_gone_on := ok_gone_on (P := l.prog) (w := w) (base := base) D_gone_on B Glb WK HWeb_ties HWeb_ties_from
  have Hways_through := okways_through (P := l.prog) (w := w) (base := base) Dways_through B Glb WK H_need_places H_passed_within H_gone_on HWeb_ties_from
  have H_law_pick := ok_law_pick (P := l.prog) (w := w) (base := base) D_law_pick B Glb WK H_law_draw
  have H_law_walk := ok_law_walk (P := l.prog) (w := w) (base := base) D_law_walk B Glb WK H_law_draw H_law_pick
  have H_spread := ok_spread (P := l.prog) (w := w) (base := base) D_spread B Glb WK
  have H_ends_from := ok_ends_from (P := l.prog) (w := w) (base := base) D_ends_from B Glb WK HWeb_places
  have H_inside_of := ok_inside_of (P := l.prog) (w := w) (base := base) D_inside_of B Glb WK H_spread H_ends_from HWeb_ties
  have H_inner_ties := ok_inner_ties (P := l.prog) (w := w) (base := base) D_inner_ties B Glb WK HWeb_ties
  have H_left_from := ok_left_from (P := l.prog) (w := w) (base := base) D_left_from B Glb WK
  have Hparts_in_turn := okparts_in_turn (P := l.prog) (w := w) (base := base) Dparts_in_turn B Glb WK H_left_from
  have H_have_no_round := ok_have_no_round (P := l.prog) (w := w) (base := base) D_have_no_round B Glb WK Hparts_in_turn HWeb_places
  have H_is_shut := ok_is_shut (P := l.prog) (w := w) (base := base) D_is_shut B Glb WK H_inside_of H_inner_ties H_spread H_ends_from H_have_no_round
  have H_is_bubble := ok_is_bubble (P := l.prog) (w := w) (base := base) D_is_bubble B Glb WK H_inside_of H_is_shut HWeb_ties_from
  have His_bubble := okis_bubble (P := l.prog) (w := w) (base := base) Dis_bubble B Glb WK H_need_places H_is_bubble
  have H_law_walk_right := ok_law_walk_right (P := l.prog) (w := w) (base := base) D_law_walk_right B Glb WK
  have Hinside := okinside (P := l.prog) (w := w) (base := base) Dinside B Glb WK H_need_places H_passed_within
  have H_law_bubble_right := ok_law_bubble_right (P := l.prog) (w := w) (base := base) D_law_bubble_right B Glb WK Hways_through H_law_pick H_law_walk His_bubble H_law_walk_right Hinside HWeb___init__
  have His_shut := okis_shut (P := l.prog) (w := w) (base := base) Dis_shut B Glb WK H_need_places H_is_shut
  have H_law_right := ok_law_right (P := l.prog) (w := w) (base := base) D_law_right B Glb WK H_law_ties H_law_bubbles H_law_draw Hback_web Hbubbles H_law_bubble_right His_shut HWeb___init__
  have H_law_pot := ok_law_pot (P := l.prog) (w := w) (base := base) D_law_pot B Glb WK
  have Hlaw := oklaw (P := l.prog) (w := w) (base := base) Dlaw B Glb WK H_law_right H_law_pot
  obtain ⟨f, fd, O, m, k, b, F⟩ := Hlaw
  have e2 := m.symm.trans hfa
  cases e2
  rw [fd_is F l43] at O
  exact O
theorem walk {l : PySem.W.OpenLaw} {q : Program} {loose : List Str} {XP : (Str → Option Value) → Heap → Prop} {YP : World → Heap → Prop} {d : DefRec} {K : Params → PySem.W.Frag} (hn : l.most = some 63) (hdf : d.params.defaults = [])
    (hY : ∀ (w : World) (h : Heap), YP w h → (K w.params).In h)
    (F : ∀ (w : World) (mg : Str → Option Value) (fa : Addr) (h : Heap), (K w.params).In h → h.Ns mainGlobals mg → mg d.name = some (.ref fa) →
      ∃ fd : FuncData, (∀ (s : Shared) (u : Value), BindsTo s fd ⟨[u], []⟩ [("_law_script", u)]) ∧ ∀ base : Heap, (K w.params).In base → base.Ns mainGlobals mg → FnOk l.prog w (K w.params) mg base CX0 13 fa fd ["_law_script"] (splaw (K w.params) 0)) :
    PySem.W.WalkO q loose XP YP l.row.toRowW d [] (fun f vs => PySem.call f vs) :=
  L2.walk_of (n := 63) (k := 13) (x := "_law_script") (CX := fun _ => CX0) (sp := fun w => splaw (K w.params) 0) hn (by decide) hdf ⟨rfl, by decide, by decide⟩ hY F (fun _ _ a ns hl _ hS => ⟨a, ns, rfl, hS, hl, fun _ => rfl⟩) fun _ _ _ _ _ z => z
end My
open PySem PySem.W PyProof.Rows
set_option maxRecDepth 100000 in
set_option maxHeartbeats 0 in
theorem PySem.Challenge.cw_suretexts_k78_whole_nothing_between_holds : PySem.Challenge.rw_suretexts_k78_whole_nothing_between.Holds := by
  w_on; o_law; k_head; (case hw => w_witness2)
  k_fill
  refine My.walk (l := PySem.Challenge.rw_suretexts_k78_whole_nothing_between) rfl rfl (fun w h Y => PySem.W.kIn_of Y) ?F
  case F =>
    intro w mg fa h KX G hmg
    refine' My.all_mk KX G hmg ?aC ?aM0 ?iM0 ?lM0 ?cM0 ?kM0 ?aM1 ?gM1 ?tM1 ?rM1 ?lM1 ?cM1 ?kM1 ?aM2 ?iM2 ?lM2 ?cM2 ?kM2 ?aM3 ?iM3 ?lM3 ?cM3 ?kM3 ?aM4 ?iM4 ?lM4 ?cM4 ?kM4 ?a0 ?l0 ?c0 ?k0 ?a1 ?l1 ?c1 ?k1 ?a2 ?l2 ?c2 ?k2 ?a3 ?l3 ?c3 ?k3 ?a4 ?l4 ?c4 ?k4 ?a5 ?l5 ?c5 ?k5 ?a6 ?l6 ?c6 ?k6 ?a7 ?l7 ?c7 ?k7 ?a8 ?l8 ?c8 ?k8 ?a9 ?l9 ?c9 ?k9 ?a10 ?l10 ?c10 ?k10 ?a11 ?l11 ?c11 ?k11 ?a12 ?l12 ?c12 ?k12 ?a13 ?l13 ?c13 ?k13 ?a14 ?l14 ?c14 ?k14 ?a15 ?l15 ?c15 ?k15 ?a16 ?l16 ?c16 ?k16 ?a17 ?l17 ?c17 ?k17 ?a18 ?l18 ?c18 ?k18 ?a19 ?l19 ?c19 ?k19 ?a20 ?l20 ?c20 ?k20 ?a21 ?l21 ?c21 ?k21 ?a22 ?l22 ?c22 ?k22 ?a23 ?l23 ?c23 ?k23 ?a24 ?l24 ?c24 ?k24 ?a25 ?l25 ?c25 ?k25 ?a26 ?l26 ?c26 ?k26 ?a27 ?l27 ?c27 ?k27 ?a28 ?l28 ?c28 ?k28 ?a29 ?l29 ?c29 ?k29 ?a30 ?l30 ?c30 ?k30 ?a31 ?l31 ?c31 ?k31 ?a32 ?l32 ?c32 ?k32 ?a33 ?l33 ?c33 ?k33 ?a34 ?l34 ?c34 ?k34 ?a35 ?l35 ?c35 ?k35 ?a36 ?l36 ?c36 ?k36 ?a37 ?l37 ?c37 ?k37 ?a38 ?l38 ?c38 ?k38 ?a39 ?l39 ?c39 ?k39 ?a40 ?l40 ?c40 ?k40 ?a41 ?l41 ?c41 ?k41 ?a42 ?l42 ?c42 ?k42 ?a43 ?l43 ?c43 ?k43 ?pg ?hd ?po ?sa ?mk ?kc ?n0 ?n1 ?n2 ?n3 ?q1 ?q2 ?q3 ?q4 ?w1 ?z0 ?z1 ?z2 ?z3 ?z4 ?z5 ?z6 ?z7 ?z8 ?z9 ?z10 ?z11 ?z12 ?z13 ?z14 ?z15 ?y0 ?y1 ?y2
    (case aC => k_is)
    (case aM0 => k_is)
    (case iM0 => k_is)
    (case lM0 => k_is)
    (case cM0 => k_is)
    (case kM0 => k_is)
    (case aM1 => k_is)
    (case gM1 => k_is)
    (case tM1 => k_is)
    (case rM1 => k_is)
    (case lM1 => k_is)
    (case cM1 => k_is)
    (case kM1 => k_is)
    (case aM2 => k_is)
    (case iM2 => k_is)
    (case lM2 => k_is)
    (case cM2 => k_is)
    (case kM2 => k_is)
    (case aM3 => k_is)
    (case iM3 => k_is)
    (case lM3 => k_is)
    (case cM3 => k_is)
    (case kM3 => k_is)
    (case aM4 => k_is)
    (case iM4 => k_is)
    (case lM4 => k_is)
    (case cM4 => k_is)
    (case kM4 => k_is)
    (case a0 => k_is)
    (case l0 => k_is)
    (case c0 => k_is)
    (case k0 => k_is)
    (case a1 => k_is)
    (case l1 => k_is)
    (case c1 => k_is)
    (case k1 => k_is)
    (case a2 => k_is)
    (case l2 => k_is)
    (case c2 => k_is)
    (case k2 => k_is)
    (case a3 => k_is)
    (case l3 => k_is)
    (case c3 => k_is)
    (case k3 => k_is)
    (case a4 => k_is)
    (case l4 => k_is)
    (case c4 => k_is)
    (case k4 => k_is)
    (case a5 => k_is)
    (case l5 => k_is)
    (case c5 => k_is)
    (case k5 => k_is)
    (case a6 => k_is)
    (case l6 => k_is)
    (case c6 => k_is)
    (case k6 => k_is)
    (case a7 => k_is)
    (case l7 => k_is)
    (case c7 => k_is)
    (case k7 => k_is)
    (case a8 => k_is)
    (case l8 => k_is)
    (case c8 => k_is)
    (case k8 => k_is)
    (case a9 => k_is)
    (case l9 => k_is)
    (case c9 => k_is)
    (case k9 => k_is)
    (case a10 => k_is)
    (case l10 => k_is)
    (case c10 => k_is)
    (case k10 => k_is)
    (case a11 => k_is)
    (case l11 => k_is)
    (case c11 => k_is)
    (case k11 => k_is)
    (case a12 => k_is)
    (case l12 => k_is)
    (case c12 => k_is)
    (case k12 => k_is)
    (case a13 => k_is)
    (case l13 => k_is)
    (case c13 => k_is)
    (case k13 => k_is)
    (case a14 => k_is)
    (case l14 => k_is)
    (case c14 => k_is)
    (case k14 => k_is)
    (case a15 => k_is)
    (case l15 => k_is)
    (case c15 => k_is)
    (case k15 => k_is)
    (case a16 => k_is)
    (case l16 => k_is)
    (case c16 => k_is)
    (case k16 => k_is)
    (case a17 => k_is)
    (case l17 => k_is)
    (case c17 => k_is)
    (case k17 => k_is)
    (case a18 => k_is)
    (case l18 => k_is)
    (case c18 => k_is)
    (case k18 => k_is)
    (case a19 => k_is)
    (case l19 => k_is)
    (case c19 => k_is)
    (case k19 => k_is)
    (case a20 => k_is)
    (case l20 => k_is)
    (case c20 => k_is)
    (case k20 => k_is)
    (case a21 => k_is)
    (case l21 => k_is)
    (case c21 => k_is)
    (case k21 => k_is)
    (case a22 => k_is)
    (case l22 => k_is)
    (case c22 => k_is)
    (case k22 => k_is)
    (case a23 => k_is)
    (case l23 => k_is)
    (case c23 => k_is)
    (case k23 => k_is)
    (case a24 => k_is)
    (case l24 => k_is)
    (case c24 => k_is)
    (case k24 => k_is)
    (case a25 => k_is)
    (case l25 => k_is)
    (case c25 => k_is)
    (case k25 => k_is)
    (case a26 => k_is)
    (case l26 => k_is)
    (case c26 => k_is)
    (case k26 => k_is)
    (case a27 => k_is)
    (case l27 => k_is)
    (case c27 => k_is)
    (case k27 => k_is)
    (case a28 => k_is)
    (case l28 => k_is)
    (case c28 => k_is)
    (case k28 => k_is)
    (case a29 => k_is)
    (case l29 => k_is)
    (case c29 => k_is)
    (case k29 => k_is)
    (case a30 => k_is)
    (case l30 => k_is)
    (case c30 => k_is)
    (case k30 => k_is)
    (case a31 => k_is)
    (case l31 => k_is)
    (case c31 => k_is)
    (case k31 => k_is)
    (case a32 => k_is)
    (case l32 => k_is)
    (case c32 => k_is)
    (case k32 => k_is)
    (case a33 => k_is)
    (case l33 => k_is)
    (case c33 => k_is)
    (case k33 => k_is)
    (case a34 => k_is)
    (case l34 => k_is)
    (case c34 => k_is)
    (case k34 => k_is)
    (case a35 => k_is)
    (case l35 => k_is)
    (case c35 => k_is)
    (case k35 => k_is)
    (case a36 => k_is)
    (case l36 => k_is)
    (case c36 => k_is)
    (case k36 => k_is)
    (case a37 => k_is)
    (case l37 => k_is)
    (case c37 => k_is)
    (case k37 => k_is)
    (case a38 => k_is)
    (case l38 => k_is)
    (case c38 => k_is)
    (case k38 => k_is)
    (case a39 => k_is)
    (case l39 => k_is)
    (case c39 => k_is)
    (case k39 => k_is)
    (case a40 => k_is)
    (case l40 => k_is)
    (case c40 => k_is)
    (case k40 => k_is)
    (case a41 => k_is)
    (case l41 => k_is)
    (case c41 => k_is)
    (case k41 => k_is)
    (case a42 => k_is)
    (case l42 => k_is)
    (case c42 => k_is)
    (case k42 => k_is)
    (case a43 => k_is)
    (case l43 => k_is)
    (case c43 => k_is)
    (case k43 => k_is)
    (case pg => k_is)
    (case hd => k_is)
    (case po => k_is)
    (case sa => k_is)
    (case mk => k_is)
    (case kc => k_is)
    (case n0 => k_is)
    (case n1 => k_is)
    (case n2 => k_is)
    (case n3 => k_is)
    (case q1 => k_is)
    (case q2 => k_is)
    (case q3 => k_is)
    (case q4 => k_is)
    (case w1 => k_is)
    (case z0 => k_is)
    (case z1 => k_is)
    (case z2 => k_is)
    (case z3 => k_is)
    (case z4 => k_is)
    (case z5 => k_is)
    (case z6 => k_is)
    (case z7 => k_is)
    (case z8 => k_is)
    (case z9 => k_is)
    (case z10 => k_is)
    (case z11 => k_is)
    (case z12 => k_is)
    (case z13 => k_is)
    (case z14 => k_is)
    (case z15 => k_is)
    (case y0 => k_is)
    (case y1 => k_is)
    (case y2 => k_is)
