import PyProof.Rows.All
import Wide.All
import OpenK.AllK
import Wide.FinOn
import HandS.ForMost
import HandS.IsInst
import HandS.SortInts
import HandS.Walk
import HandS.Property
import HandS.Style
import HandS.OwnEq
import PyProof.InstNe
import HandS.DictTup
import KE.SortData
import KE.KDictWalk
import HandS.Set
import HandS.Strs
import PyProof.TupleOfSeq
import HandS.ForExc
import HandS.TryOnly
import HandS.ExcOwn
import HandS.ExcIs
import HandS.MakeKwOnly
import HandS.ExcInit
import HandS.ExcField
import HandS.Iter
import HandS.DictComp
import HandS.Small
import KE.DataMinMax
import PyProof.Rows.StrStep
import HandS.Deep
import PyProof.StrLawsIn
import PySem.Challenge.RW_suretexts_k17_any_value_as_readings
set_option Elab.async false
set_option maxRecDepth 100000
set_option linter.all false
namespace My
/-! ### reading round and round -/
def rd (l : List Nat) (p n : Nat) : List Nat := (List.range n).map fun k => l.getD ((p + k) % l.length) 0
theorem rd_len (l : List Nat) (p n : Nat) : (rd l p n).length = n := by simp [rd]
theorem rd_zero (l : List Nat) (p : Nat) : rd l p 0 = [] := rfl
theorem rd_succ (l : List Nat) (p n : Nat) : rd l p (n + 1) = rd l p n ++ [l.getD ((p + n) % l.length) 0] := by
  simp [rd, List.range_succ]
theorem rd_get (l : List Nat) (p n k : Nat) (h : k < n) : (rd l p n)[k]? = some (l.getD ((p + k) % l.length) 0) := by
  simp [rd, h]
theorem rd_drop (l : List Nat) (p n k : Nat) : (rd l p n).drop k = rd l (p + k) (n - k) := by
  apply List.ext_getElem?
  intro i
  rw [List.getElem?_drop]
  by_cases h : k + i < n
  · rw [rd_get _ _ _ _ h, rd_get _ _ _ _ (by omega), Nat.add_assoc]
  · rw [List.getElem?_eq_none (by rw [rd_len]; omega), List.getElem?_eq_none (by rw [rd_len]; omega)]
theorem rd_mod (l : List Nat) (p n : Nat) : rd l (p % l.length) n = rd l p n := by
  unfold rd
  apply List.map_congr_left
  intro k _
  rw [Nat.mod_add_mod]
theorem rd_self (l : List Nat) : rd l 0 l.length = l := by
  apply List.ext_getElem?
  intro i
  by_cases h : i < l.length
  · rw [rd_get _ _ _ _ h, Nat.zero_add, Nat.mod_eq_of_lt h, List.getElem?_eq_getElem h, List.getD_eq_getElem?_getD, List.getElem?_eq_getElem h]
    rfl
  · rw [List.getElem?_eq_none (by rw [rd_len]; omega), List.getElem?_eq_none (by omega)]
/-- turned -/
theorem rd_turn (l : List Nat) (p : Nat) (h : p < l.length) : rd l p l.length = l.drop p ++ l.take p := by
  apply List.ext_getElem?
  intro i
  by_cases hi : i < l.length
  · rw [rd_get _ _ _ _ hi]
    by_cases h2 : i < l.length - p
    · rw [List.getElem?_append_left (by rw [List.length_drop]; exact h2), List.getElem?_drop, Nat.mod_eq_of_lt (by omega), List.getElem?_eq_getElem (by omega), List.getD_eq_getElem?_getD, List.getElem?_eq_getElem (by omega)]
      rfl
    · rw [List.getElem?_append_right (by rw [List.length_drop]; omega), List.length_drop, List.getElem?_take_of_lt (by omega)]
      have e : (p + i) % l.length = i - (l.length - p) := by
        rw [Nat.mod_eq_sub_mod (by omega), Nat.mod_eq_of_lt (by omega)]
        omega
      rw [e, List.getElem?_eq_getElem (by omega), List.getD_eq_getElem?_getD, List.getElem?_eq_getElem (by omega)]
      rfl
  · rw [List.getElem?_eq_none (by rw [rd_len]; omega), List.getElem?_eq_none (by rw [List.length_append, List.length_drop, List.length_take]; omega)]
/-- reading from a turned ring -/
theorem rd_turned (l : List Nat) (b p n : Nat) (hl : 0 < l.length) : rd (rd l b l.length) p n = rd l (b + p) n := by
  unfold rd
  apply List.map_congr_left
  intro k _
  have e : ((List.range l.length).map fun k => l.getD ((b + k) % l.length) 0).length = l.length := by simp
  rw [e]
  have h2 : (p + k) % l.length < l.length := Nat.mod_lt _ hl
  rw [List.getD_eq_getElem?_getD, List.getElem?_map, List.getElem?_range h2]
  show l.getD ((b + (p + k) % l.length) % l.length) 0 = _
  rw [Nat.add_mod_mod, Nat.add_assoc]

/-! ### beginnings that are endings -/
def Pre (w t : List Nat) (k : Nat) : Prop := k ≤ w.length ∧ w.take k <:+ t
def Longest (w t : List Nat) (k : Nat) : Prop := Pre w t k ∧ ∀ k', Pre w t k' → k' ≤ k
def IsLB (p : List Nat) (b : Nat) : Prop := b < p.length ∧ p.take b <:+ p ∧ ∀ b', b' < p.length → p.take b' <:+ p → b' ≤ b
def At (w t : List Nat) (c k : Nat) : Prop := Pre w t k ∧ ∀ k', Pre w t k' → w[k']? = some c → k' ≤ k
theorem suff_one {a t : List Nat} {x c : Nat} : a ++ [x] <:+ t ++ [c] ↔ a <:+ t ∧ x = c := by
  constructor
  · rintro ⟨u, hu⟩
    rw [← List.append_assoc] at hu
    have h := List.append_inj' hu rfl
    exact ⟨⟨u, h.1⟩, by simpa using h.2⟩
  · rintro ⟨⟨u, hu⟩, rfl⟩
    exact ⟨u, by rw [← hu, List.append_assoc]⟩
theorem pre_succ {w t : List Nat} {c k : Nat} : Pre w (t ++ [c]) (k + 1) ↔ Pre w t k ∧ w[k]? = some c := by
  unfold Pre
  constructor
  · rintro ⟨h1, h2⟩
    have hk : k < w.length := by omega
    rw [List.take_succ_eq_append_getElem hk, suff_one] at h2
    exact ⟨⟨by omega, h2.1⟩, by rw [List.getElem?_eq_getElem hk, h2.2]⟩
  · rintro ⟨⟨h1, h2⟩, h3⟩
    have hk : k < w.length := by
      rw [List.getElem?_eq_some_iff] at h3
      exact h3.1
    rw [List.take_succ_eq_append_getElem hk, suff_one]
    rw [List.getElem?_eq_getElem hk] at h3
    exact ⟨by omega, h2, Option.some.inj h3⟩
theorem pre_zero (w t : List Nat) : Pre w t 0 := ⟨Nat.zero_le _, by simp⟩
theorem at_start {w t : List Nat} {c k : Nat} (h : Longest w t k) : At w t c k := ⟨h.1, fun k' h' _ => h.2 k' h'⟩
theorem at_fall {w t : List Nat} {c k b : Nat} (h : At w t c k) (hne : w[k]? ≠ some c) (hb : IsLB (w.take k) b) : At w t c b := by
  obtain ⟨h1, h2⟩ := h
  obtain ⟨b1, b2, b3⟩ := hb
  have lk : (w.take k).length = k := by rw [List.length_take]; have := h1.1; omega
  rw [lk] at b1 b3
  have tk : ∀ j, j ≤ k → (w.take k).take j = w.take j := fun j hj => by rw [List.take_take, Nat.min_eq_left hj]
  refine ⟨⟨by have := h1.1; omega, ?_⟩, fun k' p' e' => ?_⟩
  · rw [← tk b (by omega)]
    exact b2.trans h1.2
  · have l1 := h2 k' p' e'
    have l2 : k' ≠ k := by rintro rfl; exact hne e'
    have l3 : k' < k := by omega
    refine b3 k' l3 ?_
    rw [tk k' (by omega)]
    refine List.suffix_of_suffix_length_le p'.2 h1.2 ?_
    rw [List.length_take, List.length_take]
    have := h1.1
    omega
theorem at_hit {w t : List Nat} {c k : Nat} (h : At w t c k) (he : w[k]? = some c) : Longest w (t ++ [c]) (k + 1) := by
  refine ⟨pre_succ.mpr ⟨h.1, he⟩, fun k' p' => ?_⟩
  cases k' with
  | zero => omega
  | succ j =>
    have q := pre_succ.mp p'
    have := h.2 j q.1 q.2
    omega
theorem at_miss {w t : List Nat} {c : Nat} (h : At w t c 0) (he : w[0]? ≠ some c) : Longest w (t ++ [c]) 0 := by
  refine ⟨pre_zero _ _, fun k' p' => ?_⟩
  cases k' with
  | zero => omega
  | succ j =>
    have q := pre_succ.mp p'
    have l := h.2 j q.1 q.2
    have e : j = 0 := by omega
    subst e
    exact absurd q.2 he
theorem longest_nil (w : List Nat) : Longest w [] 0 := by
  refine ⟨pre_zero _ _, fun k' p' => ?_⟩
  have h := List.suffix_nil.mp p'.2
  have h2 : (w.take k').length = 0 := by rw [h]; rfl
  rw [List.length_take] at h2
  have := p'.1
  omega
theorem longest_le {w t : List Nat} {k : Nat} (h : Longest w t k) : k ≤ t.length := by
  have h1 := h.1.2.length_le
  rw [List.length_take] at h1
  have := h.1.1
  omega
/-- the longest beginning that ends the letters behind the first one is the longest border -/
theorem lb_of_longest {w : List Nat} {i k : Nat} (hi : i < w.length) (h : Longest w ((w.drop 1).take i) k) : IsLB (w.take (i + 1)) k := by
  have hk := longest_le h
  have ht : ((w.drop 1).take i).length = i := by rw [List.length_take, List.length_drop]; omega
  rw [ht] at hk
  have hl : (w.take (i + 1)).length = i + 1 := by rw [List.length_take]; omega
  have tk : ∀ j, j ≤ i + 1 → (w.take (i + 1)).take j = w.take j := fun j hj => by rw [List.take_take, Nat.min_eq_left hj]
  obtain ⟨a, r, rfl⟩ : ∃ a r, w = a :: r := by
    cases w with
    | nil => simp at hi
    | cons a r => exact ⟨a, r, rfl⟩
  have e : (a :: r).take (i + 1) = a :: ((a :: r).drop 1).take i := by simp
  refine ⟨by omega, ?_, fun b' hb' hs => ?_⟩
  · rw [tk k (by omega), e]
    exact h.1.2.trans (List.suffix_cons _ _)
  · rw [hl] at hb'
    refine h.2 b' ⟨by omega, ?_⟩
    rw [tk b' (by omega), e, List.suffix_cons_iff] at hs
    rcases hs with hs | hs
    · have hq := congrArg List.length hs
      rw [List.length_take, ← e, hl] at hq
      omega
    · exact hs
theorem lb_one {w : List Nat} (h : 0 < w.length) : IsLB (w.take 1) 0 := lb_of_longest h (by simpa using longest_nil w)
theorem lb_unique {p : List Nat} {a b : Nat} (h1 : IsLB p a) (h2 : IsLB p b) : a = b := by
  have := h1.2.2 b h2.1 h2.2.1
  have := h2.2.2 a h1.1 h1.2.1
  omega
/-- the list of the longest borders -/
def Bords (w : List Nat) (L : List Nat) : Prop := L.length = w.length ∧ ∀ j, j < w.length → ∃ b, L[j]? = some b ∧ IsLB (w.take (j + 1)) b
theorem bords_unique {w A B : List Nat} (h1 : Bords w A) (h2 : Bords w B) : A = B := by
  apply List.ext_getElem?
  intro i
  by_cases h : i < w.length
  · obtain ⟨a, ea, la⟩ := h1.2 i h
    obtain ⟨b, eb, lb⟩ := h2.2 i h
    rw [ea, eb, lb_unique la lb]
  · rw [List.getElem?_eq_none (by rw [h1.1]; omega), List.getElem?_eq_none (by rw [h2.1]; omega)]
/-- some first ones of them -/
def BordsTo (w : List Nat) (n : Nat) (L : List Nat) : Prop := L.length = n ∧ ∀ j, j < n → ∃ b, L[j]? = some b ∧ IsLB (w.take (j + 1)) b
theorem bordsTo_one {w : List Nat} (h : 0 < w.length) : BordsTo w 1 [0] := by
  refine ⟨rfl, fun j hj => ?_⟩
  have e : j = 0 := by omega
  subst e
  exact ⟨0, rfl, lb_one h⟩
theorem bordsTo_succ {w L : List Nat} {i k : Nat} (hi : i < w.length) (hB : BordsTo w i L) (h : Longest w ((w.drop 1).take i) k) : BordsTo w (i + 1) (L ++ [k]) := by
  refine ⟨by rw [List.length_append, hB.1]; rfl, fun j hj => ?_⟩
  by_cases hji : j < i
  · obtain ⟨b, e, l⟩ := hB.2 j hji
    exact ⟨b, by rw [List.getElem?_append_left (by rw [hB.1]; exact hji)]; exact e, l⟩
  · have e : j = i := by omega
    subst e
    refine ⟨k, ?_, lb_of_longest hi h⟩
    rw [List.getElem?_append_right (by rw [hB.1]; omega), hB.1, Nat.sub_self]
    rfl
theorem bordsTo_at {w L : List Nat} {n k : Nat} (hB : BordsTo w n L) (h0 : 0 < k) (hk : k ≤ n) : ∃ b, L[k - 1]? = some b ∧ IsLB (w.take k) b ∧ b < k := by
  obtain ⟨b, e, l⟩ := hB.2 (k - 1) (by omega)
  rw [show k - 1 + 1 = k by omega] at l
  refine ⟨b, e, l, ?_⟩
  have := l.1
  rw [List.length_take] at this
  omega
theorem bords_of {w L : List Nat} : BordsTo w w.length L ↔ Bords w L := Iff.rfl

/-! ### a word begins at a place -/
def due (l w : List Nat) : List Nat := (List.range l.length).filter fun p => rd l p w.length == w
theorem mem_due {l w : List Nat} {p : Nat} : p ∈ due l w ↔ p < l.length ∧ rd l p w.length = w := by
  simp [due]
/-- of the first n letters read -/
def dueTo (l w : List Nat) (n : Nat) : List Nat := (List.range n).filter fun p => rd l p w.length == w
theorem dueTo_all (l w : List Nat) : dueTo l w l.length = due l w := rfl
theorem dueTo_succ_yes {l w : List Nat} {n : Nat} (h : rd l n w.length = w) : dueTo l w (n + 1) = dueTo l w n ++ [n] := by
  simp [dueTo, List.range_succ, List.filter_append, h]
theorem dueTo_succ_no {l w : List Nat} {n : Nat} (h : ¬ rd l n w.length = w) : dueTo l w (n + 1) = dueTo l w n := by
  simp [dueTo, List.range_succ, List.filter_append, h]
/-- the whole word was just read -/
theorem longest_full {l w : List Nat} {n k : Nat} (h : Longest w (rd l 0 n) k) : k = w.length ↔ w.length ≤ n ∧ rd l (n - w.length) w.length = w := by
  have key : w <:+ rd l 0 n ↔ w.length ≤ n ∧ rd l (n - w.length) w.length = w := by
    constructor
    · intro hs
      have hl := hs.length_le
      rw [rd_len] at hl
      refine ⟨hl, ?_⟩
      have e := List.suffix_iff_eq_drop.mp hs
      rw [rd_len, rd_drop, Nat.zero_add, show n - (n - w.length) = w.length by omega] at e
      exact e.symm
    · rintro ⟨hl, e⟩
      rw [List.suffix_iff_eq_drop, rd_len, rd_drop, Nat.zero_add, show n - (n - w.length) = w.length by omega]
      exact e.symm
  rw [← key]
  constructor
  · rintro rfl
    have := h.1.2
    rw [List.take_length] at this
    exact this
  · intro hs
    have h1 := h.1.1
    have h2 := h.2 w.length ⟨Nat.le_refl _, by rw [List.take_length]; exact hs⟩
    omega

/-! ### the period -/
theorem getD_lt {l : List Nat} {i : Nat} (h : i < l.length) : l[i]? = some (l.getD i 0) := by
  rw [List.getD_eq_getElem?_getD, List.getElem?_eq_getElem h]
  rfl
theorem line_period {l : List Nat} {b : Nat} (h : IsLB l b) (i : Nat) (hi : i + (l.length - b) < l.length) : l.getD (i + (l.length - b)) 0 = l.getD i 0 := by
  have hb := h.1
  have e := List.suffix_iff_eq_drop.mp h.2.1
  have hl : (l.take b).length = b := by rw [List.length_take]; omega
  rw [hl] at e
  have e2 := congrArg (fun z : List Nat => z[i]?) e
  simp only [List.getElem?_take, List.getElem?_drop] at e2
  rw [if_pos (by omega)] at e2
  rw [List.getD_eq_getElem?_getD, List.getD_eq_getElem?_getD, e2, Nat.add_comm]
theorem line_mult {l : List Nat} {s : Nat} (h : ∀ i, i + s < l.length → l.getD (i + s) 0 = l.getD i 0) : ∀ (m i : Nat), i + m * s < l.length → l.getD (i + m * s) 0 = l.getD i 0
  | 0, i, _ => by simp
  | m + 1, i, hi => by
    have e : i + (m + 1) * s = (i + m * s) + s := by rw [Nat.succ_mul]; omega
    rw [e] at hi ⊢
    rw [h _ hi]
    exact line_mult h m i (by omega)
theorem round_period {l : List Nat} {s : Nat} (_hs : 0 < s) (hsl : s ≤ l.length) (hd : l.length % s = 0) (h : ∀ i, i + s < l.length → l.getD (i + s) 0 = l.getD i 0) (i : Nat) (hi : i < l.length) : l.getD ((i + s) % l.length) 0 = l.getD i 0 := by
  by_cases hlt : i + s < l.length
  · rw [Nat.mod_eq_of_lt hlt]
    exact h i hlt
  · have e1 : (i + s) % l.length = i + s - l.length := by
      rw [Nat.mod_eq_sub_mod (by omega), Nat.mod_eq_of_lt (by omega)]
    rw [e1]
    obtain ⟨q, hq⟩ : ∃ q, l.length = s * q := ⟨l.length / s, by rw [Nat.mul_div_cancel' (Nat.dvd_of_mod_eq_zero hd)]⟩
    have hq0 : 0 < q := by
      rcases Nat.eq_zero_or_pos q with z | z
      · subst z; omega
      · exact z
    obtain ⟨r, rfl⟩ : ∃ r, q = r + 1 := ⟨q - 1, by omega⟩
    have e2 : l.length = r * s + s := by rw [hq, Nat.mul_succ, Nat.mul_comm]
    have e3 : i = (i + s - l.length) + r * s := by omega
    have := line_mult h r (i + s - l.length) (by omega)
    rw [← e3] at this
    exact this.symm
/-- the told period -/
def per (l : List Nat) (b : Nat) : Nat := if l.length % (l.length - b) = 0 then l.length - b else l.length
theorem per_turns {l : List Nat} {b : Nat} (h : IsLB l b) (i : Nat) (hi : i < l.length) : l.getD ((i + per l b) % l.length) 0 = l.getD i 0 := by
  have hb := h.1
  unfold per
  split
  · exact round_period (by omega) (by omega) (by assumption) (fun j hj => line_period h j hj) i hi
  · rw [Nat.add_mod_right, Nat.mod_eq_of_lt hi]
theorem rd_per {l : List Nat} {b : Nat} (h : IsLB l b) (p n : Nat) : rd l (p + per l b) n = rd l p n := by
  have hb := h.1
  unfold rd
  apply List.map_congr_left
  intro k _
  rw [show p + per l b + k = (p + k) + per l b by omega, ← Nat.mod_add_mod]
  rw [per_turns h ((p + k) % l.length) (Nat.mod_lt _ (by omega))]
theorem per_pos {l : List Nat} {b : Nat} (h : IsLB l b) : 0 < per l b ∧ per l b ≤ l.length := by
  have hb := h.1
  unfold per
  split <;> omega

/-! ### rising lists of the same numbers are one list -/
theorem rising_ext : ∀ {a b : List Int}, a.Pairwise (· < ·) → b.Pairwise (· < ·) → (∀ x, x ∈ a ↔ x ∈ b) → a = b
  | [], [], _, _, _ => rfl
  | [], y :: ys, _, _, h => by have := (h y).mpr (by simp); simp at this
  | x :: xs, [], _, _, h => by have := (h x).mp (by simp); simp at this
  | x :: xs, y :: ys, ha, hb, h => by
    rw [List.pairwise_cons] at ha hb
    have e : x = y := by
      have h1 := (h x).mp (by simp)
      have h2 := (h y).mpr (by simp)
      rw [List.mem_cons] at h1 h2
      rcases h1 with h1 | h1
      · exact h1
      · rcases h2 with h2 | h2
        · exact h2.symm
        · have := ha.1 y h2
          have := hb.1 x h1
          omega
    subst e
    congr 1
    refine rising_ext ha.2 hb.2 fun z => ?_
    constructor
    · intro hz
      have := (h z).mp (List.mem_cons_of_mem _ hz)
      rw [List.mem_cons] at this
      rcases this with rfl | this
      · have := ha.1 _ hz; omega
      · exact this
    · intro hz
      have := (h z).mpr (List.mem_cons_of_mem _ hz)
      rw [List.mem_cons] at this
      rcases this with rfl | this
      · have := hb.1 _ hz; omega
      · exact this
theorem rising_of {s : List Int} (h : s.Pairwise (· ≤ ·)) (n : s.Nodup) : s.Pairwise (· < ·) := by
  have := h.and n
  exact this.imp fun ⟨h1, h2⟩ => by omega
/-- sorted, and the same numbers, none twice: that is it -/
theorem sorted_is {s m d : List Int} (hp : List.Perm s m) (hs : s.Pairwise (· ≤ ·)) (hn : m.Nodup) (hd : d.Pairwise (· < ·)) (h : ∀ x, x ∈ m ↔ x ∈ d) : s = d := by
  refine rising_ext (rising_of hs (hp.nodup_iff.mpr hn)) hd fun x => ?_
  rw [hp.mem_iff]
  exact h x
theorem due_rising (l w : List Nat) : ((due l w).map fun n : Nat => (n : Int)).Pairwise (· < ·) := by
  rw [List.pairwise_map]
  refine List.Pairwise.imp (fun {a b} (h : a < b) => by omega) ?_
  exact List.Pairwise.filter _ List.pairwise_lt_range
end My
namespace My
open PySem L2 PyProof.Rows
/-- a text by its letters -/
abbrev T (l : List Nat) : V := .str ⟨l.toArray⟩
section
variable {X : Cx}
theorem mul_flat (l : List Nat) (n : Nat) : ((List.replicate n l.toArray).foldl (· ++ ·) (#[] : Array Nat)) = (List.replicate n l).flatten.toArray := by
  have h : ∀ (m : Nat) (acc : List Nat), (List.replicate m l.toArray).foldl (· ++ ·) acc.toArray = (acc ++ (List.replicate m l).flatten).toArray := by
    intro m
    induction m with
    | zero => intro acc; simp
    | succ m ih =>
      intro acc
      rw [List.replicate_succ, List.foldl_cons]
      have e : acc.toArray ++ l.toArray = (acc ++ l).toArray := by simp
      rw [e, ih, List.replicate_succ, List.flatten_cons, List.append_assoc]
  have := h n []
  simpa using this
theorem op_mul_str : OpR X (binaryOp .Mult) (fun x y H Q => ∃ l n, x = T l ∧ y = .int (n : Nat) ∧ 1 ≤ n ∧ n ≤ 1000 ∧ l.length ≤ 1000 ∧ Q (T (List.replicate n l).flatten) H) := by
  intro pins s σ H x y v u Q I rx ry h
  obtain ⟨l, n, rfl, rfl, h1, h2, h3, q⟩ := h
  obtain ⟨t, rfl⟩ := rx
  obtain ⟨t', rfl⟩ := ry
  have hlen : (⟨l.toArray⟩ : Str).length = l.length := by simp [Str.length]
  have ok : MulOk ⟨l.toArray⟩ (n : Int) := by
    refine ⟨?_, fun _ _ => ?_, fun _ _ => ?_⟩
    · have a1 : decide ((n : Int) < -(2 ^ 63 : Int)) = false := decide_eq_false (by omega)
      have a2 : decide ((n : Int) ≥ 2 ^ 63) = false := decide_eq_false (by omega)
      rw [a1, a2]
      rfl
    · rw [hlen]
      have : (1000000 : Int) ≤ (2 ^ 63 - 1) / (n : Int) := by
        rw [Int.le_ediv_iff_mul_le (by omega)]
        omega
      omega
    · rw [hlen]
      have e : (n : Int).toNat = n := by omega
      rw [e]
      have : l.length * n ≤ 1000 * 1000 := Nat.mul_le_mul h3 h2
      have z : (1000000 : Nat) ≤ sizeLine := by decide
      simp [Builtin.Str.tooLong]
      omega
  refine SB.mul ok fun t'' k => ?_
  have em : Txt.mul ⟨l.toArray⟩ (n : Int) = ⟨(List.replicate n l).flatten.toArray⟩ := by
    unfold Txt.mul
    rw [if_neg (by omega)]
    split
    · rename_i c
      rw [hlen] at c
      simp at c
      rcases c with c | c
      · have : n = 1 := by omega
        subst this
        simp
      · subst c
        simp
    · have e : (n : Int).toNat = n := by omega
      rw [e]
      exact congrArg Str.mk (mul_flat l n)
  rw [em]
  exact ⟨.str _, H, I.tok _, ⟨_, rfl⟩, q⟩
theorem call_repr_bl : CallR X (.builtin "repr") (fun xs H Q => ∃ b, xs = [.bl b] ∧ Q (.str (if b then "True" else "False")) H) := by
  intro pins s σ H xs us Q I r h
  obtain ⟨b, rfl, q⟩ := h
  obtain ⟨u, rfl, e⟩ := vals1 r
  cases e
  exact PySem.P.repr_of_bool ⟨.str _, H, I.tok _, ⟨_, rfl⟩, q⟩
/-- a module's constant that is an int -/
theorem pe_globI {x : Str} {n : Int} {pos : Pos} (h : ∃ t, X.mg x = some (.int n t)) (hg : Gl X x := by rfl) (hd : (x == ("__debug__" : Str)) = false := by decide) : PE X (.Name x pos) (tC (.int n)) := by
  obtain ⟨t, e⟩ := h
  exact pe_glob (v := .int n) hg e ⟨t, rfl⟩ hd
variable {CX : CXT} {k : Nat} {f : Addr} {fd : FuncData} {ps ks : List Str} {sp : Sp} {E : XK} {x : Str} {p pos : Pos} {kws : List Keyword} {tk : TA} {g : List Value → List Value → List Value} {gV : List V → List V → List V}
/-- f(a=.., b=..) -/
theorem pe_callKK (F : FnOk X.prog X.w X.K X.mg X.base CX k f fd ps sp) (hr : Room k X.A) (hg : Gl X x) (hm : X.mg x = some (.ref f)) (hk : PySem.W.keepIn X.K (.ref f) = true) (hb : KBinds X.K fd ps ks g gV) (hx : Passes CX X E)
    (hkw : PK X kws tk) (hall : (backToKw pos (keywordEach kws X.env)).all (·.1.isSome) = true := by rfl) (hks : (backToKw pos (keywordEach kws X.env)).filterMap (·.1) = ks := by rfl)
    (hdb : (x == ("__debug__" : Str)) = false := by decide)
    (hpl : ((backTo pos (starEach [] X.env)).any (·.1) || (backToKw pos (keywordEach kws X.env)).any (·.1.isNone)) = false := by rfl) :
    PE X (.Call (.Name x p) [] kws pos) (tCallK sp gV E tNil tk) := by
  refine ⟨fun pins s σ H Q I h => ?_⟩
  refine wpAny_Call_Name_kw (ld_glob I hg hm ?_ hdb)
  refine PySem.W.callWith_KW0 (h₀ := X.base) I.ok.mod.kin hk hall (thn (hkw.run pos pins s σ H _ I h) fun ws s2 ⟨zs, H2, I2, rz, q2⟩ => ⟨I2.kIn, ?_⟩) hpl
  rw [hks]
  exact run_fnk F hr hb hx I2 .nil rz q2
end
/-! ### a def that stands, and one that keeps a promise -/
def Def (K : PySem.W.Frag) (mg : Str → Option Value) (x : Str) (st : Stmt) (ps : List Str) : Prop := ∃ (f : Addr) (fd : FuncData), Fun K x x st f fd ∧ mg x = some (.ref f) ∧ Binds K fd ps []
section
variable {P : Program} {w : World} {K : PySem.W.Frag} {mg : Str → Option Value} {base : Heap}
def Good (P : Program) (w : World) (K : PySem.W.Frag) (mg : Str → Option Value) (base : Heap) (x : Str) (st : Stmt) (ps : List Str) (k : Nat) (sp : Sp) : Prop := ∃ (f : Addr) (fd : FuncData), FnOk P w K mg base CX0 k f fd ps sp ∧ mg x = some (.ref f) ∧ PySem.W.keepIn K (.ref f) = true ∧ Binds K fd ps [] ∧ Fun K x x st f fd
theorem Def.good {x : Str} {st : Stmt} {ps : List Str} {k : Nat} {sp : Sp} (D : Def K mg x st ps) (h : ∀ f fd, Fun K x x st f fd → FnOk P w K mg base CX0 k f fd ps sp) : Good P w K mg base x st ps k sp := by
  obtain ⟨f, fd, F, m, b⟩ := D
  exact ⟨f, fd, h f fd F, m, F.kp, b, F⟩
theorem def_mk {h : Heap} (X : K.In h) (G : h.Ns mainGlobals mg) {x : Str} {st : Stmt} {ps : List Str} {f : Addr} {oc : Value} {od an : Option Addr} {osl : Array (Option Value)} {kV doc pm cdv ct : Value} (a : PySem.W.nsIn K mainGlobals x = some (some (.ref f)))
    (l : K.lookup f = some ⟨oc, od, .func (PySem.W.fnOf x x (defArgs st) (defBody st) (defScope st) .none kV doc pm an cdv ct), osl⟩) (c : PySem.W.codeIn K cdv x = true) (k : PySem.W.keepIn K (.ref f) = true)
    (hb : ∀ (kV doc pm : Value) (an : Option Addr) (cdv ct : Value) (us : List Value), us.length = ps.length → bindArgs (PySem.W.fnOf x x (defArgs st) (defBody st) (defScope st) .none kV doc pm an cdv ct) ⟨us, []⟩ = pure (ps.zip us)) : Def K mg x st ps :=
  ⟨f, _, fun_mk l c k, PySem.W.mg_of X G a, (fun_mk l c k).binds hb⟩
theorem fun_kbinds {x qual : Str} {st : Stmt} {f : Addr} {fd : FuncData} {ps ks : List Str} (F : Fun K x qual st f fd) (g : List Value → List Value → List Value) (gV : List V → List V → List V)
    (hrel : ∀ {vs : List V} {us : List Value} {zs : List V} {ws : List Value}, Vals vs us → Vals zs ws → Vals (gV vs zs) (g us ws))
    (h : ∀ (kV doc pm : Value) (an : Option Addr) (cdv ct : Value) (us ws : List Value), (g us ws).length = ps.length → bindArgs (PySem.W.fnOf x qual (defArgs st) (defBody st) (defScope st) .none kV doc pm an cdv ct) ⟨us, ks.zip ws⟩ = pure (ps.zip (g us ws))) : KBinds K fd ps ks g gV := by
  obtain ⟨oc, od, kV, doc, pm, an, cdv, ct, osl, rfl, lk, hcd⟩ := F.ex
  exact ⟨fun s us ws X hl => .of_eq (h kV doc pm an cdv ct us ws hl), hrel⟩
/-- two keywords, in the parameters' order, or turned; one -/
def g12 {α : Type} : List α → List α → List α | [], [a, b] => [a, b] | _, _ => []
def g21 {α : Type} : List α → List α → List α | [], [a, b] => [b, a] | _, _ => []
def g1 {α : Type} : List α → List α → List α | [], [a] => [a] | _, _ => []
theorem g12_inv {α : Type} {us ws : List α} (h : (g12 us ws).length = 2) : us = [] ∧ ∃ a b, ws = [a, b] := by
  match us, ws, h with
  | [], [a, b], _ => exact ⟨rfl, a, b, rfl⟩
  | [], [], h => exact absurd h (by simp [g12, g21, g1])
  | [], [_], h => exact absurd h (by simp [g12])
  | [], _ :: _ :: _ :: _, h => exact absurd h (by simp [g12])
  | _ :: _, _, h => exact absurd h (by simp [g12])
theorem g21_inv {α : Type} {us ws : List α} (h : (g21 us ws).length = 2) : us = [] ∧ ∃ a b, ws = [a, b] := by
  match us, ws, h with
  | [], [a, b], _ => exact ⟨rfl, a, b, rfl⟩
  | [], [], h => exact absurd h (by simp [g12, g21, g1])
  | [], [_], h => exact absurd h (by simp [g21])
  | [], _ :: _ :: _ :: _, h => exact absurd h (by simp [g21])
  | _ :: _, _, h => exact absurd h (by simp [g21])
theorem g1_inv {α : Type} {us ws : List α} (h : (g1 us ws).length = 1) : us = [] ∧ ∃ a, ws = [a] := by
  match us, ws, h with
  | [], [a], _ => exact ⟨rfl, a, rfl⟩
  | [], [], h => exact absurd h (by simp [g12, g21, g1])
  | [], _ :: _ :: _, h => exact absurd h (by simp [g1])
  | _ :: _, _, h => exact absurd h (by simp [g1])
theorem rel12 {vs : List V} {us : List Value} {zs : List V} {ws : List Value} (a : Vals vs us) (b : Vals zs ws) : Vals (g12 vs zs) (g12 us ws) := by
  cases a with
  | nil =>
    cases b with
    | nil => exact .nil
    | cons r b =>
      cases b with
      | nil => exact .nil
      | cons r2 b =>
        cases b with
        | nil => exact .cons r (.cons r2 .nil)
        | cons r3 b => exact .nil
  | cons r a => exact .nil
theorem rel21 {vs : List V} {us : List Value} {zs : List V} {ws : List Value} (a : Vals vs us) (b : Vals zs ws) : Vals (g21 vs zs) (g21 us ws) := by
  cases a with
  | nil =>
    cases b with
    | nil => exact .nil
    | cons r b =>
      cases b with
      | nil => exact .nil
      | cons r2 b =>
        cases b with
        | nil => exact .cons r2 (.cons r .nil)
        | cons r3 b => exact .nil
  | cons r a => exact .nil
theorem rel1 {vs : List V} {us : List Value} {zs : List V} {ws : List Value} (a : Vals vs us) (b : Vals zs ws) : Vals (g1 vs zs) (g1 us ws) := by
  cases a with
  | nil =>
    cases b with
    | nil => exact .nil
    | cons r b =>
      cases b with
      | nil => exact .cons r .nil
      | cons r3 b => exact .nil
  | cons r a => exact .nil
end
end My
namespace My
open PySem L2 PyProof.Rows
theorem bl_is1 {x : Bool} {Q : VK} {H : Hp} (h : x = true) (q : Q (.bl true) H) : Q (.bl x) H := by
  rw [h]
  exact q
/-! ### a list that nobody asks for any more is forgotten -/
section
variable {X : Cx} {pins : List (Addr × Obj)} {σ : L2.St} {H1 H2 : Hp} {s : Shared} {D : Addr} {xs : List V}
theorem inv_drop (I : Inv X pins σ H1 s) (e : H1 = upd H2 D (.lst xs)) (n : H2 D = none) : Inv X pins σ H2 s := by
  subst e
  have off : ∀ b, upd H2 D (.lst xs) b = none → H2 b = none := fun b h => by
    by_cases hb : b = D
    · rw [hb]; exact n
    · rw [upd_ne hb] at h; exact h
  have back : ∀ b o, o ≠ HO.lst xs → upd H2 D (.lst xs) b = some o → H2 b = some o := fun b o ho h => by
    by_cases hb : b = D
    · subst hb
      rw [upd_same] at h
      exact absurd (Option.some.inj h).symm ho
    · rw [upd_ne hb] at h; exact h
  refine ⟨I.ok, I.os, I.bare, ?_, I.loc, I.cell, off _ I.free, fun x c h => off _ (I.freeC x c h), fun p hp => ?_, ?_, I.len⟩
  · have u := I.base
    refine ⟨u.keep, u.slot, fun b o h1 h2 h3 => off _ (u.free b o h1 h2 h3), u.there, fun b ys h => back _ _ (by intro z; cases z) (u.tups b ys h), fun b o v h => back _ _ (by intro z; cases z) (u.frzs b o v h), fun b ps h => ?_⟩
    obtain ⟨more, h⟩ := u.tbls b ps h
    exact ⟨more, back _ _ (by intro z; cases z) h⟩
  · obtain ⟨a, b, c⟩ := I.pin p hp
    exact ⟨a, off _ b, c⟩
  · intro a o h
    have ha : a ≠ D := fun z => by rw [z, n] at h; cases h
    refine (I.hok a o (by rw [upd_ne ha]; exact h)).stay (fun _ _ _ z => z) (fun b h => back _ _ (by intro z; cases z) h) (fun b ys h => back _ _ (by intro z; cases z) h)
theorem pe_drop {e : Expr} {te : TE} (he : PE X e te) : PE X e (fun σ H Q => te σ H fun v H1 => ∃ D xs H2, H1 = upd H2 D (.lst xs) ∧ H2 D = none ∧ Q v H2) := by
  refine ⟨fun pins s σ H Q I h => ?_⟩
  exact wpAny_mono (he.run pins s σ H _ I h) (fun u s1 ⟨v, H1, I1, r, D, xs, H2, e, n, q⟩ => ⟨v, H2, inv_drop I1 e n, r, q⟩) fun _ _ h => h
theorem ix_seqK {K : PySem.W.Frag} (h : X.K = K) : IxR X (rIx K) := h ▸ ix_seq
end
end My
namespace My
open PySem L2 PyProof.Rows
/-! ### methods, properties, __init__ of a class at C -/
section
variable {P : Program} {w : World} {K : PySem.W.Frag} {mg : Str → Option Value} {base : Heap} {C : Addr}
def DefM (K : PySem.W.Frag) (C : Addr) (x qual : Str) (st : Stmt) (ps : List Str) : Prop := ∃ (f : Addr) (fd : FuncData), Fun K x qual st f fd ∧ Meth K C x f ∧ Binds K fd ps []
def DefP (K : PySem.W.Frag) (C : Addr) (x qual : Str) (st : Stmt) (ps : List Str) : Prop := ∃ (p f : Addr) (fd : FuncData), Fun K x qual st f fd ∧ PropOf K C x p f ∧ Binds K fd ps []
def DefI (K : PySem.W.Frag) (C : Addr) (x qual : Str) (st : Stmt) (ps : List Str) : Prop := ∃ (f : Addr) (fd : FuncData), Fun K x qual st f fd ∧ Mk K C f ∧ Binds K fd ps []
def GoodM (P : Program) (w : World) (K : PySem.W.Frag) (mg : Str → Option Value) (base : Heap) (C : Addr) (x qual : Str) (st : Stmt) (ps : List Str) (k : Nat) (sp : Sp) : Prop := ∃ (f : Addr) (fd : FuncData), FnOk P w K mg base CX0 k f fd ps sp ∧ Meth K C x f ∧ Binds K fd ps [] ∧ Fun K x qual st f fd
def GoodP (P : Program) (w : World) (K : PySem.W.Frag) (mg : Str → Option Value) (base : Heap) (C : Addr) (x _qual : Str) (_st : Stmt) (ps : List Str) (k : Nat) (sp : Sp) : Prop := ∃ (p f : Addr) (fd : FuncData), FnOk P w K mg base CX0 k f fd ps sp ∧ PropOf K C x p f ∧ Binds K fd ps []
def GoodI (P : Program) (w : World) (K : PySem.W.Frag) (mg : Str → Option Value) (base : Heap) (C : Addr) (x _qual : Str) (_st : Stmt) (ps : List Str) (k : Nat) (sp : Sp) : Prop := ∃ (f : Addr) (fd : FuncData), FnOk P w K mg base CX0 k f fd ps sp ∧ Mk K C f ∧ Binds K fd ps []
theorem DefM.good {x qual : Str} {st : Stmt} {ps : List Str} {k : Nat} {sp : Sp} (D : DefM K C x qual st ps) (h : ∀ f fd, Fun K x qual st f fd → FnOk P w K mg base CX0 k f fd ps sp) : GoodM P w K mg base C x qual st ps k sp := by
  obtain ⟨f, fd, F, m, b⟩ := D
  exact ⟨f, fd, h f fd F, m, b, F⟩
theorem DefP.good {x qual : Str} {st : Stmt} {ps : List Str} {k : Nat} {sp : Sp} (D : DefP K C x qual st ps) (h : ∀ f fd, Fun K x qual st f fd → FnOk P w K mg base CX0 k f fd ps sp) : GoodP P w K mg base C x qual st ps k sp := by
  obtain ⟨p, f, fd, F, m, b⟩ := D
  exact ⟨p, f, fd, h f fd F, m, b⟩
theorem DefI.good {x qual : Str} {st : Stmt} {ps : List Str} {k : Nat} {sp : Sp} (D : DefI K C x qual st ps) (h : ∀ f fd, Fun K x qual st f fd → FnOk P w K mg base CX0 k f fd ps sp) : GoodI P w K mg base C x qual st ps k sp := by
  obtain ⟨f, fd, F, m, b⟩ := D
  exact ⟨f, fd, h f fd F, m, b⟩
end
def g123 {α : Type} : List α → List α → List α | [], [a, b, c] => [a, b, c] | _, _ => []
theorem g123_inv {α : Type} {us ws : List α} (h : (g123 us ws).length = 3) : us = [] ∧ ∃ a b c, ws = [a, b, c] := by
  unfold g123 at h
  split at h
  · exact ⟨rfl, _, _, _, rfl⟩
  · simp at h
theorem rel123 {vs : List V} {us : List Value} {zs : List V} {ws : List Value} (a : Vals vs us) (b : Vals zs ws) : Vals (g123 vs zs) (g123 us ws) := by
  cases a with
  | cons h t => exact .nil
  | nil => cases b with
    | nil => exact .nil
    | cons h1 t => cases t with
      | nil => exact .nil
      | cons h2 t => cases t with
        | nil => exact .nil
        | cons h3 t => cases t with
          | nil => exact .cons h1 (.cons h2 (.cons h3 .nil))
          | cons h4 t => exact .nil
/-- self, then one keyword -/
def gm1 {α : Type} : List α → List α → List α | [a], [b] => [a, b] | _, _ => []
theorem gm1_inv {α : Type} {us ws : List α} (h : (gm1 us ws).length = 2) : ∃ a b, us = [a] ∧ ws = [b] := by
  unfold gm1 at h
  split at h
  · exact ⟨_, _, rfl, rfl⟩
  · simp at h
theorem relm1 {vs : List V} {us : List Value} {zs : List V} {ws : List Value} (a : Vals vs us) (b : Vals zs ws) : Vals (gm1 vs zs) (gm1 us ws) := by
  cases a with
  | nil => exact .nil
  | cons h t => cases t with
    | cons h2 t => exact .nil
    | nil => cases b with
      | nil => exact .nil
      | cons h1 t => cases t with
        | nil => exact .cons h (.cons h1 .nil)
        | cons h2 t => exact .nil
/-! ### a list or a tuple, gone through -/
section
variable {X : Cx}
theorem pi_or {tg e : Expr} {w1 w2 : TI} (h1 : PI X tg e w1) (h2 : PI X tg e w2) : PI X tg e (fun σ H R => w1 σ H R ∨ w2 σ H R) := by
  constructor
  intro pins s σ H R I h
  rcases h with h | h
  · exact h1.run pins s σ H R I h
  · exact h2.run pins s σ H R I h
end
end My
namespace My
open PySem L2 PyProof.Rows
/-! ### == by an own __eq__, whatever it answers -/
section
variable {X : Cx}
theorem op_eqOwn {CX : CXT} {k : Nat} {C f : Addr} {fd : FuncData} {ps : List Str} {sp : Sp} {E : XK} (F : FnOk X.prog X.w X.K X.mg X.base CX k f fd ps sp) (hr : Room k X.A)
    (hs : PySem.W.findIn X.K (.ref C) "__eq__" = some (some (.ref f))) (hf : PySem.W.isFn X.K (.ref f) = true) (hb : Binds X.K fd ps []) (hx : Passes CX X E) :
    OpR X (compareOp .Eq) (fun x y H Q => ∃ a b dx dy fs gs, x = .ref a ∧ y = .ref b ∧ H a = some (.ins C dx fs) ∧ H b = some (.ins C dy gs) ∧ sp [x, y] H (fun v H' => ∃ c, v = .bl c ∧ Q (.bl c) H') E) := by
  intro pins s σ H x y v u Q I rx ry h
  obtain ⟨a, b, dx, dy, fs, gs, rfl, rfl, ha, hb', hsp⟩ := h
  cases rx
  cases ry
  show wpAny (model X.prog X.w) X.A (richCompare .Eq (.ref a) (.ref b)) (EP X pins σ Q) X.xe s
  obtain ⟨_, J, _⟩ := ins_get I.hok ha
  obtain ⟨_, J', _⟩ := ins_get I.hok hb'
  obtain ⟨_, J, _⟩ := J.look
  obtain ⟨_, J', _⟩ := J'.look
  obtain ⟨m, hF⟩ := I.fr
  refine PySem.W.cmp_K (op := .Eq) (tb := .ref C) hr.units0 hF I.ok.mod.kin J J'.type (by simp [PySem.W.notFirst]) hs hf ?_
  have vals : Vals [V.ref a, V.ref b] [Value.ref a, Value.ref b] := .cons rfl (.cons rfl .nil)
  have e0 : Env0 X.prog X.w X.K X.mg X.base X.A X.stack s H := I.env0
  have hl := F.len _ _ _ _ hsp
  refine wpAny_call (codeAny_mono (F.run X.A X.stack s H ⟨[.ref a, .ref b], []⟩ [.ref a, .ref b] [.ref a, .ref b] _ E hr e0 (by
    have bd := hb s [.ref a, .ref b] I.kIn (by simpa using hl)
    simpa using bd) vals hsp) fun r s' hq => ?_)
  cases r with
  | error e => exact hx pins σ H s e s' I hq
  | ok fl =>
    cases fl with
    | ret w =>
      obtain ⟨z, H', I', rz, c, ez, qz⟩ := I.after hq
      subst ez
      cases rz
      exact ⟨.bl c, H', I', rfl, qz⟩
    | next => exact False.elim hq
    | brk => exact False.elim hq
    | cont => exact False.elim hq
end
end My
namespace My
open PySem L2 PyProof.Rows PySem.W
/-! ### != of instances with an own __eq__ and the object's __ne__ -/
section
variable {prog : Program} {w : World} {A : Around} {E : Value → Shared → Prop} {s : Shared} {K : PySem.W.Frag} {x y C L f : Addr} {h₀ : Heap} {m : Str → Option Value} {ox : Obj} {od : Option Obj}
theorem check_ne {Q : Unit → Shared → Prop} (X : K.In s.heap) (I : PySem.W.InstAt s.heap x ox C od) (hm : PySem.W.mroIn K C (.type "object") = some true) (hq : Q () s) :
    wpAny (model prog w) A (checkBuiltinCall "object.__ne__" ⟨[.ref x, .ref y], []⟩) Q E s := by
  have L1 := PySem.W.looks_mroIn (M := model prog w) X hm
  simp only [checkBuiltinCall, F.cmpKind_ne, F.cmpSplit_ne]
  refine wpAny_bind ?_
  unfold isInstance
  refine wpAny_bind (I.type.here (L1.here ?_))
  simp only [Bool.not_true, Bool.false_eq_true, if_false]
  exact wpAny_pure hq
theorem entry_ne {Q : Fin → Shared → Prop} (hu : A.units < cLine) (X : K.In s.heap) (I : PySem.W.InstAt s.heap x ox C od) (hs : PySem.W.findIn K (.ref C) "__eq__" = some (some (.ref f))) (hf : PySem.W.isFn K (.ref f) = true)
    (hcall : wpAny (model prog w) A (call (.ref f) [.ref x, .ref y]) (fun v s' => ∃ b, v = .bool b ∧ Q (.done (.ret (.bool (!b)))) s') E s) :
    wpAny (model prog w) A (Builtin.«object.__ne__» ⟨[.ref x, .ref y], []⟩) Q E s := by
  unfold Builtin.«object.__ne__»
  repeat (first
    | with_reducible refine wpAny_cRoomFor hu ?_
    | (refine wpAny_bind (m := callSpecialIfBound? (.ref x) (Str.ofString "__eq__") [.ref y])
        (PySem.W.ifBound_K X I hs hf (wpAny_mono hcall (fun r s' hr => by
          obtain ⟨b, rfl, hq⟩ := hr
          repeat (first | exact hq | exact wpAny_pure hq | exact wpAny_truthy_bool hq | (refine wpAny_bind (m := truthy (.bool _)) (wpAny_truthy_bool ?_)) | wp_step)) fun _ _ e => e)))
    | wp_step)
theorem try_ne {Q : Option Value → Shared → Prop} (hu : A.units + 1 < cLine) (X : K.In s.heap) (I : PySem.W.InstAt s.heap x ox C od) (hm : PySem.W.mroIn K C (.type "object") = some true) (hn : PySem.W.findIn K (.ref C) "__ne__" = some (some (.builtin "object.__ne__")))
    (hs : PySem.W.findIn K (.ref C) "__eq__" = some (some (.ref f))) (hf : PySem.W.isFn K (.ref f) = true)
    (hcall : wpAny (model prog w) A.in1 (call (.ref f) [.ref x, .ref y]) (fun v s' => ∃ b, v = .bool b ∧ Q (some (.bool (!b))) s') E s) :
    wpAny (model prog w) A (tryCompare (.ref x) "__ne__" (.ref y)) Q E s := by
  have S := F.cmp_object.ne
  have one : wpAny (model prog w) A (callSpecialIfBound? (.ref x) "__ne__" [.ref y]) (fun r s' => ∃ b, r = some (.bool b) ∧ Q (some (.bool b)) s') E s := by
    simp only [callSpecialIfBound?, bindSpecialIfBound?]
    refine wpAny_holding (wpAny_bind (wpAny_bind (wpAny_bind (I.type.here ((PySem.W.looks_findIn X hn).here ?_)))))
    simp only [S.bind]
    refine wpAny_bind (wpAny_askSetting (wpAny_ite ?_))
    have fin : wpAny (model prog w) A (call (.builtin "object.__ne__") ([.ref x] ++ [.ref y]) >>= fun v => pure (some v)) (fun r s' => ∃ b, r = some (.bool b) ∧ Q (some (.bool b)) s') E s := by
      refine wpAny_bind (wpAny_call (codeAny_call_builtin S.plain F.cmpEntry_ne (check_ne X I hm (entry_ne (A := A.in1) hu X I hs hf (wpAny_mono hcall (fun v s' hv => ?_) fun _ _ e => e)))))
      obtain ⟨b, rfl, hq⟩ := hv
      exact ⟨b, rfl, wpAny_pure ⟨_, rfl, hq⟩⟩
    split
    · exact wpAny_bind (wpAny_pure (wpAny_pure fin))
    · exact wpAny_tryCatch (wpAny_bind (wpAny_pure (wpAny_pure fin)))
  unfold tryCompare
  refine wpAny_bind (wpAny_mono one (fun v s' hv => ?_) fun _ _ e => e)
  obtain ⟨b, rfl, hq⟩ := hv
  exact wpAny_pure hq
theorem ne_own {Q : Value → Shared → Prop} {oy : Obj} {odY : Option Obj} (hu : A.units + 1 < cLine) (X : K.In s.heap) (I : PySem.W.InstAt s.heap x ox C od) (J : PySem.W.InstAt s.heap y oy C odY) (hm : PySem.W.mroIn K C (.type "object") = some true) (hn : PySem.W.findIn K (.ref C) "__ne__" = some (some (.builtin "object.__ne__")))
    (hs : PySem.W.findIn K (.ref C) "__eq__" = some (some (.ref f))) (hf : PySem.W.isFn K (.ref f) = true)
    (hcall : wpAny (model prog w) A.in1 (call (.ref f) [.ref x, .ref y]) (fun v s' => ∃ b, v = .bool b ∧ Q (.bool (!b)) s') E s) :
    wpAny (model prog w) A (richCompare .NotEq (.ref x) (.ref y)) Q E s := by
  unfold richCompare
  simp only [oneThing_ref]
  refine wpAny_holding ?_
  refine wpAny_bind (wpAny_cRoomFor (Nat.lt_of_succ_lt hu) ?_)
  rw [cmpInfo_NotEq]
  dsimp only
  refine wpAny_bind (I.type.here (wpAny_bind (J.type.here ?_)))
  rw [show (Value.ref C != Value.ref C) = false from by simp]
  simp only [Bool.false_eq_true, if_false]
  refine wpAny_bind (wpAny_pure ?_)
  simp only [Bool.false_eq_true, if_false]
  refine wpAny_bind (try_ne hu X I hm hn hs hf (wpAny_mono hcall (fun v s' hv => ?_) fun _ _ e => e))
  obtain ⟨b, rfl, hq⟩ := hv
  exact ⟨b, rfl, wpAny_pure hq⟩
end
section
variable {X : Cx}
theorem op_neOwn {CX : CXT} {k : Nat} {C f : Addr} {fd : FuncData} {ps : List Str} {sp : Sp} {E : XK} (F : FnOk X.prog X.w X.K X.mg X.base CX k f fd ps sp) (hr : Room (k + 1) X.A) (hm : PySem.W.mroIn X.K C (.type "object") = some true) (hn : PySem.W.findIn X.K (.ref C) "__ne__" = some (some (.builtin "object.__ne__")))
    (hs : PySem.W.findIn X.K (.ref C) "__eq__" = some (some (.ref f))) (hf : PySem.W.isFn X.K (.ref f) = true) (hb : Binds X.K fd ps []) (hx : Passes CX X E) :
    OpR X (compareOp .NotEq) (fun x y H Q => ∃ a b dx dy fs gs, x = .ref a ∧ y = .ref b ∧ H a = some (.ins C dx fs) ∧ H b = some (.ins C dy gs) ∧ sp [x, y] H (fun v H' => ∃ c, v = .bl c ∧ Q (.bl (!c)) H') E) := by
  intro pins s σ H x y v u Q I rx ry h
  obtain ⟨a, b, dx, dy, fs, gs, rfl, rfl, ha, hb', hsp⟩ := h
  cases rx
  cases ry
  show wpAny (model X.prog X.w) X.A (richCompare .NotEq (.ref a) (.ref b)) (EP X pins σ Q) X.xe s
  obtain ⟨_, J, _⟩ := ins_get I.hok ha
  obtain ⟨_, J', _⟩ := ins_get I.hok hb'
  obtain ⟨_, J, _⟩ := J.look
  obtain ⟨_, J', _⟩ := J'.look
  have hu : X.A.units + 1 < cLine := hu_of hr
  refine ne_own hu I.kIn J J' hm hn hs hf ?_
  have vals : Vals [V.ref a, V.ref b] [Value.ref a, Value.ref b] := .cons rfl (.cons rfl .nil)
  have e0 : Env0 X.prog X.w X.K X.mg X.base X.A.in1 X.stack s H := I.env0.in1
  have hl := F.len _ _ _ _ hsp
  refine wpAny_call (codeAny_mono (F.run X.A.in1 X.stack s H ⟨[.ref a, .ref b], []⟩ [.ref a, .ref b] [.ref a, .ref b] _ E hr.in1 e0 (by
    have bd := hb s [.ref a, .ref b] I.kIn (by simpa using hl)
    simpa using bd) vals hsp) fun r s' hq => ?_)
  cases r with
  | error e => exact hx pins σ H s e s' I hq
  | ok fl =>
    cases fl with
    | ret w =>
      obtain ⟨z, H', I', rz, c, ez, qz⟩ := I.after hq
      subst ez
      cases rz
      exact ⟨c, rfl, .bl (!c), H', I', rfl, qz⟩
    | next => exact False.elim hq
    | brk => exact False.elim hq
    | cont => exact False.elim hq
/-- == of an instance with an own __eq__ and a dict -/
theorem op_eqDict {CX : CXT} {k : Nat} {C f : Addr} {fd : FuncData} {ps : List Str} {sp : Sp} {E : XK} (F : FnOk X.prog X.w X.K X.mg X.base CX k f fd ps sp) (hr : Room k X.A)
    (hs : PySem.W.findIn X.K (.ref C) "__eq__" = some (some (.ref f))) (hf : PySem.W.isFn X.K (.ref f) = true) (hnf : PySem.W.notFirst X.K C (.type "dict") = true) (hb : Binds X.K fd ps []) (hx : Passes CX X E) :
    OpR X (compareOp .Eq) (fun x y H Q => ∃ a d dx fs kvs, x = .ref a ∧ y = .ref d ∧ H a = some (.ins C dx fs) ∧ H d = some (.dK kvs) ∧ sp [x, y] H (fun v H' => ∃ c, v = .bl c ∧ Q (.bl c) H') E) := by
  intro pins s σ H x y v u Q I rx ry h
  obtain ⟨a, b, dx, fs, kvs, rfl, rfl, ha, hb', hsp⟩ := h
  cases rx
  cases ry
  show wpAny (model X.prog X.w) X.A (richCompare .Eq (.ref a) (.ref b)) (EP X pins σ Q) X.xe s
  obtain ⟨_, J, _⟩ := ins_get I.hok ha
  obtain ⟨_, J, _⟩ := J.look
  obtain ⟨_, _, _, _, ob, es, ep, e, ⟨hcls, _⟩, _⟩ := (show ObjOk X.prog X.w H s.heap b (.dK kvs) from I.hok b _ hb')
  have hty : PySem.W.Looks (model X.prog X.w) s.heap (typeOf (.ref b)) (.type "dict") := hcls ▸ (PySem.W.Looks.ld e).andThen .now
  obtain ⟨m, hF⟩ := I.fr
  refine PySem.W.cmp_K (op := .Eq) (tb := .type "dict") hr.units0 hF I.ok.mod.kin J hty hnf hs hf ?_
  have vals : Vals [V.ref a, V.ref b] [Value.ref a, Value.ref b] := .cons rfl (.cons rfl .nil)
  have e0 : Env0 X.prog X.w X.K X.mg X.base X.A X.stack s H := I.env0
  have hl := F.len _ _ _ _ hsp
  refine wpAny_call (codeAny_mono (F.run X.A X.stack s H ⟨[.ref a, .ref b], []⟩ [.ref a, .ref b] [.ref a, .ref b] _ E hr e0 (by
    have bd := hb s [.ref a, .ref b] I.kIn (by simpa using hl)
    simpa using bd) vals hsp) fun r s' hq => ?_)
  cases r with
  | error e => exact hx pins σ H s e s' I hq
  | ok fl =>
    cases fl with
    | ret w =>
      obtain ⟨z, H', I', rz, c, ez, qz⟩ := I.after hq
      subst ez
      cases rz
      exact ⟨.bl c, H', I', rfl, qz⟩
    | next => exact False.elim hq
    | brk => exact False.elim hq
    | cont => exact False.elim hq
def tMethKK (C : Addr) (m : Str) (sp : Sp) (gV : List V → List V → List V) (E : XK) (ta : TE) (tk : TA) : TE := fun σ H Q => ta σ H fun x H1 => ∃ a dx fs, x = .ref a ∧ H1 a = some (.ins C dx fs) ∧ fs.lookup m = none ∧ tk σ H1 fun zs H2 => sp (gV [x] zs) H2 Q E
/-- o.m(a=.., b=..) -/
theorem pe_methKK {CX : CXT} {k : Nat} {f C : Addr} {fd : FuncData} {ps ks : List Str} {sp : Sp} {E : XK} {m : Str} {pos apos : Pos} {o : Expr} {kws : List Keyword} {ta : TE} {tk : TA} {g : List Value → List Value → List Value} {gV : List V → List V → List V} {pl : Sem Bool} (he : PE X o ta) (c : Cls X.K C) (hm : Meth X.K C m f) (F : FnOk X.prog X.w X.K X.mg X.base CX k f fd ps sp) (hr : Room k X.A) (hb : KBinds X.K fd ps ks g gV) (hx : Passes CX X E)
    (hkw : PK X kws tk) (hall : (backToKw pos (keywordEach kws X.env)).all (·.1.isSome) = true := by rfl) (hks : (backToKw pos (keywordEach kws X.env)).filterMap (·.1) = ks := by rfl)
    (hpl : ((backTo pos (starEach [] X.env)).any (·.1) || (backToKw pos (keywordEach kws X.env)).any (·.1.isNone)) = false := by rfl)
    (ht : eval (.Call (.Attribute o m apos) [] kws pos) X.env = (do
      let ov ← eval o X.env
      standAt apos.atName
      let (f, first) ← holding [ov] (getMethod ov m pl)
      callWith pos f first (backTo pos (starEach [] X.env)) (backToKw pos (keywordEach kws X.env))) := by rfl) :
    PE X (.Call (.Attribute o m apos) [] kws pos) (tMethKK C m sp gV E ta tk) := by
  refine ⟨fun pins s σ H Q I h => ?_⟩
  refine PySem.W.methodCall_KW (pl := pl) (thn (he.run pins s σ H _ I h) fun u s1 ⟨x, H1, I1, rx, a, dx, fs, ex, ea, l, q⟩ => ?_) ht
  subst ex
  obtain rfl : u = Value.ref a := rx
  refine getmeth_ok I1 ea c hm l ?_
  refine PySem.W.callWith_KW0 (first := [.ref a]) (h₀ := X.base) I.ok.mod.kin hm.kp hall (thn (hkw.run pos pins s1 σ H1 _ I1 q) fun ws s2 ⟨zs, H2, I2, rz, q2⟩ => ⟨I2.kIn, ?_⟩) hpl
  rw [hks]
  exact run_fnk (us := [.ref a]) (vs := [.ref a]) F hr hb hx I2 (.cons rfl .nil) rz q2
end
end My
namespace My
open PySem PySem.W L2 L2.DX PyProof.Rows
/-! ### d.items() of a dict by texts, sorted -/
section
variable {X : Cx}
def rItemsK : V → List V → Hp → VK → Prop := fun x xs H Q => ∃ (a : Addr) (kvs : List (Key × V)), x = .ref a ∧ xs = [] ∧ H a = some (.dK kvs) ∧ ∀ p, H p = none → Q (.ref p) (upd H p (itemsO p a))
theorem mt_itemsK : MtR X "dict.items" rItemsK := by
  intro pins s σ H x xs v us Q I rx rxs h
  obtain ⟨d, kvs, rfl, rfl, hd0, q⟩ := h
  cases rx
  cases rxs
  obtain ⟨_, hd, vs, rel, dof⟩ := dk_of I.hok hd0
  obtain ⟨es, ep, raw, _, _⟩ := PySem.Heap.DictOf.raw dof
  exact DT.callItems (es := es) (ep := ep) hd raw ⟨.ref s.heap.objs.size, upd H s.heap.objs.size (itemsO s.heap.objs.size d), I.laid (t' := s.toks) (fun b u e => Heap.get?_push_of_some _ e) (Nat.le_refl _) (itemsO_ok (Heap.get?_push_size _ rfl)), rfl, q _ (I.hok.fresh (Nat.le_refl _))⟩
/-- an entry: a text and a number -/
abbrev entSI (e : Str × Int) : Key × V := (Sum.inr e.1, .int e.2)
abbrev encSI (e : Str × Int) : PyData := .tuple [.str e.1, .int e.2]
theorem kv_at : ∀ {kvs : List (Key × V)} {vs : List (Key × Value)}, KV kvs vs → ∀ {j : Nat} {p : Key × V}, kvs[j]? = some p → ∃ q, vs[j]? = some q ∧ p.1 = q.1 ∧ RelV p.2 q.2
  | _, _, .nil, _, _, h => by simp at h
  | _, _, .cons r _, 0, _, h => by
    cases h
    exact ⟨_, rfl, r⟩
  | _, _, .cons _ t, j + 1, p, h => by
    obtain ⟨q, h1, h2⟩ := kv_at t (j := j) (by simpa using h)
    exact ⟨q, by simpa using h1, h2⟩
theorem eachIs_of {α β : Type} {R : α → β → Prop} : ∀ {as : List α} {bs : List β}, as.length = bs.length → (∀ (j : Nat) (a : α) (b : β), as[j]? = some a → bs[j]? = some b → R a b) → PySem.W.EachIs R as bs
  | [], [], _, _ => .nil
  | [], _ :: _, h, _ => by simp at h
  | _ :: _, [], h, _ => by simp at h
  | a :: as, b :: bs, h, k => .cons (k 0 a b rfl rfl) (eachIs_of (by simpa using h) fun j x y hx hy => k (j + 1) x y (by simpa using hx) (by simpa using hy))
theorem encSI_alike (kvs : List (Str × Int)) : AllAlike (kvs.map encSI) := by
  intro d hd d' hd'
  obtain ⟨e, _, rfl⟩ := List.mem_map.mp hd
  obtain ⟨e', _, rfl⟩ := List.mem_map.mp hd'
  rfl
theorem encSI_sortable (kvs : List (Str × Int)) : Sortable (kvs.map encSI) := .tuples fun b => ⟨_, _, rfl⟩
theorem eachIs_refs {β : Type} {as : List Addr} {bs : List β} : ∀ {out : List Value} {cs : List β}, PySem.W.EachIs (fun v b => ∃ (j : Nat) (x : Addr), v = Value.ref x ∧ as[j]? = some x ∧ bs[j]? = some b) out cs →
    ∃ ts : List Addr, out = ts.map Value.ref ∧ Paired (fun (x : Addr) (b : β) => ∃ j : Nat, as[j]? = some x ∧ bs[j]? = some b) ts cs
  | _, _, .nil => ⟨[], rfl, .nil⟩
  | _, _, .cons h t => by
    obtain ⟨j, x, rfl, h1, h2⟩ := h
    obtain ⟨ts, rfl, hp⟩ := eachIs_refs t
    exact ⟨x :: ts, rfl, .cons ⟨j, h1, h2⟩ hp⟩
theorem paired_imp {α β : Type} {F G : α → β → Prop} (h : ∀ a b, F a b → G a b) : ∀ {l1 : List α} {l2 : List β}, Paired F l1 l2 → Paired G l1 l2
  | _, _, .nil => .nil
  | _, _, .cons a r => .cons (h _ _ a) (paired_imp h r)
theorem vals_refs : ∀ ts : List Addr, Vals (ts.map V.ref) (ts.map Value.ref)
  | [] => .nil
  | _ :: r => .cons rfl (vals_refs r)
/-- the told list is new, its pairs too -/
def rSortItK : List V → Hp → VK → Prop := fun vs H Q => ∃ (p a : Addr) (kvs : List (Str × Int)), vs = [.ref p] ∧ H p = some (itemsO p a) ∧ H a = some (.dK (kvs.map entSI)) ∧ kvs.length ≤ 100000 ∧
  ∀ (H' : Hp) (l : Addr) (ts : List Addr), (∀ b o, H b = some o → H' b = some o) → H l = none → H' l = some (.lst (ts.map V.ref)) → Paired (fun t (e : Str × Int) => H' t = some (.tup [.str e.1, .int e.2])) ts (kvs.mergeSort (dataLe false encSI)) → Q (.ref l) H'
theorem cr_sortItK (hc : X.calm = true) (hu : X.A.units + 64 < cLine) : CallR X (.builtin "sorted") rSortItK := by
  intro pins s σ H xs us Q I r h
  obtain ⟨p, a, kvs, rfl, hp, ha, hlen, q⟩ := h
  obtain rfl := Vals.ref1 r
  have vw : s.heap.IsItemsView p a := by
    have z : ObjOk X.prog X.w H s.heap p (itemsO p a) := I.hok p _ hp
    exact z.1
  obtain ⟨_, hd, vs, rel, dof⟩ := dk_of I.hok ha
  obtain ⟨es, ep, raw, hsz, hent⟩ := PySem.Heap.DictOf.raw dof
  have l1 : vs.length = kvs.length := by
    have := Paired.length rel
    rw [List.length_map] at this
    exact this.symm
  have small : kvs.length ≤ sizeLine := Nat.le_trans hlen (by decide)
  refine DT.sortedI (es := es) (ep := ep) (I.ok.hd hc) vw raw (by rw [hsz, l1]; exact small) fun h' tk as kpt hlt hl mde => ?_
  have lak : as.length = kvs.length := by rw [hl, hsz, l1]
  have nod : as.Nodup := List.Pairwise.imp (fun h => Nat.ne_of_lt h) mde.rise
  have pr : ∀ (j : Nat) (b : Addr), as[j]? = some b → ∃ (e : Str × Int) (t t' : Tok), kvs[j]? = some e ∧ h'.get? b = some { cls := .type "tuple", data := .seq #[Value.str e.1 t, Value.int e.2 t'] } := fun j b ej => by
    obtain ⟨en, ee, gh⟩ := mde.pairs j b ej
    have hj2 : j < es.size := (Array.getElem?_eq_some_iff.mp ee).1
    have hj3 : j < kvs.length := by rw [← l1, ← hsz]; exact hj2
    obtain ⟨⟨k, v⟩, g1, g2, g3⟩ := kv_at rel (j := j) (p := entSI kvs[j]) (by rw [List.getElem?_map, List.getElem?_eq_getElem hj3]; rfl)
    obtain ⟨m1, m2⟩ := hent j hj2 k v g1
    have e1 : es[j] = en := (Array.getElem?_eq_some_iff.mp ee).2
    rw [e1] at m1 m2
    have g2' : k = Sum.inr kvs[j].1 := g2.symm
    subst g2'
    obtain ⟨t', ev⟩ : ∃ t', v = Value.int kvs[j].2 t' := g3
    rcases keyIs_shape (show keyIs (Sum.inr kvs[j].1) en.key = true from m1) with ⟨i, t, z, _⟩ | ⟨x, t, z, ek⟩
    · cases z
    · have ex : kvs[j].1 = x := Sum.inr.inj z
      refine ⟨kvs[j], t, t', List.getElem?_eq_getElem hj3, ?_⟩
      rw [gh, ek, m2, ev, ex]
  have gl : (h'.push { cls := .type "list", data := .seq (as.map Value.ref).toArray }).get? h'.objs.size = some (seqObj "list" (as.map Value.ref).toArray 0) := Heap.get?_push_size _ rfl
  have far : ∀ b o, h'.get? b = some o → b ≠ h'.objs.size := fun b o e => Nat.ne_of_lt (Heap.lt_size e)
  have kp : ∀ b o, h'.get? b = some o → (h'.push { cls := .type "list", data := .seq (as.map Value.ref).toArray }).get? b = some o := fun b o e => Heap.get?_push_of_some _ e
  generalize h'.push { cls := .type "list", data := .seq (as.map Value.ref).toArray } = h2 at gl kp ⊢
  have at_ : ∀ (j : Nat) (v : Value) (e : Str × Int), (as.map Value.ref)[j]? = some v → kvs[j]? = some e → ∃ b, v = .ref b ∧ as[j]? = some b := fun j v e hv _ => by
    rw [List.getElem?_map] at hv
    cases z : as[j]? with
    | none => rw [z] at hv; cases hv
    | some b => rw [z] at hv; exact ⟨b, (Option.some.inj hv).symm, rfl⟩
  refine list_sort_data (s := { s with heap := h2, toks := tk }) (R := fun v e => ∃ (j : Nat) (x : Addr), v = Value.ref x ∧ as[j]? = some x ∧ kvs[j]? = some e) (enc := encSI) (bs := kvs) gl (eachIs_of (by rw [List.length_map]; exact lak) fun j v e hv ee => ?_) (eachIs_of (by rw [List.length_map]; exact lak) fun j v e hv ee => ?_) (encSI_alike kvs) (encSI_sortable kvs) small (fun b _ => ?_) fun out ho1 ho2 => ?_
  · obtain ⟨b, e1, e2⟩ := at_ j v e hv ee
    exact ⟨j, b, e1, e2, ee⟩
  · obtain ⟨b, rfl, e2⟩ := at_ j v e hv ee
    obtain ⟨e', t, t', g1, g2⟩ := pr j b e2
    rw [ee] at g1
    cases g1
    exact ⟨[] ++ ([] ++ []), .tuple (kp _ _ g2) rfl rfl (.cons (.str _ _) (.cons (.int _ _) .nil)), by simp⟩
  · show X.A.units + 1 + 1 + 1 < cLine
    omega
  obtain ⟨ts, rfl, hts⟩ := eachIs_refs ho2
  show EP X pins σ Q (.ref h'.objs.size) { s with heap := sortedHeap h2 h'.objs.size (as.map Value.ref) (ts.map Value.ref).toArray, toks := tk }
  have kF : ∀ b o, b ≠ h'.objs.size → h2.get? b = some o → (sortedHeap h2 h'.objs.size (as.map Value.ref) (ts.map Value.ref).toArray).get? b = some o := fun b o hb e => (PyProof.Rows.sortedHeap_old hb (Heap.lt_size e)).trans e
  have kS : ∀ b o, s.heap.get? b = some o → (sortedHeap h2 h'.objs.size (as.map Value.ref) (ts.map Value.ref).toArray).get? b = some o := fun b o e => kF b o (far _ _ (kpt b o e)) (kp b o (kpt b o e))
  obtain ⟨eF, heF⟩ := PyProof.Rows.sortedHeap_at (vs := as.map Value.ref) (out := (ts.map Value.ref).toArray) gl
  generalize sortedHeap h2 h'.objs.size (as.map Value.ref) (ts.map Value.ref).toArray = hz at kF kS heF ⊢
  have free0 : H h'.objs.size = none := I.hok.fresh (Nat.le_of_lt hlt)
  have htl : (ts.map V.ref).length ≤ sizeLine := by
    rw [List.length_map] at ho1 ⊢
    rw [ho1]
    exact small
  have I2 : Inv X pins σ (upd H h'.objs.size (.lst (ts.map V.ref))) { s with heap := hz, toks := tk } :=
    (I.kept (t' := tk) kS).take (h' := hz) (t' := tk) (fun b ob _ e => e) (I.fpOk (Nat.le_of_lt hlt) free0) ⟨htl, ts.map Value.ref, eF, vals_refs ts, heF⟩
  obtain ⟨H2, I3, g, qt⟩ := takeT (P := fun b vs => ∃ (j : Nat) (e : Str × Int), as[j]? = some b ∧ kvs[j]? = some e ∧ vs = [.str e.1, .int e.2]) I as _ I2 nod fun b hb => by
    obtain ⟨j, ej⟩ := List.mem_iff_getElem?.mp hb
    obtain ⟨e, t, t', ee, gh⟩ := pr j b ej
    have big : s.heap.objs.size ≤ b := Nat.le_of_lt (mde.above b hb)
    refine ⟨big, by rw [upd_ne (far _ _ gh)]; exact I.hok.fresh big, [.str e.1, .int e.2], ⟨j, e, ej, ee, rfl⟩, fun H3 => ⟨(by show 2 ≤ sizeLine; decide), [Value.str e.1 t, Value.int e.2 t'], .cons ⟨t, rfl⟩ (.cons ⟨t', rfl⟩ .nil), ⟨_, kF _ _ (far _ _ gh) (kp _ _ gh), rfl, 0, rfl⟩⟩⟩
  refine ⟨.ref h'.objs.size, H2, I3, rfl, q H2 h'.objs.size ts (fun b o e => g b o (by rw [upd_ne (ne_of_none e free0)]; exact e)) free0 (g _ _ upd_same) (paired_imp (fun x e hx => ?_) hts)⟩
  obtain ⟨i, i1, i2⟩ := hx
  obtain ⟨vs', ⟨j, e', j1, j2, ev⟩, hH⟩ := qt x (List.mem_of_getElem? i1)
  have eqi : i = j := (List.getElem?_inj (List.getElem?_eq_some_iff.mp i1).1 nod).mp (i1.trans j1.symm)
  subst eqi
  rw [i2] at j2
  cases j2
  rw [ev] at hH
  exact hH
end
end My
namespace My
open PySem PySem.W L2 L2.DX PyProof.Rows
section
variable {X : Cx}
theorem dp_at {K : PySem.W.Frag} {H : Hp} : ∀ {ys : List V} {ds : List PyData}, DpAll K H ys ds → ∀ {j : Nat} {y : V} {d : PyData}, ys[j]? = some y → ds[j]? = some d → Dp K H y d
  | _, _, .nil, _, _, _, h, _ => by simp at h
  | _, _, .cons p _, 0, _, _, h, k => by
    cases h
    cases k
    exact p
  | _, _, .cons _ t, j + 1, _, _, h, k => dp_at t (j := j) (by simpa using h) (by simpa using k)
theorem dp_len {K : PySem.W.Frag} {H : Hp} : ∀ {ys : List V} {ds : List PyData}, DpAll K H ys ds → ys.length = ds.length
  | _, _, .nil => rfl
  | _, _, .cons _ t => congrArg Nat.succ (dp_len t)
theorem vals_at : ∀ {ys : List V} {us : List Value}, Vals ys us → ∀ {j : Nat} {u : Value}, us[j]? = some u → ∃ y, ys[j]? = some y ∧ RelV y u
  | _, _, .nil, _, _, h => by simp at h
  | _, _, .cons r _, 0, _, h => by
    cases h
    exact ⟨_, rfl, r⟩
  | _, _, .cons _ t, j + 1, _, h => by
    obtain ⟨y, h1, h2⟩ := vals_at t (j := j) (by simpa using h)
    exact ⟨y, by simpa using h1, h2⟩
theorem out_vals {ys : List V} {ds : List PyData} : ∀ {out : List Value} {cs : List PyData}, PySem.W.EachIs (fun v d => ∃ (j : Nat) (y : V), ys[j]? = some y ∧ ds[j]? = some d ∧ RelV y v) out cs →
    ∃ zs : List V, Vals zs out ∧ Paired (fun (z : V) (d : PyData) => ∃ j : Nat, ys[j]? = some z ∧ ds[j]? = some d) zs cs
  | _, _, .nil => ⟨[], .nil, .nil⟩
  | _, _, .cons h t => by
    obtain ⟨j, y, h1, h2, h3⟩ := h
    obtain ⟨zs, g1, g2⟩ := out_vals t
    exact ⟨y :: zs, .cons h3 g1, .cons ⟨j, h1, h2⟩ g2⟩
theorem vals_len : ∀ {ys : List V} {us : List Value}, Vals ys us → ys.length = us.length
  | _, _, .nil => rfl
  | _, _, .cons _ t => congrArg Nat.succ (vals_len t)
/-- sorted(xs), data of one shape: the items are set in sequence by what they are -/
def rSortD (K : PySem.W.Frag) : List V → Hp → VK → Prop := fun vs H Q => ∃ (a : Addr) (ys : List V) (ds : List PyData), vs = [.ref a] ∧ SqL K H a ys ∧ DpAll K H ys ds ∧ AllAlike ds ∧ Sortable ds ∧ (∀ d ∈ ds, d.depth ≤ 8) ∧ ys.length ≤ 100000 ∧
  ∀ (zs : List V) (p : Addr), Paired (fun (z : V) (d : PyData) => ∃ j : Nat, ys[j]? = some z ∧ ds[j]? = some d) zs (ds.mergeSort (dataLe false id)) → H p = none → Q (.ref p) (upd H p (.lst zs))
theorem cr_sortD (hu : X.A.units + 64 < cLine) : CallR X (.builtin "sorted") (rSortD X.K) := by
  intro pins s σ H xs us Q I r h
  obtain ⟨a, ys, ds, rfl, hs, hd, hal, hk, hdp, hlen, q⟩ := h
  obtain rfl := Vals.ref1 r
  obtain ⟨its, rv, pl, _⟩ := I.list hs
  have li : its.length = ds.length := by rw [← vals_len rv]; exact dp_len hd
  have small : ds.length ≤ sizeLine := by rw [← dp_len hd]; exact Nat.le_trans hlen (by decide)
  refine sorted_data (R := fun v d => ∃ (j : Nat) (y : V), ys[j]? = some y ∧ ds[j]? = some d ∧ RelV y v) (enc := id) (bs := ds) pl.isList (eachIs_of li fun j v d hv he => ?_) (eachIs_of li fun j v d hv he => ?_) (by rw [List.map_id]; exact hal) (by rw [List.map_id]; exact hk) small (fun d hdm => ?_) fun out ho1 ho2 => ?_
  · obtain ⟨y, g1, g2⟩ := vals_at rv hv
    exact ⟨j, y, g1, he, g2⟩
  · obtain ⟨y, g1, g2⟩ := vals_at rv hv
    exact Dp.reads I d y v (dp_at hd g1 he) g2
  · have := hdp d hdm
    show X.A.units + 2 + d.depth < cLine
    omega
  obtain ⟨zs, hz, hp⟩ := out_vals ho2
  obtain ⟨eF, heF⟩ := PyProof.Rows.sortedAll_at s.heap its out.toArray
  have hzl : zs.length ≤ sizeLine := by rw [vals_len hz, ho1]; exact small
  exact ⟨.ref (s.heap.objs.size + 1), upd H (s.heap.objs.size + 1) (.lst zs), I.laid (t' := s.toks) (fun _ _ => PyProof.Rows.sortedAll_old) (Nat.le_succ _) ⟨hzl, out, eF, hz, heF⟩, rfl, q zs _ hp (I.hok.fresh (Nat.le_succ _))⟩
end
end My
namespace My
open PySem PySem.W L2 PyProof.Rows
/-! ### told lists: texts with numbers, rising by the texts -/
theorem strict_ext {α : Type} {r : α → α → Prop} (irr : ∀ a, ¬ r a a) (tr : ∀ a b c, r a b → r b c → r a c) : ∀ {a b : List α}, a.Pairwise r → b.Pairwise r → (∀ x, x ∈ a ↔ x ∈ b) → a = b
  | [], [], _, _, _ => rfl
  | [], y :: ys, _, _, h => absurd ((h y).mpr List.mem_cons_self) (by simp)
  | x :: xs, [], _, _, h => absurd ((h x).mp List.mem_cons_self) (by simp)
  | x :: xs, y :: ys, hx, hy, h => by
    have hx' := List.pairwise_cons.mp hx
    have hy' := List.pairwise_cons.mp hy
    have e : x = y := by
      rcases List.mem_cons.mp ((h x).mp List.mem_cons_self) with z | z
      · exact z
      · rcases List.mem_cons.mp ((h y).mpr List.mem_cons_self) with z2 | z2
        · exact z2.symm
        · exact absurd (tr _ _ _ (hx'.1 y z2) (hy'.1 x z)) (irr x)
    subst e
    refine congrArg (x :: ·) (strict_ext irr tr hx'.2 hy'.2 fun z => ?_)
    constructor
    · intro hz
      rcases List.mem_cons.mp ((h z).mp (List.mem_cons_of_mem _ hz)) with q | q
      · exact absurd (by rw [q] at hz; exact hx'.1 x hz) (irr x)
      · exact q
    · intro hz
      rcases List.mem_cons.mp ((h z).mpr (List.mem_cons_of_mem _ hz)) with q | q
      · exact absurd (by rw [q] at hz; exact hy'.1 x hz) (irr x)
      · exact q
def sLt (x y : Str) : Prop := x.cps.toList < y.cps.toList
instance (x y : Str) : Decidable (sLt x y) := by unfold sLt; exact inferInstance
theorem sLt_irr (x : Str) : ¬ sLt x x := List.lt_irrefl _
theorem sLt_trans {x y z : Str} (h : sLt x y) (k : sLt y z) : sLt x z := List.lt_trans h k
theorem sLt_total (x y : Str) : sLt x y ∨ x = y ∨ sLt y x := by
  by_cases h : sLt x y
  · exact .inl h
  · by_cases k : sLt y x
    · exact .inr (.inr k)
    · exact .inr (.inl (str_of_cps (List.le_antisymm (List.not_lt.mp k) (List.not_lt.mp h))))
theorem dataLt_si (x x' : Str) (y y' : Int) : dataLt (.tuple [.str x, .int y]) (.tuple [.str x', .int y']) = decide (sLt x x' ∨ (x = x' ∧ y < y')) := by
  rw [dataLt_pair (by simp [alike]) (by simp [alike]), dataLt_str, dataLt_int]
  have e1 : PyData.eqv (.str x) (.str x') = decide (x = x') := by
    by_cases h : x = x'
    · subst h; simp [PyData.eqv]
    · simp [PyData.eqv, h]
  have e2 : PyData.eqv (.int y) (.int y') = decide (y = y') := by
    by_cases h : y = y'
    · subst h; simp [PyData.eqv]
    · simp [PyData.eqv, h]
  rw [e1, e2]
  by_cases h : x = x'
  · subst h
    have n := sLt_irr x
    by_cases h2 : y = y'
    · subst h2
      simp [n]
    · simp [h2, n]
  · by_cases h3 : sLt x x'
    · have h4 := h3
      unfold sLt at h4
      simp [h, h3, h4]
    · have h4 := h3
      unfold sLt at h4
      simp [h, h3, h4]
abbrev leSI (e f : Str × Int) : Bool := decide (sLt e.1 f.1 ∨ (e.1 = f.1 ∧ e.2 ≤ f.2))
theorem dataLe_si : dataLe false encSI = leSI := by
  funext e f
  show (!dataLt (.tuple [.str f.1, .int f.2]) (.tuple [.str e.1, .int e.2])) = _
  rw [dataLt_si]
  by_cases h : sLt f.1 e.1 ∨ (f.1 = e.1 ∧ f.2 < e.2)
  · have h' : ¬ (sLt e.1 f.1 ∨ (e.1 = f.1 ∧ e.2 ≤ f.2)) := by
      rintro (z | ⟨z, z2⟩)
      · rcases h with k | ⟨k, k2⟩
        · exact sLt_irr _ (sLt_trans z k)
        · rw [k] at z; exact sLt_irr _ z
      · rcases h with k | ⟨k, k2⟩
        · rw [z] at k; exact sLt_irr _ k
        · omega
    simp [h, leSI, h']
  · have h' : sLt e.1 f.1 ∨ (e.1 = f.1 ∧ e.2 ≤ f.2) := by
      rcases sLt_total e.1 f.1 with z | z | z
      · exact .inl z
      · refine .inr ⟨z, ?_⟩
        rcases Int.lt_or_le f.2 e.2 with k | k
        · exact absurd (.inr ⟨z.symm, k⟩) h
        · exact k
      · exact absurd (.inl z) h
    simp only [decide_eq_true h', leSI, decide_eq_false h, Bool.not_false]
theorem leSI_trans (a b c : Str × Int) (h : leSI a b = true) (k : leSI b c = true) : leSI a c = true := by
  have h1 := of_decide_eq_true h
  have k1 := of_decide_eq_true k
  refine decide_eq_true ?_
  rcases h1 with z | ⟨z, z2⟩
  · rcases k1 with w | ⟨w, w2⟩
    · exact .inl (sLt_trans z w)
    · rw [w] at z; exact .inl z
  · rcases k1 with w | ⟨w, w2⟩
    · rw [← z] at w; exact .inl w
    · exact .inr ⟨z.trans w, by omega⟩
theorem leSI_total (a b : Str × Int) : (leSI a b || leSI b a) = true := by
  rw [Bool.or_eq_true]
  rcases sLt_total a.1 b.1 with z | z | z
  · exact .inl (decide_eq_true (.inl z))
  · rcases Int.le_total a.2 b.2 with k | k
    · exact .inl (decide_eq_true (.inr ⟨z, k⟩))
    · exact .inr (decide_eq_true (.inr ⟨z.symm, k⟩))
  · exact .inr (decide_eq_true (.inl z))
/-- rising by the texts -/
def Told (M : List (Str × Int)) : Prop := M.Pairwise fun e f => sLt e.1 f.1
theorem told_of {L : List (Str × Int)} (hn : (L.map Prod.fst).Nodup) : Told (L.mergeSort (dataLe false encSI)) := by
  rw [dataLe_si]
  have hp : (L.mergeSort leSI).Perm L := List.mergeSort_perm _ _
  have hs := List.pairwise_mergeSort (le := leSI) leSI_trans leSI_total L
  have hn2 : ((L.mergeSort leSI).map Prod.fst).Nodup := ((hp.map Prod.fst).nodup_iff).mpr hn
  rw [List.Nodup, List.pairwise_map] at hn2
  refine (hs.and hn2).imp fun {e f} h => ?_
  rcases of_decide_eq_true h.1 with z | z
  · exact z
  · exact absurd z.1 h.2
theorem Told.unique {M N : List (Str × Int)} (h : Told M) (k : Told N) (e : ∀ x, x ∈ M ↔ x ∈ N) : M = N :=
  strict_ext (r := fun e f : Str × Int => sLt e.1 f.1) (fun a => sLt_irr _) (fun _ _ _ => sLt_trans) h k e
/-- texts alone -/
abbrev leS (x y : Str) : Bool := decide (x.cps.toList ≤ y.cps.toList)
theorem dataLe_s : dataLe false (fun x : Str => PyData.str x) = leS := dataLe_str fun x => x
theorem leS_trans (a b c : Str) (h : leS a b = true) (k : leS b c = true) : leS a c = true := decide_eq_true (List.le_trans (of_decide_eq_true h) (of_decide_eq_true k))
theorem leS_total (a b : Str) : (leS a b || leS b a) = true := by
  rw [Bool.or_eq_true]
  rcases List.le_total a.cps.toList b.cps.toList with z | z
  · exact .inl (decide_eq_true z)
  · exact .inr (decide_eq_true z)
theorem texts_of {L : List Str} (hn : L.Nodup) : (L.mergeSort leS).Pairwise sLt := by
  have hp : (L.mergeSort leS).Perm L := List.mergeSort_perm _ _
  have hs := List.pairwise_mergeSort (le := leS) leS_trans leS_total L
  refine (hs.and ((hp.nodup_iff).mpr hn)).imp fun {x y} h => ?_
  rcases sLt_total x y with z | z | z
  · exact z
  · exact absurd z h.2
  · exact absurd z (List.not_lt.mpr (of_decide_eq_true h.1))
end My
set_option maxHeartbeats 4000000
/-! set(texts), sorted(set(texts)), len(set(texts)) -/
namespace My
open PySem PySem.Spec PyProof.Rows L2
/-- the text of an entry -/
def txtOf (e : Int × Value) : Str := match e.2 with | .str k _ => k | _ => Str.empty
def GoodT (w : World) (e : Int × Value) : Prop := ∃ k tk, e.2 = Value.str k tk ∧ e.1 = hashStr w k
/-- a set of texts: S its members, n their number -/
def SetTx (w : World) (h : Heap) (a : Addr) (S : Str → Bool) (n : Nat) : Prop :=
  ∃ o es ep t, h.get? a = some o ∧ o.ExactSet ∧ o.data = .set es ep t ∧ (∀ e ∈ es.toList, GoodT w e) ∧ (es.toList.map txtOf).Nodup ∧ (∀ k, S k = true ↔ k ∈ es.toList.map txtOf) ∧
    (es.size < scanBound ∧ t.fits es.size = true ∧ es.size = n) ∧ Ris t.place.toList ∧ (w.params.followText "set-order" = true ∨ t.led = true)
section
variable {P : Program} {w : World} {h h' : Heap} {a : Addr} {S : Str → Bool} {n : Nat}
theorem SetTx.at (R : SetTx w h a S n) (k : ∀ o, h.get? a = some o → h'.get? a = some o) : SetTx w h' a S n := by
  obtain ⟨o, es, ep, t, ho, r⟩ := R
  exact ⟨o, es, ep, t, k o ho, r⟩
theorem SetTx.congr {S' : Str → Bool} {m : Nat} (R : SetTx w h a S n) (e : ∀ k, S' k = S k) (em : n = m) : SetTx w h a S' m := by
  rw [show S' = S from funext e, ← em]
  exact R
theorem goodT_elems {l : List (Int × Value)} (g : ∀ e ∈ l, GoodT w e) : ElemsOf (PySem.strKind P w) l := fun e he => by
  obtain ⟨k, tk, g1, g2⟩ := g e he
  exact ⟨⟨k, by rw [g1]; exact strKind_is P w k tk, g2⟩, by rw [g1]; rfl⟩
theorem goodT_is {e : Int × Value} (g : GoodT w e) (k : Str) : (PySem.strKind P w).is k e.2 = true ↔ txtOf e = k := by
  obtain ⟨k0, tk, g1, _⟩ := g
  unfold txtOf
  rw [g1]
  constructor
  · intro q
    exact (PySem.strKind P w).inj _ _ _ (strKind_is P w k0 tk) q
  · intro q
    show (PySem.strKind P w).is k (.str k0 tk) = true
    rw [show k0 = k from q]
    exact strKind_is P w k tk
theorem goodT_mem {l : List (Int × Value)} (g : ∀ e ∈ l, GoodT w e) (k : Str) : k ∈ l.map txtOf ↔ ∃ e ∈ l, (PySem.strKind P w).is k e.2 = true := by
  rw [List.mem_map]
  exact ⟨fun ⟨e, he, q⟩ => ⟨e, he, (goodT_is (g e he) k).2 q⟩, fun ⟨e, he, q⟩ => ⟨e, he, (goodT_is (P := P) (g e he) k).1 q⟩⟩
theorem SetTx.setOf (R : SetTx w h a S n) : h.SetOf (PySem.strKind P w) a S n := by
  obtain ⟨o, es, ep, t, ho, hx, hd, g, nd, hm, ⟨hb, hf, hn⟩, _⟩ := R
  exact ⟨o, es, ep, t, ho, hx, hd, goodT_elems g, fun k => (hm k).trans (goodT_mem g k), hb, hf, hn⟩
end
section
variable {P : Program} {w : World} {A : Around} {E : Value → Shared → Prop} {s : Shared} {a : Addr} {S : Str → Bool} {n : Nat}
theorem tx_tail {g : Bool → Sem Unit} (hg : ∀ (b : Bool) (s₁ : Shared) (Q' : Unit → Shared → Prop), Q' () s₁ → wpAny (model P w) A (g b) Q' E s₁)
    {o : Obj} {es : Array (Int × Value)} {ep : Nat} {t : SetTable} (ho : s.heap.get? a = some o) (hex : o.ExactSet) (hd : o.data = .set es ep t)
    {es1 : Array (Int × Value)} {t2 : SetTable} {S' : Str → Bool} (g1 : ∀ e ∈ es1.toList, GoodT w e) (nd1 : (es1.toList.map txtOf).Nodup) (m1 : ∀ k, S' k = true ↔ k ∈ es1.toList.map txtOf)
    (room : es1.size < scanBound) (fit : t2.fits es1.size = true) (ris : Ris t2.place.toList) (led : w.params.followText "set-order" = true ∨ t2.led = true) {wasDummy : Bool} {R : Option Bool → Shared → Prop}
    (hR : ∀ h', Heap.SameBut a s.heap h' → SetTx w h' a S' es1.size → R (some true) { s with heap := h' }) :
    wpAny (model P w) A (do
        storeSet a es1 t2
        if (!wasDummy && t2.tooFull) = true then do
            g (relayAll t2 es1 (SetTable.grown es1.size)).2.2
            storeSet a (relayAll t2 es1 (SetTable.grown es1.size)).1 (relayAll t2 es1 (SetTable.grown es1.size)).2.1
            pure (some true)
          else pure (some true)) R E s := by
  refine wpAny_bind (wpAny_storeSet_of ho hd ?_ (fits_of_scanBound room))
  have st1 := store_at (es' := es1) (t' := t2) ho hd
  have same1 := Heap.SameBut.update s.heap a (Obj.putSet es1 t2)
  split
  · have p3 := relayAll_perm t2 es1 (SetTable.grown es1.size)
    have f3 := relayAll_fits t2 es1 (SetTable.grown es1.size)
    have r3 := relayAll_ris t2 es1 (SetTable.grown es1.size)
    have l3 := relayAll_led t2 es1 (SetTable.grown es1.size)
    generalize relayAll t2 es1 (SetTable.grown es1.size) = Z at p3 f3 r3 l3 ⊢
    obtain ⟨es2, t3, gave⟩ := Z
    dsimp only at p3 f3 r3 l3 ⊢
    have z2 : es2.size = es1.size := by rw [← Array.length_toList, p3.length_eq, Array.length_toList]
    have b2 : es2.size < scanBound := by rw [z2]; exact room
    refine wpAny_bind (hg _ _ _ (wpAny_bind (wpAny_storeSet_of st1 rfl ?_ (fits_of_scanBound b2))))
    have st2 := store_at (es' := es2) (t' := t3) st1 rfl
    exact wpAny_pure (hR _ (same1.trans (Heap.SameBut.update _ a _)) ⟨_, es2, _, t3, st2, hex, rfl, fun e he => g1 e (p3.mem_iff.mp he), (p3.map txtOf).nodup_iff.mpr nd1, fun k => (m1 k).trans (p3.map txtOf).mem_iff.symm, ⟨b2, f3, z2⟩, r3, led.imp id fun z => by rw [l3]; exact z⟩)
  · exact wpAny_pure (hR _ same1 ⟨_, es1, _, t2, st1, hex, rfl, g1, nd1, m1, ⟨room, fit, rfl⟩, ris, led⟩)
theorem tx_add {k : Str} {tk : Tok} {Q : Bool → Shared → Prop} (R : SetTx w s.heap a S n) (room : n + 1 < scanBound)
    (hQ : ∀ h', Heap.SameBut a s.heap h' → SetTx w h' a (fun j => S j || decide (j = k)) (if S k = true then n else n + 1) → Q (!S k) { s with heap := h' }) :
    wpAny (model P w) A (setAddHashed a (.str k tk) ((PySem.strKind P w).hash k)) Q E s := by
  obtain ⟨o, es, ep, t, ho, hex, hd, g, nd, hm, ⟨hb, hf, hn⟩, hr, hl⟩ := R
  have is_k : (PySem.strKind P w).is k (.str k tk) = true := strKind_is P w k tk
  have scan : (Value.str k tk).scannable = true := rfl
  have elems : ElemsOf (PySem.strKind P w) es.toList := goodT_elems g
  unfold setAddHashed setAddHashedIn
  refine wpAny_holding (wpAny_bind (wpAny_setState_of ho hd hf ?_))
  dsimp only
  rw [byScan_of scan hb elems]
  simp only [↓reduceIte]
  unfold setAddByScan
  refine wpAny_bind (wpAny_bind (wpAny_rule ?_))
  refine wpAny_bind (wpAny_setScan_of is_k ho hd hf elems ?_)
  cases at_ : List.findIdx? (fun e => (PySem.strKind P w).is k e.2) es.toList with
  | some j =>
    dsimp only
    obtain ⟨hj, pj, _⟩ := List.findIdx?_eq_some_iff_getElem.mp at_
    have inS : S k = true := (hm k).2 ((goodT_mem (P := P) g k).2 ⟨es.toList[j], List.getElem_mem hj, pj⟩)
    refine wpAny_pure (wpAny_pure ?_)
    have q := hQ s.heap (Heap.SameBut.refl a s.heap) ⟨o, es, ep, t, ho, hex, hd, g, nd, fun i => by
      rw [Bool.or_eq_true, decide_eq_true_eq, ← hm i]
      exact ⟨fun z => z.elim id (fun e => e ▸ inS), .inl⟩, ⟨hb, hf, by rw [if_pos inS]; exact hn⟩, hr, hl⟩
    rw [inS] at q
    exact q
  | none =>
    dsimp only
    have out : k ∉ es.toList.map txtOf := fun z => by
      obtain ⟨e, he, q⟩ := (goodT_mem (P := P) g k).1 z
      have c := List.findIdx?_eq_none_iff.mp at_ e he
      rw [q] at c
      cases c
    have noS : S k = false := by
      cases q : S k with
      | false => rfl
      | true => exact absurd ((hm k).1 q) out
    have gave_ : ∀ (b : Bool) {s₁ : Shared} {Q' : Unit → Shared → Prop}, Q' () s₁ → wpAny (model P w) A (match b with | true => rule "set.scan.the-table-gave-way" | false => pure ()) Q' E s₁ :=
      fun b s₁ Q' q => by cases b <;> first | exact wpAny_pure q | exact wpAny_rule q
    have p1 := layNew_perm t es ((PySem.strKind P w).hash k) (.str k tk)
    have f1 := layNew_fits t es ((PySem.strKind P w).hash k) (.str k tk)
    have r1 := layNew_ris t es ((PySem.strKind P w).hash k) (.str k tk) hr
    have l1 := layNew_led t es ((PySem.strKind P w).hash k) (.str k tk)
    generalize layNew t es ((PySem.strKind P w).hash k) (.str k tk) = Z at p1 f1 r1 l1 ⊢
    obtain ⟨es1, t1, wasDummy, gave⟩ := Z
    dsimp only at p1 f1 r1 l1 ⊢
    rw [Array.toList_push] at p1
    have pc : es1.toList.Perm (((PySem.strKind P w).hash k, Value.str k tk) :: es.toList) := p1.trans (List.perm_append_singleton _ _)
    have pk : (es1.toList.map txtOf).Perm (k :: es.toList.map txtOf) := pc.map txtOf
    have g1 : ∀ e ∈ es1.toList, GoodT w e := fun e he => by
      rcases List.mem_cons.mp (pc.mem_iff.mp he) with z | z
      · rw [z]; exact ⟨k, tk, rfl, rfl⟩
      · exact g e z
    have nd1 : (es1.toList.map txtOf).Nodup := pk.nodup_iff.mpr (List.nodup_cons.mpr ⟨out, nd⟩)
    have m1 : ∀ i, (S i || decide (i = k)) = true ↔ i ∈ es1.toList.map txtOf := fun i => by
      rw [Bool.or_eq_true, decide_eq_true_eq, hm i, pk.mem_iff, List.mem_cons]
      exact Or.comm
    have z1 : es1.size = n + 1 := by rw [← Array.length_toList, pc.length_eq, List.length_cons, Array.length_toList, hn]
    have b1 : es1.size < scanBound := by rw [z1]; exact room
    have led1 : w.params.followText "set-order" = true ∨ t1.led = true := hl.imp id fun z => by rw [l1]; exact z
    have fin : ∀ h', Heap.SameBut a s.heap h' → SetTx w h' a (fun j => S j || decide (j = k)) es1.size → Q true { s with heap := h' } := fun h' sb r => by
      have q := hQ h' sb
      rw [noS] at q
      rw [z1] at r
      exact q r
    refine wpAny_bind (gave_ _ ?_)
    split
    · refine wpAny_bind ?_
      rw [hashByValue_scannable 8 scan]
      refine wpAny_pure ?_
      refine tx_tail ?_ ho hex hd g1 nd1 m1 b1 ?_ ?_ ?_ ?_
      · intro b s₁ Q' q; cases b <;> first | exact wpAny_pure q | exact wpAny_rule q
      · first | (split <;> first | exact f1 | exact SetTable.fits_plain_off f1) | exact f1
      · first | (split <;> exact r1) | exact r1
      · first | (split <;> exact led1) | exact led1
      · intro h' sb r; dsimp only; exact wpAny_pure (fin h' sb r)
    · refine wpAny_bind (wpAny_pure ?_)
      simp only [↓reduceIte]
      refine tx_tail ?_ ho hex hd g1 nd1 m1 b1 f1 r1 led1 ?_
      · intro b s₁ Q' q; cases b <;> first | exact wpAny_pure q | exact wpAny_rule q
      · intro h' sb r; dsimp only; exact wpAny_pure (fin h' sb r)
end
end My
set_option maxHeartbeats 4000000
namespace My
open PySem PySem.Spec PyProof.Rows L2
/-! ### sorted(a set of texts), len of it -/
def textIn : Value → Str | .str x _ => x | _ => Str.empty
theorem each_text : ∀ l : List Value, (∀ v ∈ l, ∃ k tk, v = Value.str k tk) → PySem.W.EachIs (fun v b => ∃ t, v = Value.str b t) l (l.map textIn)
  | [], _ => .nil
  | v :: l, h => by
    obtain ⟨k, tk, rfl⟩ := h v List.mem_cons_self
    exact .cons ⟨tk, rfl⟩ (each_text l fun u hu => h u (List.mem_cons_of_mem _ hu))
theorem vals_text : ∀ {out : List Value} {M : List Str}, PySem.W.EachIs (fun v b => ∃ t, v = Value.str b t) out M → Vals (M.map V.str) out
  | _, _, .nil => .nil
  | _, _, .cons h t => .cons (show RelV _ _ from h) (vals_text t)
section
variable {P : Program} {w : World} {A : Around} {E : Value → Shared → Prop} {s : Shared} {a : Addr} {S : Str → Bool} {n : Nat}
theorem sorted_texts {Q : Value → Shared → Prop} (R : SetTx w s.heap a S n) (calm : A.handled = none) (small : n ≤ 100000) (hu : A.units + 64 < cLine)
    (hQ : ∀ s' p (out : Array Value) (c : Nat) (M : List Str), (∀ b o, s.heap.get? b = some o → s'.heap.get? b = some o) → s'.gens = s.gens → s'.os = s.os → s.heap.objs.size ≤ p →
      s'.heap.get? p = some (seqObj "list" out c) → Vals (M.map V.str) out.toList → M.Pairwise sLt → (∀ k, k ∈ M ↔ S k = true) → M.length = n → Q (.ref p) s') :
    wpAny (model P w) A (call (.builtin "sorted") [.ref a]) Q E s := by
  obtain ⟨o, es, ep, t, ho, hex, hd, g, nd, hm, ⟨hb, hf, hn⟩, hr, hl⟩ := R
  have line : n ≤ sizeLine := Nat.le_trans small (by decide)
  refine Calls.call_function_entry kind_sorted plain_sorted entry_sorted (args_sorted1 _) ?_
  unfold Builtin.«sorted»
  refine wpAny_bind (m := checkCount "sorted" 1 1 _) (wpAny_pure ?_)
  refine wpAny_bind (collect_set (A := A.in1) calm ⟨o, ho, hex.1, hd⟩ hf hb hr hl fun s1 vs k1 hz g1 o1 pm => ?_)
  have many : vs.length = n := by rw [pm.length_eq, List.length_map, Array.length_toList]; exact hn
  have each := each_text vs fun v hv => by
    obtain ⟨e, he, q⟩ := List.mem_map.mp (pm.mem_iff.mp hv)
    obtain ⟨k, tk, h1, _⟩ := g e he
    exact ⟨k, tk, by rw [← q]; exact h1⟩
  have pk : (vs.map textIn).Perm (es.toList.map txtOf) := by
    have q := pm.map textIn
    rw [List.map_map] at q
    exact q
  have nd2 : (vs.map textIn).Nodup := pk.nodup_iff.mpr nd
  refine wpAny_bind (wpAny_newList ?_ (by rw [many]; exact line))
  have laid : (s1.heap.push (seqObj "list" vs.toArray 0)).get? s1.heap.objs.size = some (seqObj "list" vs.toArray 0) := Heap.get?_push_size _ rfl
  refine wpAny_bind (wpAny_holding (PySem.W.list_sort_data (s := { s1 with heap := s1.heap.push (seqObj "list" vs.toArray 0) }) (enc := PyData.str) (bs := vs.map textIn) laid each (each.mono fun v b ⟨t, e⟩ => ⟨[], by rw [e]; exact .str _ _, by simp⟩) ?_ ?_ ?_ ?_ fun out len outs => ?_))
  · intro d hd d' hd'
    obtain ⟨x, _, rfl⟩ := List.mem_map.mp hd
    obtain ⟨y, _, rfl⟩ := List.mem_map.mp hd'
    rfl
  · exact .others (enc := PyData.str) fun b => ⟨fun z => (by cases z), fun xs z => (by cases z)⟩
  · rw [List.length_map, many]; exact line
  · intro b _
    show A.units + 1 + 1 + 0 < cLine
    omega
  · obtain ⟨c, hc⟩ := sortedHeap_at (vs := vs) (out := out.toArray) laid
    rw [show PySem.W.dataLe false PyData.str = leS from dataLe_s] at outs
    have pn : ((vs.map textIn).mergeSort leS).Perm (es.toList.map txtOf) := (List.mergeSort_perm _ _).trans pk
    refine wpAny_pure ⟨_, rfl, hQ _ s1.heap.objs.size out.toArray c ((vs.map textIn).mergeSort leS) (fun b u e => ?_) g1 o1 hz hc (by simpa using vals_text outs) (texts_of nd2) (fun k => by rw [pn.mem_iff, ← hm k]) ?_⟩
    · have q := k1 b u e
      have hlt := Heap.lt_size q
      show (sortedHeap (s1.heap.push (seqObj "list" vs.toArray 0)) s1.heap.objs.size vs out.toArray).get? b = some u
      rw [sortedHeap_old (Nat.ne_of_lt hlt) (by rw [size_push']; exact Nat.lt_succ_of_lt hlt)]
      exact Heap.get?_push_of_some _ q
    · rw [pn.length_eq, List.length_map, Array.length_toList]; exact hn
end
/-- a set of texts in the heap -/
def TxO (w : World) (a : Addr) (S : Str → Bool) (n : Nat) : HO := .ext fun h => SetTx w h a S n
section
variable {X : Cx}
theorem txO_new {w : World} {P : Program} {H : Hp} {h : Heap} {a : Addr} {S : Str → Bool} {n : Nat} (R : SetTx w h a S n) : ObjOk P w H h a (TxO w a S n) := by
  have ⟨o, _, _, _, ho, _⟩ := R
  exact ⟨R, ⟨o, ho⟩, fun _ _ p k => SetTx.at p k⟩
theorem txO_get {pins : List (Addr × Obj)} {σ : L2.St} {H : Hp} {s : Shared} {a : Addr} {S : Str → Bool} {n : Nat} (I : Inv X pins σ H s) (ha : H a = some (TxO X.w a S n)) : SetTx X.w s.heap a S n := (I.hok a _ ha).1
/-- sorted(found) -/
def rSortTx (w : World) : List V → Hp → VK → Prop := fun vs H Q => ∃ (a : Addr) (S : Str → Bool) (n : Nat), vs = [V.ref a] ∧ H a = some (TxO w a S n) ∧ n ≤ 100000 ∧
  ∀ (M : List Str) (p : Addr), M.Pairwise sLt → (∀ k : Str, k ∈ M ↔ S k = true) → M.length = n → H p = none → Q (.ref p) (upd H p (.lst (M.map V.str)))
theorem cr_sortTx (hc : X.calm = true) (hu : X.A.units + 64 < cLine) : CallR X (.builtin "sorted") (rSortTx X.w) := by
  intro pins s σ H vs us Q I r h
  obtain ⟨a, S, n, rfl, ha, small, q⟩ := h
  have R := txO_get I ha
  rw [Vals.ref1 r]
  refine sorted_texts R (I.ok.hd hc) small hu fun s' p out c M k g o hp hg hv hs hm hl => ?_
  have line : (M.map V.str).length ≤ sizeLine := by rw [List.length_map, hl]; exact Nat.le_trans small (by decide)
  have free : H p = none := I.hok.fresh hp
  have J : Inv X pins σ (upd H p (.lst (M.map V.str))) { s with heap := s'.heap, gens := s'.gens, drawn := s'.drawn, toks := s'.toks } :=
    I.call (ch := []) (Un.laid k hp free) (I.hok.laid k hp ⟨line, out.toList, c, hv, hg⟩) (by rw [g]; exact I.bare) (fun _ z => nomatch z)
  have same : s' = { s with heap := s'.heap, gens := s'.gens, drawn := s'.drawn, toks := s'.toks } := by
    cases s'
    cases s
    cases o
    rfl
  rw [same]
  exact ⟨.ref p, _, J, rfl, q M p hs hm hl free⟩
/-- len(found) -/
theorem cr_lenTx : CallR X (.builtin "len") (fun vs H Q => ∃ (a : Addr) (S : Str → Bool) (n : Nat), vs = [V.ref a] ∧ H a = some (TxO X.w a S n) ∧ n ≤ 100000 ∧ Q (.int (n : Int)) H) := by
  intro pins s σ H vs us Q I r h
  obtain ⟨a, S, n, rfl, ha, small, q⟩ := h
  obtain ⟨o, es, ep, t, ho, hex, hd, _, _, _, ⟨_, hf, hn⟩, _⟩ := txO_get I ha
  rw [Vals.ref1 r]
  exact call_len_set ho hex hd hf (by rw [hn]; omega) ⟨.int (n : Int), H, I.tok _, ⟨_, by rw [hn]⟩, q⟩
end
end My
set_option maxHeartbeats 4000000
namespace My
open PySem PySem.Spec PyProof.Rows L2
/-! ### sorted(a list or a tuple of texts) -/
theorem textIn_of : ∀ {xs : List Str} {us : List Value}, Vals (xs.map V.str) us → (∀ v ∈ us, ∃ k tk, v = Value.str k tk) ∧ us.map textIn = xs
  | [], _, .nil => ⟨fun v hv => by simp at hv, rfl⟩
  | x :: xs, _, .cons r t => by
    obtain ⟨h1, h2⟩ := textIn_of (xs := xs) t
    obtain ⟨tk, rfl⟩ := r
    refine ⟨fun v hv => ?_, by rw [List.map_cons, h2]; rfl⟩
    rcases List.mem_cons.mp hv with z | z
    · exact ⟨x, tk, z⟩
    · exact h1 v z
section
variable {P : Program} {w : World} {A : Around} {E : Value → Shared → Prop} {s : Shared} {a : Addr}
theorem gather {Q : List Value → Shared → Prop} (q : Addr) {T : String} {o : Obj} {ys : Array Value} {n : Nat} (hT : T = "list" ∨ T = "tuple")
    (ho : s.heap.get? q = some o) (hc : o.cls = .type T) (hd : o.data = .seq ys n) (line : ys.size ≤ sizeLine)
    (hQ : ∀ h', (∀ b o', s.heap.get? b = some o' → h'.get? b = some o') → s.heap.objs.size ≤ h'.objs.size → Q ys.toList { s with heap := h' }) :
    wpAny (model P w) A (collect (.ref q)) Q E s := by
  unfold collect
  refine wpAny_bind (wpAny_runValue (codeAny_builtin PySem.F.entry_proto_collect ?_))
  rw [Around.under_plainId PySem.F.plain_proto_collect _]
  show wpAny _ A.in1 (newList [] >>= fun l => again (.builtin "list.__iadd__" ⟨[l, .ref q], []⟩)) _ _ s
  refine wpAny_bind (wpAny_newObj_type ?_)
  refine wpAny_pure ⟨plainId_quiet PySem.F.plain_list_iadd _, codeAny_builtin PySem.F.entry_list_iadd ?_⟩
  rw [Around.under_plainId PySem.F.plain_list_iadd _]
  show wpAny _ A.in1 (Builtin.List.listExtendWith (.ref s.heap.objs.size) (.ref q) (.ref s.heap.objs.size)) _ _ _
  have new1 : (s.heap.push { cls := .type "list", data := .seq ([] : List Value).toArray }).get? s.heap.objs.size = some { cls := .type "list", data := .seq #[] 0 } := Heap.get?_push_size _ rfl
  have new2 := Heap.get?_update_self (Obj.mapSeq (· ++ ys)) new1 rfl
  have told_ : wpAny (model P w) A (match Value.ref s.heap.objs.size with
      | Value.ref a => do
        match (← load a).data with
          | Data.seq xs _ => pure xs.toList
          | _ => unsupported "internal:collect"
      | _ => unsupported "internal:collect") Q E { s with heap := (s.heap.push { cls := .type "list", data := .seq ([] : List Value).toArray }).update s.heap.objs.size (Obj.mapSeq (· ++ ys)) } := by
    show wpAny _ A (load s.heap.objs.size >>= _) _ _ _
    refine wpAny_bind (wpAny_load new2 (wpAny_pure ?_))
    show Q ((#[] : Array Value) ++ ys).toList _
    rw [show ((#[] : Array Value) ++ ys).toList = ys.toList by simp]
    refine hQ _ (fun b o' hb => (Heap.get?_update_other _ _ (Nat.ne_of_gt (Heap.lt_size hb))).trans (Heap.get?_push_of_some _ hb)) ?_
    exact Nat.le_of_lt (Heap.lt_size new2)
  refine wpAny_mono (wpAny_extend_seq (hsz := line) (A := A) (R := fun r s' => r = .ok (.ret (.ref s.heap.objs.size)) ∧ s' = { s with heap := (s.heap.push { cls := .type "list", data := .seq ([] : List Value).toArray }).update s.heap.objs.size (Obj.mapSeq (· ++ ys)) })
    (s := { s with heap := s.heap.push { cls := .type "list", data := .seq ([] : List Value).toArray } }) _ q _ 0 hT new1 (Heap.get?_push_of_some _ ho) hc hd ⟨rfl, rfl⟩) (fun fin s' h => ?_) (fun e s' h => ?_)
  · cases fin with
    | done f =>
      obtain ⟨e, rfl⟩ := h
      cases e
      exact told_
    | again c' => exact ⟨h.1, codeAny_mono h.2 fun r s'' hr => by obtain ⟨rfl, rfl⟩ := hr; exact told_⟩
  · exact absurd h.1 (by simp)
theorem sorted_seq {Q : Value → Shared → Prop} {T : String} {o : Obj} {ys : Array Value} {n : Nat} {xs : List Str} (hT : T = "list" ∨ T = "tuple") (ho : s.heap.get? a = some o) (hc : o.cls = .type T) (hd : o.data = .seq ys n)
    (rv : Vals (xs.map V.str) ys.toList) (small : xs.length ≤ 100000) (hu : A.units + 64 < cLine)
    (hQ : ∀ s' p (out : Array Value) (c : Nat), (∀ b o, s.heap.get? b = some o → s'.heap.get? b = some o) → s'.gens = s.gens → s'.os = s.os → s.heap.objs.size ≤ p →
      s'.heap.get? p = some (seqObj "list" out c) → Vals ((xs.mergeSort leS).map V.str) out.toList → Q (.ref p) s') :
    wpAny (model P w) A (call (.builtin "sorted") [.ref a]) Q E s := by
  obtain ⟨each0, eM⟩ := textIn_of rv
  have many : ys.toList.length = xs.length := by rw [← vals_len rv, List.length_map]
  have line : ys.size ≤ sizeLine := by rw [← Array.length_toList, many]; exact Nat.le_trans small (by decide)
  refine Calls.call_function_entry kind_sorted plain_sorted entry_sorted (args_sorted1 _) ?_
  unfold Builtin.«sorted»
  refine wpAny_bind (m := checkCount "sorted" 1 1 _) (wpAny_pure ?_)
  refine wpAny_bind (gather (A := A.in1) a hT ho hc hd line fun h1 k1 hz => ?_)
  have each := each_text ys.toList each0
  refine wpAny_bind (wpAny_newList ?_ (by rw [many]; exact Nat.le_trans small (by decide)))
  have laid : (h1.push (seqObj "list" ys.toList.toArray 0)).get? h1.objs.size = some (seqObj "list" ys.toList.toArray 0) := Heap.get?_push_size _ rfl
  refine wpAny_bind (wpAny_holding (PySem.W.list_sort_data (s := { s with heap := h1.push (seqObj "list" ys.toList.toArray 0) }) (enc := PyData.str) (bs := ys.toList.map textIn) laid each (each.mono fun v b ⟨t, e⟩ => ⟨[], by rw [e]; exact .str _ _, by simp⟩) ?_ ?_ ?_ ?_ fun out len outs => ?_))
  · intro d hd d' hd'
    obtain ⟨x, _, rfl⟩ := List.mem_map.mp hd
    obtain ⟨y, _, rfl⟩ := List.mem_map.mp hd'
    rfl
  · exact .others (enc := PyData.str) fun b => ⟨fun z => (by cases z), fun xs z => (by cases z)⟩
  · rw [List.length_map, many]; exact Nat.le_trans small (by decide)
  · intro b _
    show A.units + 1 + 1 + 0 < cLine
    omega
  · obtain ⟨c, hc⟩ := sortedHeap_at (vs := ys.toList) (out := out.toArray) laid
    rw [show PySem.W.dataLe false PyData.str = leS from dataLe_s, eM] at outs
    refine wpAny_pure ⟨_, rfl, hQ _ h1.objs.size out.toArray c (fun b u e => ?_) rfl rfl hz hc (by simpa using vals_text outs)⟩
    have q := k1 b u e
    have hlt := Heap.lt_size q
    show (sortedHeap (h1.push (seqObj "list" ys.toList.toArray 0)) h1.objs.size ys.toList out.toArray).get? b = some u
    rw [sortedHeap_old (Nat.ne_of_lt hlt) (by rw [size_push']; exact Nat.lt_succ_of_lt hlt)]
    exact Heap.get?_push_of_some _ q
end
section
variable {X : Cx}
def rSortSq (K : PySem.W.Frag) : List V → Hp → VK → Prop := fun vs H Q => ∃ (a : Addr) (xs : List Str), vs = [V.ref a] ∧ (SqL K H a (xs.map V.str) ∨ SqT K H a (xs.map V.str)) ∧ xs.length ≤ 100000 ∧
  ∀ (p : Addr), H p = none → Q (.ref p) (upd H p (.lst ((xs.mergeSort leS).map V.str)))
theorem cr_sortSq (hu : X.A.units + 64 < cLine) : CallR X (.builtin "sorted") (rSortSq X.K) := by
  intro pins s σ H vs us Q I r h
  obtain ⟨a, xs, rfl, hq, small, q⟩ := h
  rw [Vals.ref1 r]
  have line : ((xs.mergeSort leS).map V.str).length ≤ sizeLine := by rw [List.length_map, List.length_mergeSort]; exact Nat.le_trans small (by decide)
  have fin : ∀ s' p (out : Array Value) (c : Nat), (∀ b o, s.heap.get? b = some o → s'.heap.get? b = some o) → s'.gens = s.gens → s'.os = s.os → s.heap.objs.size ≤ p →
      s'.heap.get? p = some (seqObj "list" out c) → Vals ((xs.mergeSort leS).map V.str) out.toList → EP X pins σ Q (.ref p) s' := fun s' p out c k g o hp hg hv => by
    have free : H p = none := I.hok.fresh hp
    have J : Inv X pins σ (upd H p (.lst ((xs.mergeSort leS).map V.str))) { s with heap := s'.heap, gens := s'.gens, drawn := s'.drawn, toks := s'.toks } :=
      I.call (ch := []) (Un.laid k hp free) (I.hok.laid k hp ⟨line, out.toList, c, hv, hg⟩) (by rw [g]; exact I.bare) (fun _ z => nomatch z)
    have same : s' = { s with heap := s'.heap, gens := s'.gens, drawn := s'.drawn, toks := s'.toks } := by
      cases s'
      cases s
      cases o
      rfl
    rw [same]
    exact ⟨.ref p, _, J, rfl, q p free⟩
  rcases hq with hq | hq
  · obtain ⟨its, rv, pl, hz⟩ := I.list hq
    obtain ⟨o, ho, hc, n, hd⟩ := pl.isList
    exact sorted_seq (.inl rfl) ho hc hd (by simpa using rv) small hu fin
  · obtain ⟨its, rv, pl, hz⟩ := I.tuple hq
    obtain ⟨o, ho, hc, n, hd⟩ := pl
    exact sorted_seq (.inr rfl) ho hc hd (by simpa using rv) small hu fin
end
end My
namespace My
open PySem PySem.Spec PyProof.Rows L2
/-- any walk: what is done with each item, by what holds behind it -/
theorem it_any {J : It} {n : Nat} {G : Hp → Prop} {Y : Nat → Hp → V → Hp → Prop} (wk : Walk J n G Y) {H0 : Hp} {Qd : Hp → Prop} {Step : V → Hp → (Hp → Prop) → Prop} (Pv : Nat → Hp → Prop) (h0 : Pv 0 H0) (hG : ∀ i H, i ≤ n → Pv i H → G H)
    (hs : ∀ i x H H', i < n → Pv i H → Y i H x H' → Step x H' (Pv (i + 1))) (hd : ∀ H, Pv n H → Qd H) :
    ∃ W : Nat → Nat → Hp → Prop, (∃ m, W 0 m H0) ∧ ∀ i m H, W i m H → (J.stop i H ∧ Qd H) ∨ (J.go i H ∧ ∃ Nx : Hp → Prop, (∀ H', Nx H' → ∃ m', m' < m ∧ W (i + 1) m' H') ∧ ∀ x H', J.yld i H x H' → Step x H' Nx) := by
  refine ⟨fun i m H => i ≤ n ∧ m = n - i ∧ Pv i H, ⟨n, Nat.zero_le _, rfl, h0⟩, fun i m H ⟨hi, em, p⟩ => ?_⟩
  have hq := hG i H hi p
  rcases Nat.lt_or_ge i n with lt | ge
  · exact .inr ⟨wk.goes i H lt hq, Pv (i + 1), fun H' p' => ⟨n - (i + 1), by omega, lt, rfl, p'⟩, fun x H' y => hs i x H H' lt p (wk.yields i H x H' lt hq y)⟩
  · have e : i = n := Nat.le_antisymm hi ge
    subst e
    exact .inl ⟨wk.stops H hq, hd H p⟩
end My
/-! own exceptions without arguments; defs that may raise, called by keywords -/
namespace My
open PySem PySem.Spec PyProof.Rows L2 PySem.Calls
section
variable {X : Cx} {C : Addr} {bmB : List Value} {B newId initId : String}
/-- X() -/
theorem pmk_own0 {x : Str} {p pos : Pos} (F : ExcBaseFacts B newId initId bmB) (q : PySem.W.excIn X.K C bmB newId = true) (gC : X.mg x = some (.ref C)) (kC : PySem.W.keepIn X.K (.ref C) = true) (r : Raises X (.ref C)) (hg : Gl X x)
    (hdb : (x == ("__debug__" : Str)) = false := by decide) : PMk X (.Call (.Name x p) [] [] pos) (fun _ H Q => Q (.ref C) none H) := by
  intro pins s σ H Q I h
  refine wpAny_Call_Name_kw (ld_glob I hg gC ?_ hdb)
  refine PySem.W.callWith_K0 I.kIn kC ?_
  show wpAny _ _ (call (.ref C) []) _ _ _
  obtain ⟨bm, N, nm, qn, bs, hdct, sn, sub, ab, col, dd, k0, k1, k2, k3, k5, mN, hC, hN, hni, T⟩ := exc_obj I.kIn q
  refine wpAny_call_exc_subT F T hC hN hni (fun h' e hm => ?_) (by show 0 ≤ sizeLine; exact Nat.zero_le _)
  exact mk_of I hm r h (I.hok.gone hm.new)
variable {CX : CXT} {k : Nat} {f : Addr} {fd : FuncData} {ps ks : List Str} {sp : Sp} {E : L2.St → XK} {x : Str} {p pos : Pos} {kws : List Keyword} {tk : TA} {g : List Value → List Value → List Value} {gV : List V → List V → List V}
theorem run_fnKS {pins : List (Addr × Obj)} {σ : L2.St} {H : Hp} {s : Shared} {Q : VK} {us ws : List Value} {vs zs : List V} (F : FnOk X.prog X.w X.K X.mg X.base CX k f fd ps sp) (hr : Room k X.A) (hb : KBinds X.K fd ps ks g gV) (out : PassesAt CX X σ (E σ))
    (I : Inv X pins σ H s) (r : Vals vs us) (rz : Vals zs ws) (h : sp (gV vs zs) H Q (E σ)) : wpAny (model X.prog X.w) X.A (call (.ref f) us (ks.zip ws)) (EP X pins σ Q) X.xe s := by
  have rr := hb.rel r rz
  have many : (g us ws).length = ps.length := by rw [← rr.length]; exact F.len _ _ _ _ h
  refine wpAny_call (codeAny_mono (F.run X.A X.stack s H ⟨us, ks.zip ws⟩ (g us ws) (gV vs zs) Q (E σ) hr I.env0 (hb.to s us ws I.kIn many) rr h) fun fin s1 told => ?_)
  cases fin with
  | error u => exact out pins H s u s1 I told
  | ok fl =>
    cases fl with
    | ret u => exact I.after told
    | next => exact told.elim
    | brk => exact told.elim
    | cont => exact told.elim
def tCallKS (sp : Sp) (gV : List V → List V → List V) (E : L2.St → XK) (tk : TA) : TE := fun σ H Q => tk σ H fun zs H1 => sp (gV [] zs) H1 Q (E σ)
/-- f(a=.., b=..), f may raise -/
theorem pe_callKS (F : FnOk X.prog X.w X.K X.mg X.base CX k f fd ps sp) (hr : Room k X.A) (hg : Gl X x) (hm : X.mg x = some (.ref f)) (hk : PySem.W.keepIn X.K (.ref f) = true) (hb : KBinds X.K fd ps ks g gV) (out : ∀ σ, PassesAt CX X σ (E σ))
    (hkw : PK X kws tk) (hall : (backToKw pos (keywordEach kws X.env)).all (·.1.isSome) = true := by rfl) (hks : (backToKw pos (keywordEach kws X.env)).filterMap (·.1) = ks := by rfl)
    (hdb : (x == ("__debug__" : Str)) = false := by decide)
    (hpl : ((backTo pos (starEach [] X.env)).any (·.1) || (backToKw pos (keywordEach kws X.env)).any (·.1.isNone)) = false := by rfl) :
    PE X (.Call (.Name x p) [] kws pos) (tCallKS sp gV E tk) := by
  refine ⟨fun pins s σ H Q I h => ?_⟩
  refine wpAny_Call_Name_kw (ld_glob I hg hm ?_ hdb)
  refine PySem.W.callWith_KW0 (h₀ := X.base) I.ok.mod.kin hk hall (thn (hkw.run pos pins s σ H _ I h) fun ws s2 ⟨zs, H2, I2, rz, q2⟩ => ⟨I2.kIn, ?_⟩) hpl
  rw [hks]
  exact run_fnKS F hr hb (out σ) I2 .nil rz q2
end
section
variable {P : Program} {w : World} {K : PySem.W.Frag} {mg : Str → Option Value} {base : Heap}
/-- a def that keeps a promise and may raise -/
def GoodX (P : Program) (w : World) (K : PySem.W.Frag) (mg : Str → Option Value) (base : Heap) (x : Str) (st : Stmt) (ps : List Str) (k : Nat) (sp : Sp) : Prop := ∃ (f : Addr) (fd : FuncData), FnOk P w K mg base (L2.CX P w) k f fd ps sp ∧ mg x = some (.ref f) ∧ PySem.W.keepIn K (.ref f) = true ∧ Binds K fd ps [] ∧ Fun K x x st f fd
theorem Def.goodX {x : Str} {st : Stmt} {ps : List Str} {k : Nat} {sp : Sp} (D : Def K mg x st ps) (h : ∀ f fd, Fun K x x st f fd → FnOk P w K mg base (L2.CX P w) k f fd ps sp) : GoodX P w K mg base x st ps k sp := by
  obtain ⟨f, fd, F, m, b⟩ := D
  exact ⟨f, fd, h f fd F, m, F.kp, b, F⟩
/-- an own exception class, of a built-in base -/
structure OwnX (K : PySem.W.Frag) (mg : Str → Option Value) (x : Str) (bm : List Value) (newId : String) (C : Addr) : Prop where
  g : mg x = some (.ref C)
  x : PySem.W.excIn K C bm newId = true
  k : PySem.W.keepIn K (.ref C) = true
  b : PySem.W.subIn K (.ref C) (.type "BaseException") = some true
  t : PySem.W.typeIn K (.ref C) = some (.type "type")
  e : PySem.W.exmOne K (.ref C) (.ref C) = some true
abbrev rtBases : List Value := [.type "RuntimeError", .type "Exception", .type "BaseException", .type "object"]
end
end My
/-! C(k = v, ..): a new instance by keywords -/
namespace My
open PySem PySem.W L2 PyProof.Rows
/-- an __init__ that keeps a promise, with the def itself -/
def GoodJ (P : Program) (w : World) (K : PySem.W.Frag) (mg : Str → Option Value) (base : Heap) (C : Addr) (x qual : Str) (st : Stmt) (ps : List Str) (k : Nat) (sp : Sp) : Prop := ∃ (f : Addr) (fd : FuncData), FnOk P w K mg base CX0 k f fd ps sp ∧ Mk K C f ∧ Binds K fd ps [] ∧ Fun K x qual st f fd
theorem DefI.goodJ {P : Program} {w : World} {K : PySem.W.Frag} {mg : Str → Option Value} {base : Heap} {C : Addr} {x qual : Str} {st : Stmt} {ps : List Str} {k : Nat} {sp : Sp} (D : DefI K C x qual st ps) (h : ∀ f fd, Fun K x qual st f fd → FnOk P w K mg base CX0 k f fd ps sp) : GoodJ P w K mg base C x qual st ps k sp := by
  obtain ⟨f, fd, F, m, b⟩ := D
  exact ⟨f, fd, h f fd F, m, b, F⟩
theorem fun_kbn {K : PySem.W.Frag} {x qual : Str} {st : Stmt} {f : Addr} {fd : FuncData} {ps ks : List Str} (F : Fun K x qual st f fd) (n : Nat) (g : List Value → List Value → List Value) (gV : List V → List V → List V)
    (hrel : ∀ {vs : List V} {us : List Value} {zs : List V} {ws : List Value}, Vals vs us → Vals zs ws → Vals (gV vs zs) (g us ws))
    (h : ∀ (kV doc pm : Value) (an : Option Addr) (cdv ct : Value) (us ws : List Value), us.length = n → ws.length = ks.length → bindArgs (PySem.W.fnOf x qual (defArgs st) (defBody st) (defScope st) .none kV doc pm an cdv ct) ⟨us, ks.zip ws⟩ = pure (ps.zip (g us ws))) : KBn K fd ps n ks g gV := by
  obtain ⟨oc, od, kV, doc, pm, an, cdv, ct, osl, rfl, lk, hcd⟩ := F.ex
  exact ⟨fun s us ws X l1 l2 => .of_eq (h kV doc pm an cdv ct us ws l1 l2), hrel⟩
/-- one keyword -/
theorem fun_kbn1 {K : PySem.W.Frag} {x qual : Str} {st : Stmt} {f : Addr} {fd : FuncData} {p q : Str} (F : Fun K x qual st f fd)
    (h : ∀ (kV doc pm : Value) (an : Option Addr) (cdv ct : Value) (u v : Value), bindArgs (PySem.W.fnOf x qual (defArgs st) (defBody st) (defScope st) .none kV doc pm an cdv ct) ⟨[u], [(q, v)]⟩ = pure ([p, q].zip [u, v])) : KBn K fd [p, q] 1 [q] gm1 gm1 :=
  fun_kbn F 1 gm1 gm1 relm1 fun kV doc pm an cdv ct us ws l1 l2 => by
    obtain ⟨u, rfl⟩ := List.length_eq_one_iff.mp l1
    obtain ⟨v, rfl⟩ := List.length_eq_one_iff.mp l2
    exact h kV doc pm an cdv ct u v
end My
/-! own exceptions that bear a value; instances made that may raise -/
namespace My
open PySem PySem.Spec PyProof.Rows L2 PySem.Calls
/-- self.value = value, of an exception that is being made -/
def spExcInit (C : Addr) : Sp := fun vs H Q _ => ∃ a v, vs = [V.ref a, v] ∧ H a = some (exo a C none) ∧ ∀ dx, H dx = none → dx ≠ a → Q .non (upd (upd H dx (exd dx [("value", v)])) a (exo a C (some dx)))
/-- an own exception class whose instances bear a value -/
structure ExcV (P : Program) (w : World) (K : PySem.W.Frag) (mg : Str → Option Value) (base : Heap) (x : Str) (C : Addr) : Prop where
  T : OexC K C
  g : mg x = some (.ref C)
  i : ∃ fI fd, PySem.W.findIn K (.ref C) "__init__" = some (some (.ref fI)) ∧ PySem.W.typeIn K (.ref fI) = some (.type "function") ∧ FnOk P w K mg base CX0 1 fI fd ["self", "value"] (spExcInit C) ∧ L2.Binds K fd ["self", "value"] []
  xf : XfC K C
  hno : PySem.W.findIn K (.ref C) "value" = some none
theorem del_back {H : Hp} {a d : Addr} {o1 o2 o3 o4 : HO} (ha : H a = none) (hd : d ≠ a) : upd (del (upd (upd (upd H a o1) d o2) a o3) a) d o4 = upd H d o4 := by
  funext b
  by_cases h1 : b = d
  · rw [h1, upd_same, upd_same]
  · rw [upd_ne h1, upd_ne h1]
    by_cases h2 : b = a
    · rw [h2, del_same, ha]
    · rw [del_ne h2, upd_ne h2, upd_ne h1, upd_ne h2]
/-- the reading of X(v) -/
theorem mkv {C : Addr} {v : V} {H1 : Hp} {Q : XK} (q : ∀ d, H1 d = none → Q (.ref C) (some d) (upd H1 d (.xd [("value", v)]))) : ([v] : List V).length ≤ 1000 ∧ ∀ a, H1 a = none → spExcInit C (.ref a :: ([v] ++ [])) (upd H1 a (exo a C none))
      (fun u H2 => u = .non ∧ ∃ (d : Addr) (fs : List (Str × V)), H2 a = some (exo a C (some d)) ∧ H2 d = some (exd d fs) ∧ H1 d = none ∧ Q (.ref C) (some d) (upd (del H2 a) d (.xd fs))) (fun _ _ _ => False) := by
  refine ⟨by simp, fun a na => ⟨a, v, rfl, upd_same, fun dx ndx hne => ?_⟩⟩
  rw [upd_ne hne] at ndx
  refine ⟨rfl, dx, _, upd_same, by rw [upd_ne hne, upd_same], ndx, ?_⟩
  rw [del_back na hne]
  exact q dx ndx
section
variable {X : Cx}
/-- X(e), to be raised -/
theorem pmk_val {x : Str} {C : Addr} {p pos : Pos} {e : Expr} {ta : TA} (V : ExcV X.prog X.w X.K X.mg X.base x C) (hr : Room 2 X.A) (hg : Gl X x) (ha : PA X [e] ta) (hdb : (x == ("__debug__" : Str)) = false := by decide)
    (hse : starEach [e] X.env = (false, eval e X.env) :: starEach [] X.env := by rfl) (hpl : (backTo pos (starEach [] X.env)).any (·.1) = false := by rfl) :
    PMk X (.Call (.Name x p) [e] [] pos) (tMkO C (spExcInit C) [] ta) := by
  obtain ⟨fI, fd, i1, i2, F, b⟩ := V.i
  exact pmk_oex (p := p) (pos := pos) (dvs := []) V.T i1 i2 F hr b .nil pass0 hg V.g ha hdb hse hpl
/-- C(k = v, ..), C's __init__ may raise -/
def tMakeKS (C : Addr) (m : Nat) (sp : Sp) (gV : List V → List V → List V) (E : L2.St → XK) (tk : TA) : TE := fun σ H Q => tk σ H fun zs H1 => zs.length = m ∧ ∀ x dx, H1 x = none → H1 dx = none → dx ≠ x →
  sp (gV [.ref x] zs) (upd (upd H1 dx (.own x)) x (.ins C dx [])) (fun v H2 => v = .non ∧ Q (.ref x) H2) (E σ)
variable {CX : CXT} {k n : Nat} {f C : Addr} {fd : FuncData} {ps ks : List Str} {sp : Sp} {E : L2.St → XK} {x : Str} {p pos : Pos} {kws : List Keyword} {tk : TA} {g : List Value → List Value → List Value} {gV : List V → List V → List V}
theorem run_makeKS {pins : List (Addr × Obj)} {σ : L2.St} {H : Hp} {s : Shared} {Q : VK} {ws : List Value} {zs : List V} (M : Mk X.K C f) (F : FnOk X.prog X.w X.K X.mg X.base CX k f fd ps sp) (hr : Room (k + 1) X.A) (hb : KBn X.K fd ps 1 ks g gV) (out : PassesAt CX X σ (E σ))
    (I : Inv X pins σ H s) (rz : Vals zs ws) (l2 : zs.length = ks.length)
    (h : ∀ x dx, H x = none → H dx = none → dx ≠ x → sp (gV [.ref x] zs) (upd (upd H dx (.own x)) x (.ins C dx [])) (fun v H2 => v = .non ∧ Q (.ref x) H2) (E σ)) :
    wpAny (model X.prog X.w) X.A (call (.ref C) [] (ks.zip ws)) (EP X pins σ Q) X.xe s := by
  have told := h (s.heap.objs.size + 1) s.heap.objs.size (I.hok.fresh (Nat.le_succ _)) (I.hok.fresh (Nat.le_refl _)) (Nat.ne_of_lt (Nat.lt_succ_self _))
  have J := Inv.made (C := C) I
  have self1 : Vals [V.ref (s.heap.objs.size + 1)] [Value.ref (s.heap.objs.size + 1)] := .cons rfl .nil
  have hrun := F.run _ X.stack _ _ ⟨[Value.ref (s.heap.objs.size + 1)], ks.zip ws⟩ (g [Value.ref (s.heap.objs.size + 1)] ws) _ _ (E σ) (hr.make C [] (ks.zip ws)) (J.env0.make C [] (ks.zip ws)) (hb.to _ [Value.ref (s.heap.objs.size + 1)] ws J.kIn rfl (rz.length.symm.trans l2)) (hb.rel self1 rz) told
  refine wpAny_call (make_map (f := f) I.kIn M.makes M.init (beq_iff_eq.mp M.fn) (codeAny_mono hrun fun fin s1 got => ?_))
  cases fin with
  | error u => exact out pins _ _ u s1 J got
  | ok fl =>
    cases fl with
    | ret u =>
      obtain ⟨v, H1, J1, rv, ev, q⟩ := J.after got
      subst ev
      exact ⟨rv, ⟨V.ref (s.heap.objs.size + 1), H1, J1, rfl, q⟩⟩
    | next => exact got.elim
    | brk => exact got.elim
    | cont => exact got.elim
theorem pe_makeKS (M : Mk X.K C f) (F : FnOk X.prog X.w X.K X.mg X.base CX k f fd ps sp) (hr : Room (k + 1) X.A) (hg : Gl X x) (hm : X.mg x = some (.ref C)) (hb : KBn X.K fd ps 1 ks g gV) (out : ∀ σ, PassesAt CX X σ (E σ)) (hkw : PK X kws tk)
    (hall : (backToKw pos (keywordEach kws X.env)).all (·.1.isSome) = true := by rfl) (hks : (backToKw pos (keywordEach kws X.env)).filterMap (·.1) = ks := by rfl) (hdb : (x == ("__debug__" : Str)) = false := by decide)
    (hpl : ((backTo pos (starEach [] X.env)).any (·.1) || (backToKw pos (keywordEach kws X.env)).any (·.1.isNone)) = false := by rfl) :
    PE X (.Call (.Name x p) [] kws pos) (tMakeKS C ks.length sp gV E tk) := by
  refine ⟨fun pins s σ H Q I h => ?_⟩
  refine wpAny_Call_Name_kw (ld_glob I hg hm ?_ hdb)
  refine PySem.W.callWith_KW0 (h₀ := X.base) I.ok.mod.kin M.kp hall ?_ hpl
  refine thn (hkw.run pos pins s σ H _ I h) fun ws s2 ⟨zs, H2, I2, rz, l2, q2⟩ => ⟨I2.kIn, ?_⟩
  rw [hks]
  exact run_makeKS M F hr hb (out σ) I2 rz l2 q2
end
/-- an __init__ that keeps a promise and may raise, with the def itself -/
def GoodJX (P : Program) (w : World) (K : PySem.W.Frag) (mg : Str → Option Value) (base : Heap) (C : Addr) (x qual : Str) (st : Stmt) (ps : List Str) (k : Nat) (sp : Sp) : Prop := ∃ (f : Addr) (fd : FuncData), FnOk P w K mg base (L2.CX P w) k f fd ps sp ∧ Mk K C f ∧ Binds K fd ps [] ∧ Fun K x qual st f fd
theorem DefI.goodJX {P : Program} {w : World} {K : PySem.W.Frag} {mg : Str → Option Value} {base : Heap} {C : Addr} {x qual : Str} {st : Stmt} {ps : List Str} {k : Nat} {sp : Sp} (D : DefI K C x qual st ps) (h : ∀ f fd, Fun K x qual st f fd → FnOk P w K mg base (L2.CX P w) k f fd ps sp) : GoodJX P w K mg base C x qual st ps k sp := by
  obtain ⟨f, fd, F, m, b⟩ := D
  exact ⟨f, fd, h f fd F, m, b, F⟩
/-- the facts of an own exception class with a value -/
theorem excV_mk {P : Program} {w : World} {K : PySem.W.Frag} {mg : Str → Option Value} {base : Heap} {x : Str} {C fI : Addr} {st : Stmt} {q : Str} {p1 p2 p3 p4 : Pos} (T : OexC K C) (g : mg x = some (.ref C)) (i1 : PySem.W.findIn K (.ref C) "__init__" = some (some (.ref fI))) (i2 : PySem.W.typeIn K (.ref fI) = some (.type "function"))
    {fd : FuncData} (F : Fun K "__init__" q st fI fd) (b : L2.Binds K fd ["self", "value"] []) (S : FnScope ["self", "value"] ["self", "value"] (defScope st)) (hb : defBody st = [.Assign [.Attribute (.Name "self" p1) "value" p2] (.Name "value" p3) p4])
    (xf : XfC K C) (hno : PySem.W.findIn K (.ref C) "value" = some none) : ExcV P w K mg base x C := by
  refine ⟨T, g, ⟨fI, fd, i1, i2, ?_, b⟩, xf, hno⟩
  refine F.ok S (fun vs H Q E h => ?_) (fun cdv A outer s H vs Q E hr h => ?_)
  · obtain ⟨a, v, rfl, _⟩ := h
    rfl
  · obtain ⟨a, v, rfl, ha, q⟩ := h
    rw [hb]
    have vis : ∀ x ∈ ([Str.ofString "self", Str.ofString "value"] : List Str), Vis (defScope st) x := fun x hx => (S.par x hx).imp id .inl
    refine ⟨_, pss_one (ps_ost (pe_var (i := 0) rfl (vis _ (by simp))) (pe_var (i := 1) rfl (vis _ (by simp)))), ?_⟩
    exact ⟨_, rfl, _, rfl, a, C, rfl, T, hno, .inl ⟨ha, fun dx n1 n2 => q dx n1 n2⟩⟩
end My
/-! list(xs) within a comprehension -/
namespace My
open PySem L2 PyProof.Rows
theorem call_list_ofK {X : Cx} {K : PySem.W.Frag} (h : X.K = K) : CallR X (.type "list") (fun xs H Q => ∃ p ys, xs = [.ref p] ∧ (SqL K H p ys ∨ SqT K H p ys) ∧ ∀ l, H l = none → Q (.ref l) (upd H l (.lst ys))) := h ▸ call_list_of
end My
namespace My
open PySem L2 PyProof.Rows
/-- two keywords behind self, turned -/
def gm21 {α : Type} : List α → List α → List α | [a], [b, c] => [a, c, b] | _, _ => []
theorem gm21_inv {α : Type} {us ws : List α} (h : (gm21 us ws).length = 3) : ∃ a b c, us = [a] ∧ ws = [b, c] := by
  unfold gm21 at h
  split at h
  · exact ⟨_, _, _, rfl, rfl⟩
  · simp at h
theorem relm21 {vs : List V} {us : List Value} {zs : List V} {ws : List Value} (a : Vals vs us) (b : Vals zs ws) : Vals (gm21 vs zs) (gm21 us ws) := by
  cases a with
  | nil => exact .nil
  | cons r a =>
    cases a with
    | nil =>
      cases b with
      | nil => exact .nil
      | cons r1 b =>
        cases b with
        | nil => exact .nil
        | cons r2 b =>
          cases b with
          | nil => exact .cons r (.cons r2 (.cons r1 .nil))
          | cons r3 b => exact .nil
    | cons r2 a =>
      cases b <;> exact .nil
theorem fun_kbn2r {K : PySem.W.Frag} {x qual : Str} {st : Stmt} {f : Addr} {fd : FuncData} {p q r : Str} (F : Fun K x qual st f fd)
    (h : ∀ (kV doc pm : Value) (an : Option Addr) (cdv ct : Value) (u v z : Value), bindArgs (PySem.W.fnOf x qual (defArgs st) (defBody st) (defScope st) .none kV doc pm an cdv ct) ⟨[u], [(r, v), (q, z)]⟩ = pure ([p, q, r].zip [u, z, v])) : KBn K fd [p, q, r] 1 [r, q] gm21 gm21 :=
  fun_kbn F 1 gm21 gm21 relm21 fun kV doc pm an cdv ct us ws l1 l2 => by
    obtain ⟨u, rfl⟩ := List.length_eq_one_iff.mp l1
    obtain ⟨v, z, rfl⟩ : ∃ v z, ws = [v, z] := by
      match ws, l2 with
      | [v, z], _ => exact ⟨v, z, rfl⟩
    exact h kV doc pm an cdv ct u v z
end My
namespace My
open PySem L2 PyProof.Rows
/-! ### contracts of defs that are called where nothing is being shown -/
structure FnG (P : Program) (w : World) (K : PySem.W.Frag) (mg : Str → Option Value) (base : Heap) (k : Nat) (f : Addr) (fd : FuncData) (ps : List Str) (sp : Sp) : Prop where
  len : ∀ vs H Q E, sp vs H Q E → vs.length = ps.length
  run : ∀ (A : Around) (outer : List Env) (s : Shared) (H : Hp) (args : Args) (us : List Value) (vs : List V) (Q : VK) (E : XK), Room k A → A.guards = some [] → Env0 P w K mg base A outer s H → BindsTo s fd args (ps.zip us) → Vals vs us → sp vs H Q E →
    codeAny (model P w) A (.call (.ref f) args) (CR CX0 outer P w H s Q E) s
section
variable {P : Program} {w : World} {K : PySem.W.Frag} {mg : Str → Option Value} {base : Heap}
theorem FnG.ofOk {k : Nat} {f : Addr} {fd : FuncData} {ps : List Str} {sp : Sp} (F : FnOk P w K mg base CX0 k f fd ps sp) : FnG P w K mg base k f fd ps sp :=
  ⟨F.len, fun A outer s H args us vs Q E hr _ he hb hv hs => F.run A outer s H args us vs Q E hr he hb hv hs⟩
theorem FnG.ofBody {x qual : Str} {st : Stmt} {f : Addr} {fd : FuncData} {N ps : List Str} {k : Nat} {sp : Sp} (F : Fun K x qual st f fd) (S : FnScope N ps (defScope st)) (len : ∀ vs H Q E, sp vs H Q E → vs.length = ps.length)
    (body : ∀ (cdv : Value) (A : Around) (outer : List Env) (s : Shared) (H : Hp) (vs : List V) (Q : VK) (E : XK), Room k (A.deeper (envOfC qual (defScope st) s.heap.objs.size f cdv)) → A.guards = some [] → sp vs H Q E →
      ∃ t, PSs (cxOf CX0 P w K mg base N qual (defScope st) f cdv A outer s H E).nox (defBody st) t ∧ t { nx := fun _ H' => Q .non H', rt := Q } (start N vs) H) : FnG P w K mg base (k + 1) f fd ps sp := by
  obtain ⟨oc, od, kV, doc, pm, an, cdv, ct, osl, rfl, lk, hcd⟩ := F.ex
  constructor
  · exact len
  intro A outer s H args us vs Q E room quiet env bound rel want
  have many := len _ _ _ _ want
  have inK : K.In s.heap := env.mod.kin.keeps (fun b o e => (env.bs b o e).1)
  have unlimited : s.heap.NoLimit := env.mod.nolimit.keeps (fun b o e => (env.bs b o e).1)
  have kinds : ∀ y ∈ ps.zip us, (defScope st).names.lookup y.1 = some .local ∨ ((defScope st).names.lookup y.1 = some .cell ∧ ((cellsFrom (s.heap.objs.size + 1) (defScope st).names []).lookup y.1).isSome = true) := by
    rintro ⟨n, v⟩ hy
    exact (S.par n (List.of_mem_zip hy).1).imp id (fun q => ⟨q, PySem.W.cellsFrom_some _ _ _ (.inl q)⟩)
  refine codeAny_call_function room.depth (inK _ _ lk) rfl S.co S.gen rfl (PySem.W.codeRec_of inK hcd) (bound _ _ _ _ (wpAny_newFunctionEnv_cells S.kind kinds ?_))
  rintro env' rfl s1 x
  obtain ⟨t, ht, hq⟩ := body cdv A outer s H vs Q E (room.deeper _) quiet want
  have I := inv_start (CX := CX0) (E := E) S room.hd env many rel x
  refine ⟨unlimited.keeps x.toInCall.keep, codeAny_func (wpAny_mono (ht.nox.run [] s1 (start N vs) H _ I hq) ?_ (fun _ _ h => h))⟩
  intro fl s' hs
  cases fl with
  | ret u =>
    obtain ⟨v, σ', H', J, rv, q⟩ := hs
    exact ⟨v, H', J.os, J.bare, J.base, J.hok, rv, q⟩
  | next =>
    obtain ⟨σ', H', J, q⟩ := hs
    exact ⟨V.non, H', J.os, J.bare, J.base, J.hok, (rfl : RelV V.non Value.none), q⟩
  | brk => exact hs.elim fun _ h => h.elim fun _ h => h.2.elim
  | cont => exact hs.elim fun _ h => h.elim fun _ h => h.2.elim
end
section
variable {X : Cx} {k : Nat} {f : Addr} {fd : FuncData} {ps ks : List Str} {sp : Sp} {ds : List Value} {x : Str} {p pos : Pos} {e : Expr} {es : List Expr} {kws : List Keyword} {t tk : TA} {g : List Value → List Value → List Value} {gV : List V → List V → List V}
theorem run_fnG {pins : List (Addr × Obj)} {σ : L2.St} {H : Hp} {s : Shared} {Q : VK} {us ws : List Value} {vs zs : List V} (F : FnG X.prog X.w X.K X.mg X.base k f fd ps sp) (hr : Room k X.A) (quiet : X.A.guards = some []) (hb : KBinds X.K fd ps ks g gV)
    (I : Inv X pins σ H s) (r : Vals vs us) (rz : Vals zs ws) (h : sp (gV vs zs) H Q E0) : wpAny (model X.prog X.w) X.A (call (.ref f) us (ks.zip ws)) (EP X pins σ Q) X.xe s := by
  have r2 := hb.rel r rz
  have many : (g us ws).length = ps.length := r2.length.symm.trans (F.len _ _ _ _ h)
  refine wpAny_call (codeAny_mono (F.run X.A X.stack s H _ _ _ Q E0 hr quiet I.env0 (hb.to s us ws I.kIn many) r2 h) ?_)
  rintro (e | fl) s' hq
  · exact False.elim hq
  cases fl with
  | ret u => exact I.after hq
  | next | brk | cont => exact hq.elim
/-- arguments by place alone -/
theorem KBinds.none {K : PySem.W.Frag} {fd : FuncData} {ps : List Str} (b : Binds K fd ps []) : KBinds K fd ps [] (fun us _ => us) (fun vs _ => vs) := by
  refine ⟨fun s us ws X hl => ?_, fun r _ => r⟩
  have := b s us X (by rw [List.append_nil]; exact hl)
  rw [List.append_nil] at this
  exact this
theorem pe_callG (F : FnG X.prog X.w X.K X.mg X.base k f fd ps sp) (hr : Room k X.A) (quiet : X.A.guards = some []) (hg : Gl X x) (hm : X.mg x = some (.ref f)) (hk : PySem.W.keepIn X.K (.ref f) = true) (hb : Binds X.K fd ps [])
    (ha : PA X (e :: es) t) (hdb : (x == ("__debug__" : Str)) = false := by decide) (he : starEach (e :: es) X.env = (false, eval e X.env) :: starEach es X.env := by rfl) (hpl : (backTo pos (starEach es X.env)).any (·.1) = false := by rfl) :
    PE X (.Call (.Name x p) (e :: es) [] pos) (tCall sp [] E0 t) := by
  constructor
  intro pins s σ H Q I h
  refine wpAny_Call_Name_kw (ld_glob I hg hm (PySem.W.callWith_K (h₀ := X.base) I.ok.mod.kin hk (thn (ha.run pos pins s σ H _ I h) ?_) he hpl) hdb)
  rintro us s1 ⟨vs, H1, I1, r, q⟩
  refine ⟨I1.kIn, ?_⟩
  have q' : sp vs H1 Q E0 := by
    have q2 : sp (vs ++ []) H1 Q E0 := q
    rwa [List.append_nil] at q2
  exact run_fnG (ws := []) (zs := []) F hr quiet (KBinds.none hb) I1 r .nil q'
end
/-! ### a law whose promise is kept where nothing is being shown -/
theorem quiet_caller : callerA.guards = some [] := rfl
/-- from an abstract heap in which at most the script is told -/
theorem law_from {P : Program} {w : World} {K : PySem.W.Frag} {mg mb : Str → Option Value} {k : Nat} {fa a : Addr} {fd : FuncData} {x : Str} {sp : Sp} {s₁ : Shared} {vs : List Value} {H : Hp}
    (inK : K.In s₁.heap) (main : s₁.heap.Ns mainGlobals mg) (bui : s₁.heap.Ns builtinsNs mb) (same : ∀ x : Str, x ≠ "__name__" → mb x = bootBuiltins x) (lim : s₁.heap.NoLimit) (gens : s₁.gens = #[])
    (at_a : s₁.heap.get? a = some { cls := .type "list", data := .seq vs.toArray }) (room : Room k callerA)
    (F : ∀ base : Heap, K.In base → base.Ns mainGlobals mg → FnG P w K mg base k fa fd [x] sp) (bound : ∀ (s : Shared) (u : Value), BindsTo s fd ⟨[u], []⟩ [(x, u)])
    (only : Only H) (hok : HOk P w H s₁.heap) (isA : ∀ b, H b ≠ none → b = a) (notK : H a ≠ none → K.lookup a = none) (want : sp [.ref a] H (fun v _ => v = .bl true) fun _ _ _ => False) :
    codeAny (model P w) callerA (.call (.ref fa) ⟨[.ref a], []⟩) (fun r s' => r = .ok (.ret (.bool true)) ∧ OldK s₁.heap s'.heap ∧ s'.os = s₁.os ∧ AllBare s'.gens) s₁ := by
  have free : ∀ b, b ≠ a → H b = none := by
    intro b hb
    cases q : H b with
    | none => rfl
    | some u => exact absurd (isA b (fun z => by rw [z] at q; cases q)) hb
  have shown : ∀ {b : Addr} {o : Obj}, s₁.heap.get? b = some o → H b = none → (hidT s₁.heap H).get? b = some o := fun e n => hidT_get e n
  have names : ∀ {b : Addr} {m : Str → Option Value}, s₁.heap.Ns b m → (hidT s₁.heap H).Ns b m := by
    rintro b m ⟨o, es, ep, e, d, r⟩
    refine ⟨o, es, ep, shown e (free b ?_), d, r⟩
    rintro rfl
    rw [at_a] at e
    cases e
    exact nomatch d
  have inHid : K.In (hidT s₁.heap H) := by
    intro b o e
    refine shown (inK b o e) ?_
    cases q : H b with
    | none => rfl
    | some u =>
      have ne : H b ≠ none := fun z => by rw [z] at q; cases q
      have eb := isA b ne
      subst eb
      rw [notK ne] at e
      cases e
  obtain ⟨mc, l1, l2⟩ := lim
  have env : Env0 P w K mg (hidT s₁.heap H) callerA [] s₁ H := {
    frames := rfl
    mod := ⟨inHid, names main, ⟨mb, names bui, same⟩, ⟨mc, names l1, l2⟩⟩
    bs := fun _ _ e => of_hidT e
    bsz := Nat.le_of_eq (hidT_size _ _)
    funs := trivial
    frf := fun b hb => nomatch (show b ∈ ([] : List Addr) from hb)
    hok := hok
    bare := .of_eq gens }
  refine codeAny_mono ((F _ inHid (names main)).run callerA [] s₁ H ⟨[.ref a], []⟩ [.ref a] [.ref a] _ _ room quiet_caller env (bound s₁ (.ref a)) (.cons rfl .nil) want) ?_
  rintro (e | fl) s' h
  · exact False.elim h
  cases fl with
  | next | brk | cont => exact False.elim h
  | ret u =>
    obtain ⟨v, H', os, bare, un, hok', rel, q⟩ := h
    cases (show v = .bl true from q)
    cases (show u = Value.bool true from rel)
    refine ⟨rfl, .of_keep ?_, os, bare⟩
    intro b o e
    rcases only b with z | ⟨ob, xs, z⟩
    · exact un.keep b o e z (fun m => nomatch (show b ∈ ([] : List Addr) from m)) (fun m => nomatch m)
    · have z2 := un.frzs b ob _ z
      have e1 := (hok b _ z).1
      rw [e] at e1
      cases e1
      exact (hok' b _ z2).1
theorem law_callG {P : Program} {w : World} {K : PySem.W.Frag} {mg mb : Str → Option Value} {k : Nat} {fa a : Addr} {fd : FuncData} {x : Str} {sp : Sp} {s₁ : Shared} {vs : List Value} {ns : List Int}
    (inK : K.In s₁.heap) (main : s₁.heap.Ns mainGlobals mg) (bui : s₁.heap.Ns builtinsNs mb) (same : ∀ x : Str, x ≠ "__name__" → mb x = bootBuiltins x) (lim : s₁.heap.NoLimit) (gens : s₁.gens = #[])
    (at_a : s₁.heap.get? a = some { cls := .type "list", data := .seq vs.toArray }) (hints : IntsAre vs ns) (short : ns.length ≤ sizeLine) (room : Room k callerA)
    (F : ∀ base : Heap, K.In base → base.Ns mainGlobals mg → FnG P w K mg base k fa fd [x] sp) (bound : ∀ (s : Shared) (u : Value), BindsTo s fd ⟨[u], []⟩ [(x, u)])
    (want : ∀ H : Hp, Only H → SqL K H a (ns.map V.int) → sp [.ref a] H (fun v _ => v = .bl true) fun _ _ _ => False) :
    codeAny (model P w) callerA (.call (.ref fa) ⟨[.ref a], []⟩) (fun r s' => r = .ok (.ret (.bool true)) ∧ OldK s₁.heap s'.heap ∧ s'.os = s₁.os ∧ AllBare s'.gens) s₁ := by
  have rel := vals_ints hints
  have many := hints.length
  have go := fun (H : Hp) (o : Only H) hok isA notK w => law_from (mb := mb) inK main bui same lim gens at_a room F bound (H := H) o hok isA notK w
  cases hk : K.lookup a with
  | some o =>
    have e := inK a o hk
    rw [at_a] at e
    cases e
    have nobody : Only (fun _ => none) := fun _ => .inl rfl
    refine go _ nobody (fun b u z => nomatch (show (none : Option HO) = some u from z)) (fun b z => absurd rfl z) (fun z => absurd rfl z) (want _ nobody (.inr ⟨_, vs.toArray, _, hk, rfl, rfl, rfl, ?_, ?_⟩))
    · rw [List.size_toArray, many]
      exact short
    · simpa using rel
  | none =>
    have key : ∃ H : Hp, H = fun b => if b = a then some (.frz { cls := .type "list", data := .seq vs.toArray } (.lst (ns.map V.int))) else none := ⟨_, rfl⟩
    obtain ⟨H, eH⟩ := key
    have there : H a = some (.frz { cls := .type "list", data := .seq vs.toArray } (.lst (ns.map V.int))) := by rw [eH]; exact if_pos rfl
    have else_ : ∀ b, b ≠ a → H b = none := fun b hb => by rw [eH]; exact if_neg hb
    have only : Only H := fun b => by
      by_cases hb : b = a
      · rw [hb]; exact .inr ⟨_, _, there⟩
      · exact .inl (else_ b hb)
    refine go H only (fun b u z => ?_) (fun b z => ?_) (fun _ => hk) (want H only (.inl (.inr ⟨_, there⟩)))
    · by_cases hb : b = a
      · subst hb
        rw [there] at z
        cases z
        exact ⟨at_a, by rw [List.length_map]; exact short, vs, _, rel, at_a⟩
      · rw [else_ b hb] at z
        cases z
    · by_cases hb : b = a
      · exact hb
      · exact absurd (else_ b hb) z
theorem walk_ofG {l : PySem.W.OpenLaw} {n k : Nat} {q : Program} {loose : List Str} {XP : (Str → Option Value) → Heap → Prop} {YP : World → Heap → Prop} {d : DefRec} {K : Params → PySem.W.Frag} {sp : World → Sp} {x : Str}
    (hn : l.most = some n) (hn2 : n ≤ sizeLine) (hdf : d.params.defaults = []) (room : Room k callerA) (hY : ∀ (w : World) (h : Heap), YP w h → (K w.params).In h)
    (F : ∀ (w : World) (mg : Str → Option Value) (fa : Addr) (h : Heap), (K w.params).In h → h.Ns mainGlobals mg → mg d.name = some (.ref fa) →
      ∃ fd : FuncData, (∀ (s : Shared) (u : Value), BindsTo s fd ⟨[u], []⟩ [(x, u)]) ∧ ∀ base : Heap, (K w.params).In base → base.Ns mainGlobals mg → FnG l.prog w (K w.params) mg base k fa fd [x] (sp w))
    (want : ∀ (w : World) (H : Hp) (a : Addr) (ns : List Int), ns.length ≤ n → Only H → SqL (K w.params) H a (ns.map V.int) → sp w [.ref a] H (fun v _ => v = .bl true) fun _ _ _ => False) :
    PySem.W.WalkO q loose XP YP l.row.toRowW d [] (fun f vs => PySem.call f vs) := by
  apply Att.attach_call hn hdf
  intro w s₀ s₁ mg mb fa o pm cd doc a vs ns G Y ho hd hcd hmg hobj hints hlen hg
  have inK := hY w _ Y
  obtain ⟨fd, bound, hF⟩ := F w mg fa _ inK G.T.g hmg
  exact law_callG inK G.T.g G.T.b G.T.builtins G.T.nolimit hg hobj hints (Nat.le_trans hlen hn2) room hF bound (fun H hO hS => want w H a ns hlen hO hS)
/-! ### repr of a list -/
section
variable {X : Cx}
theorem call_repr_data (quiet : X.A.guards = some []) (hu : X.A.units + 70 < cLine) : CallR X (.builtin "repr") (fun xs H Q => ∃ a d, xs = [.ref a] ∧ Dp X.K H (.ref a) d ∧ d.showable = true ∧ d.hasDict = false ∧ d.depth ≤ 60 ∧ d.shown.length ≤ sizeLine ∧ Q (.str d.shown) H) := by
  intro pins s σ H xs us Q I r h
  obtain ⟨a, d, rfl, hd, hs, hnd, hdp, hz, q⟩ := h
  obtain ⟨u, rfl, e⟩ := vals1 r
  cases e
  obtain ⟨as, rd⟩ := Dp.reads I d _ _ hd (rfl : RelV (.ref a) (.ref a))
  exact repr_of_reads' rd hs (PyData.noDict_hsm hnd) quiet (by omega) (fun _ _ e => e) (fun h' u tk hk => ⟨.str _, H, I.kept hk, ⟨_, rfl⟩, q⟩) hz
end
end My
/-! repr of whatever reads as data, and of a dict without items -/
namespace My
open PySem PySem.Spec PyProof.Rows L2
def Shows (K : PySem.W.Frag) (H : Hp) (v : V) (d : PyData) : Prop := Dp K H v d ∨ (d = .dict [] ∧ ∃ a, v = .ref a ∧ H a = some (.dK []))
section
variable {X : Cx}
theorem call_repr_any (quiet : X.A.guards = some []) (hu : X.A.units + 70 < cLine) : CallR X (.builtin "repr") (fun xs H Q => ∃ v d, xs = [v] ∧ Shows X.K H v d ∧ d.showable = true ∧ (d.hasDict = true → d = .dict []) ∧ d.depth ≤ 60 ∧ d.shown.length ≤ sizeLine ∧ Q (.str d.shown) H) := by
  intro pins s σ H xs us Q I r h
  obtain ⟨v, d, rfl, hd, hs, hnd, hdp, hz, q⟩ := h
  obtain ⟨u, rfl, e⟩ := vals1 r
  rcases hd with hd | ⟨rfl, a, rfl, ha⟩
  · have hn : d.hasDict = false := by
      cases c : d.hasDict with
      | false => rfl
      | true =>
        have := hnd c
        subst this
        cases hd
    cases v with
    | ref a =>
      cases e
      obtain ⟨as, rd⟩ := Dp.reads I d _ _ hd (rfl : RelV (.ref a) (.ref a))
      exact repr_of_reads' rd hs (PyData.noDict_hsm hn) quiet (by omega) (fun _ _ e => e) (fun h' u tk hk => ⟨.str _, H, I.kept hk, ⟨_, rfl⟩, q⟩) hz
    | non =>
      cases e
      cases hd
      exact PySem.P.repr_of_none ⟨.str _, H, I.tok _, ⟨_, rfl⟩, q⟩
    | bl b =>
      cases e
      cases hd
      have e2 : PyData.shown (.bool b) = (if b = true then Str.ofString "True" else Str.ofString "False") := by cases b <;> rfl
      rw [e2] at q
      exact PySem.P.repr_of_bool ⟨.str _, H, I.tok _, ⟨_, rfl⟩, q⟩
    | int i =>
      obtain ⟨t, rfl⟩ := e
      cases hd
      exact PySem.P.repr_of_int (by simpa [PyData.showable] using hs) ⟨.str _, H, I.tok _, ⟨_, rfl⟩, q⟩
    | str x =>
      obtain ⟨t, rfl⟩ := e
      cases hd
      exact PySem.P.repr_of_str ⟨.str _, H, I.tok _, ⟨_, rfl⟩, q⟩ (by simpa only [PyData.shown] using hz)
    | _ => cases hd
  · cases e
    obtain ⟨_, lo, vs, kv, o, es, ep, h1, h2, h3, _, h5, _⟩ := dk_of I.hok ha
    cases kv
    have hes : es.toList = [] := by
      cases hh : es.toList with
      | nil => rfl
      | cons a b =>
        rw [hh] at h5
        cases h5
    have rd : Reads s.heap (.ref a) (.dict []) (a :: [] ++ []) := .dict h1 h2.1 h3 (by rw [hes]; exact .nil) (by rw [hes]; exact .nil)
    refine repr_of_reads' rd hs (fun _ hm => ?_) quiet (by omega) (fun _ _ e => e) (fun h' u tk hk => ⟨.str _, H, I.kept hk, ⟨_, rfl⟩, q⟩) hz
    have := List.mem_singleton.mp hm
    rw [← this] at lo
    simp at lo
end
end My
/-! repr of data in which {} stands, however deep -/
namespace My
open PySem PySem.Spec PyProof.Rows L2
mutual
/-- data, {} among it -/
inductive Dq (K : PySem.W.Frag) (H : Hp) : V → PyData → Prop
  | non : Dq K H .non .none
  | bl (b : Bool) : Dq K H (.bl b) (.bool b)
  | int (i : Int) : Dq K H (.int i) (.int i)
  | str (x : Str) : Dq K H (.str x) (.str x)
  | lst {p : Addr} {vs : List V} {es : List PyData} (h : SqL K H p vs) (k : DqAll K H vs es) : Dq K H (.ref p) (.list es)
  | tup {p : Addr} {vs : List V} {es : List PyData} (h : SqT K H p vs) (k : DqAll K H vs es) : Dq K H (.ref p) (.tuple es)
  | emp {p : Addr} (h : H p = some (.dK [])) : Dq K H (.ref p) (.dict [])
inductive DqAll (K : PySem.W.Frag) (H : Hp) : List V → List PyData → Prop
  | nil : DqAll K H [] []
  | cons {v : V} {vs : List V} {e : PyData} {es : List PyData} (h : Dq K H v e) (k : DqAll K H vs es) : DqAll K H (v :: vs) (e :: es)
end
section
variable {X : Cx} {pins : List (Addr × Obj)} {σ : L2.St} {H : Hp} {s : Shared}
theorem emp_at (I : Inv X pins σ H s) {p : Addr} (h : H p = some (.dK [])) : (p == sysModules) = false ∧ ∃ o es n, s.heap.get? p = some o ∧ o.cls = .type "dict" ∧ o.data = .dict es n ∧ es.toList = [] := by
  obtain ⟨_, lo, vs, kv, o, es, ep, h1, h2, h3, _, h5, _⟩ := dk_of I.hok h
  cases kv
  refine ⟨lo, o, es, ep, h1, h2.1, h3, ?_⟩
  cases hh : es.toList with
  | nil => rfl
  | cons a b =>
    rw [hh] at h5
    cases h5
mutual
theorem Dq.rd (I : Inv X pins σ H s) : ∀ {v : V} {d : PyData} {u : Value}, Dq X.K H v d → RelV v u → ∃ as, Reads s.heap u d as
  | _, _, _, .non, r => by
    cases r
    exact ⟨_, .none⟩
  | _, _, _, .bl b, r => by
    cases r
    exact ⟨_, .bool b⟩
  | _, _, _, .int i, r => by
    obtain ⟨t, rfl⟩ := r
    exact ⟨_, .int i t⟩
  | _, _, _, .str x, r => by
    obtain ⟨t, rfl⟩ := r
    exact ⟨_, .str x t⟩
  | _, _, _, .lst h k, r => by
    cases r
    obtain ⟨its, rv, ⟨o, n, ho, hc, _, hd⟩, _⟩ := I.list h
    obtain ⟨as, ha⟩ := DqAll.rd I k rv
    exact ⟨_, .list ho hc hd ha⟩
  | _, _, _, .tup h k, r => by
    cases r
    obtain ⟨its, rv, ⟨o, ho, hc, n, hd⟩, _⟩ := I.tuple h
    obtain ⟨as, ha⟩ := DqAll.rd I k rv
    exact ⟨_, .tuple ho hc hd ha⟩
  | _, _, _, .emp h, r => by
    cases r
    obtain ⟨_, o, es, n, h1, h2, h3, h4⟩ := emp_at I h
    exact ⟨_, .dict (as := []) (bs := []) h1 h2 h3 (by rw [h4]; exact .nil) (by rw [h4]; exact .nil)⟩
theorem DqAll.rd (I : Inv X pins σ H s) : ∀ {vs : List V} {ds : List PyData} {us : List Value}, DqAll X.K H vs ds → Vals vs us → ∃ as, ReadsAll s.heap us ds as
  | _, _, _, .nil, r => by
    cases r
    exact ⟨_, .nil⟩
  | _, _, _, .cons h k, r => by
    cases r with
    | cons r1 r2 =>
      obtain ⟨as, q1⟩ := Dq.rd I h r1
      obtain ⟨bs, q2⟩ := DqAll.rd I k r2
      exact ⟨_, .cons q1 q2⟩
end
theorem shown_emp : PyData.shown (.dict []) = dictText [] := by simp only [PyData.shown, PyData.shownKv]
mutual
/-- how it is shown amid a list or a tuple -/
theorem Dq.in_ (I : Inv X pins σ H s) : ∀ {v : V} {d : PyData} {u : Value}, Dq X.K H v d → RelV v u → d.showable = true → d.shown.length ≤ sizeLine → ∃ bs, ReadAtMost s.heap d.depth bs ∧ ReprK X.prog X.w bs s.heap d.depth u d.shown
  | _, _, _, .non, r, _, _ => by
    cases r
    refine ⟨[], fun _ z => (nomatch z), ?_⟩
    simp only [PyData.shown]
    exact ReprK.of_is ReprIs.none _ _ _
  | _, _, _, .bl b, r, _, _ => by
    cases r
    refine ⟨[], fun _ z => (nomatch z), ?_⟩
    simp only [PyData.shown]
    exact ReprK.of_is (ReprIs.bool b) _ _ _
  | _, _, _, .int i, r, sh, _ => by
    obtain ⟨t, rfl⟩ := r
    refine ⟨[], fun _ z => (nomatch z), ?_⟩
    simp only [PyData.shown]
    exact ReprK.of_is (ReprIs.int t (by simpa [PyData.showable] using sh)) _ _ _
  | _, _, _, .str x, r, _, sz => by
    obtain ⟨t, rfl⟩ := r
    refine ⟨[], fun _ z => (nomatch z), ?_⟩
    simp only [PyData.shown] at sz ⊢
    exact ReprK.of_is (ReprIs.str x t sz) _ _ _
  | _, _, _, .lst (p := p) (vs := vs) (es := ds) h k, r, sh, sz => by
    cases r
    obtain ⟨its, rv, ⟨o, n, ho, hc, _, hd⟩, _⟩ := I.list h
    obtain ⟨as, ra⟩ := DqAll.rd I k rv
    simp only [PyData.shown] at sz
    obtain ⟨bs, hb, hk⟩ := DqAll.in_ I k rv (by simpa [PyData.showable] using sh) fun t ht => Nat.le_trans (listText_mem_le ht) sz
    have rd : Reads s.heap (.ref p) (.list ds) (p :: as) := .list ho hc hd ra
    have dp : PyData.depth (.list ds) = PyData.depthAll ds + 1 := by simp only [PyData.depth]
    have nin := not_mem_of_deeper rd (by rw [dp]; exact Nat.lt_succ_self _) hb
    refine ⟨p :: bs, ReadAtMost.cons rd (by rw [dp]; exact Nat.le_succ _) hb, ?_⟩
    rw [dp]
    simp only [PyData.shown]
    cases its with
    | nil =>
      cases ra
      simp only [PyData.shownAll, listText_nil]
      exact ReprK.listEmpty ho hc hd
    | cons y ys => exact ReprK.list ho hc hd nin (by simpa using hk.length_eq) fun i y e => hk.item i y (by simpa using e)
  | _, _, _, .tup (p := p) (vs := vs) (es := ds) h k, r, sh, sz => by
    cases r
    obtain ⟨its, rv, ⟨o, ho, hc, n, hd⟩, _⟩ := I.tuple h
    obtain ⟨as, ra⟩ := DqAll.rd I k rv
    simp only [PyData.shown] at sz
    obtain ⟨bs, hb, hk⟩ := DqAll.in_ I k rv (by simpa [PyData.showable] using sh) fun t ht => Nat.le_trans (tupleText_mem_le ht) sz
    have rd : Reads s.heap (.ref p) (.tuple ds) _ := .tuple ho hc hd ra
    have dp : PyData.depth (.tuple ds) = PyData.depthAll ds + 1 := by simp only [PyData.depth]
    have nin := not_mem_of_deeper rd (by rw [dp]; exact Nat.lt_succ_self _) hb
    refine ⟨p :: bs, ReadAtMost.cons rd (by rw [dp]; exact Nat.le_succ _) hb, ?_⟩
    rw [dp]
    simp only [PyData.shown]
    exact ReprK.tuple ho hc hd nin (by simpa using hk)
  | _, _, _, .emp (p := p) h, r, _, _ => by
    cases r
    obtain ⟨lo, o, es, n, h1, h2, h3, h4⟩ := emp_at I h
    have rd : Reads s.heap (.ref p) (.dict []) _ := .dict (as := []) (bs := []) h1 h2 h3 (by rw [h4]; exact .nil) (by rw [h4]; exact .nil)
    have dp : PyData.depth (.dict []) = 0 + 1 := by simp only [PyData.depth, PyData.depthKv]
    refine ⟨[p], ReadAtMost.cons rd (n := 0) (Nat.zero_le _) (fun _ z => (nomatch z)), ?_⟩
    rw [dp, shown_emp]
    exact ReprK.dict h1 h2 h3 lo (fun z => (nomatch z)) (by rw [h4]; exact .nil)
theorem DqAll.in_ (I : Inv X pins σ H s) : ∀ {vs : List V} {ds : List PyData} {us : List Value}, DqAll X.K H vs ds → Vals vs us → PyData.showableAll ds = true → (∀ t ∈ PyData.shownAll ds, t.length ≤ sizeLine) →
    ∃ bs, ReadAtMost s.heap (PyData.depthAll ds) bs ∧ ReprAllK X.prog X.w bs s.heap (PyData.depthAll ds) us (PyData.shownAll ds)
  | _, _, _, .nil, r, _, _ => by
    cases r
    refine ⟨[], fun _ z => (nomatch z), ?_⟩
    simp only [PyData.shownAll]
    exact .nil
  | _, _, _, .cons (e := d) (es := ds) h k, r, sh, sz => by
    cases r with
    | cons r1 r2 =>
      simp only [PyData.showableAll, Bool.and_eq_true] at sh
      simp only [PyData.shownAll] at sz
      obtain ⟨b1, m1, k1⟩ := Dq.in_ I h r1 sh.1 (sz _ List.mem_cons_self)
      obtain ⟨b2, m2, k2⟩ := DqAll.in_ I k r2 sh.2 fun t ht => sz t (List.mem_cons_of_mem _ ht)
      have le1 : PyData.depth d ≤ PyData.depthAll (d :: ds) := by simp only [PyData.depthAll]; exact Nat.le_max_left _ _
      have le2 : PyData.depthAll ds ≤ PyData.depthAll (d :: ds) := by simp only [PyData.depthAll]; exact Nat.le_max_right _ _
      refine ⟨b1 ++ b2, (m1.mono le1).append (m2.mono le2), ?_⟩
      simp only [PyData.shownAll]
      exact .cons ((k1.more fun b z => List.mem_append_left _ z).level_le le1) (k2.more_le (fun b z => List.mem_append_right _ z) le2)
end
end
/-- repr of such data -/
theorem call_repr_q {X : Cx} (quiet : X.A.guards = some []) (hu : X.A.units + 70 < cLine) : CallR X (.builtin "repr") (fun xs H Q => ∃ v d, xs = [v] ∧ Dq X.K H v d ∧ d.showable = true ∧ d.depth ≤ 60 ∧ d.shown.length ≤ sizeLine ∧ Q (.str d.shown) H) := by
  intro pins s σ H xs us Q I r h
  obtain ⟨v, d, rfl, hd, sh, hdp, sz, q⟩ := h
  obtain ⟨u, rfl, e⟩ := vals1 r
  have fin : ∀ (h' : Heap) (t : Tok) (tk : Nat), (∀ b o, s.heap.get? b = some o → h'.get? b = some o) → EP X pins σ Q (.str d.shown t) { s with heap := h', toks := tk } := fun h' t tk hk => ⟨.str _, H, I.kept hk, ⟨_, rfl⟩, q⟩
  have u1 : X.A.in1.units = X.A.units + 1 := rfl
  cases hd with
  | non =>
    cases e
    exact PySem.P.repr_of_none (fin _ _ _ fun _ _ z => z)
  | bl b =>
    cases e
    have e2 : PyData.shown (.bool b) = (if b = true then Str.ofString "True" else Str.ofString "False") := by cases b <;> rfl
    rw [e2] at fin
    exact PySem.P.repr_of_bool (fin _ _ _ fun _ _ z => z)
  | int i =>
    obtain ⟨t, rfl⟩ := e
    exact PySem.P.repr_of_int (by simpa [PyData.showable] using sh) (fin _ _ _ fun _ _ z => z)
  | str x =>
    obtain ⟨t, rfl⟩ := e
    exact PySem.P.repr_of_str (fin _ _ _ fun _ _ z => z) (by simpa only [PyData.shown] using sz)
  | @lst p vs ds h k =>
    cases e
    obtain ⟨its, rv, ⟨o, n, ho, hc, _, hdt⟩, _⟩ := I.list h
    obtain ⟨as, ra⟩ := DqAll.rd I k rv
    simp only [PyData.shown] at sz
    simp only [PyData.depth] at hdp
    obtain ⟨bs, hb, hk⟩ := DqAll.in_ I k rv (by simpa [PyData.showable] using sh) fun t ht => Nat.le_trans (listText_mem_le ht) sz
    have nin := not_mem_of_deeper (.list ho hc hdt ra) (by simp only [PyData.depth]; exact Nat.lt_succ_self _) hb
    refine call_repr_slot (by omega) ⟨o, ho, hc⟩ F.slot_list_repr.toG ?_
    simp only [PyData.shown] at fin
    cases its with
    | nil =>
      cases ra
      simp only [PyData.shownAll, listText_nil] at fin
      exact call_list_repr_empty ⟨o, ho, hc⟩ ho hdt ⟨_, _, rfl, fin _ _ _ fun _ _ z => z⟩
    | cons y ys => exact call_list_reprK ho hc hdt nin (by simpa using hk.length_eq) (fun i y z => hk.item i y (by simpa using z)) quiet (fun b _ => Clear.nil b) (by rw [u1]; omega) (fun _ _ z => z) (fun h' u tk hk' => ⟨_, _, rfl, fin h' u tk hk'⟩) sz
  | @tup p vs ds h k =>
    cases e
    obtain ⟨its, rv, ⟨o, ho, hc, n, hdt⟩, _⟩ := I.tuple h
    obtain ⟨as, ra⟩ := DqAll.rd I k rv
    simp only [PyData.shown] at sz
    simp only [PyData.depth] at hdp
    obtain ⟨bs, hb, hk⟩ := DqAll.in_ I k rv (by simpa [PyData.showable] using sh) fun t ht => Nat.le_trans (tupleText_mem_le ht) sz
    have nin := not_mem_of_deeper (.tuple ho hc hdt ra) (by simp only [PyData.depth]; exact Nat.lt_succ_self _) hb
    refine call_repr_slot (by omega) ⟨o, ho, hc⟩ F.slot_tuple_repr ?_
    simp only [PyData.shown] at fin
    exact call_tuple_reprK ho hc hdt nin (by simpa using hk) quiet (fun b _ => Clear.nil b) (by rw [u1]; omega) (fun _ _ z => z) (fun h' u tk hk' => ⟨_, _, rfl, fin h' u tk hk'⟩) sz
  | @emp p h =>
    cases e
    obtain ⟨lo, o, es, n, h1, h2, h3, h4⟩ := emp_at I h
    refine repr_of_reads' (.dict (as := []) (bs := []) h1 h2 h3 (by rw [h4]; exact .nil) (by rw [h4]; exact .nil)) sh (fun _ hm => ?_) quiet (by omega) (fun _ _ z => z) (fun h' u tk hk => fin h' u tk hk) sz
    have := List.mem_singleton.mp hm
    rw [← this] at lo
    simp at lo
end My
/-! C(k = v, l = w), both behind self, in their sequence -/
namespace My
open PySem L2 PyProof.Rows
def gm12 {α : Type} (us ws : List α) : List α := if us.length = 1 ∧ ws.length = 2 then us ++ ws else []
theorem gm12_is {α : Type} (u v z : α) : gm12 [u] [v, z] = [u, v, z] := rfl
theorem relm12 {vs : List V} {us : List Value} {zs : List V} {ws : List Value} (a : Vals vs us) (b : Vals zs ws) : Vals (gm12 vs zs) (gm12 us ws) := by
  unfold gm12
  rw [a.length, b.length]
  split
  · exact Vals.append a b
  · exact .nil
theorem fun_kbn2 {K : PySem.W.Frag} {x qual : Str} {st : Stmt} {f : Addr} {fd : FuncData} {p q r : Str} (F : Fun K x qual st f fd)
    (h : ∀ (kV doc pm : Value) (an : Option Addr) (cdv ct : Value) (u v z : Value), bindArgs (PySem.W.fnOf x qual (defArgs st) (defBody st) (defScope st) .none kV doc pm an cdv ct) ⟨[u], [(q, v), (r, z)]⟩ = pure ([p, q, r].zip [u, v, z])) : KBn K fd [p, q, r] 1 [q, r] gm12 gm12 :=
  fun_kbn F 1 gm12 gm12 relm12 fun kV doc pm an cdv ct us ws l1 l2 => by
    obtain ⟨u, rfl⟩ := List.length_eq_one_iff.mp l1
    match ws, l2 with
    | [v, z], _ => exact h kV doc pm an cdv ct u v z
/-- repr(v) in an except suite -/
theorem call_repr_qS {X : Cx} {a : Addr} {pn : List (Addr × Obj)} (quiet : X.A.guards = some []) (hu : X.A.units + 70 < cLine) : CallR (X.suite a pn) (.builtin "repr") (fun xs H Q => ∃ v d, xs = [v] ∧ Dq X.K H v d ∧ d.showable = true ∧ d.depth ≤ 60 ∧ d.shown.length ≤ sizeLine ∧ Q (.str d.shown) H) :=
  call_repr_q (X := X.suite a pn) quiet hu
end My
namespace My
open PySem L2 PyProof.Rows
/-! ### the rules within a comprehension -/
section
variable {X : Cx} {K : PySem.W.Frag}
theorem ix_listK (h : X.K = K) : IxR X (rIxL K) := h ▸ ix_list
theorem ix_tupK (h : X.K = K) : IxR X (rIxT K) := h ▸ ix_tup
theorem pi_listK {tg l : Expr} {tl : TE} (h : X.K = K) (hl : PE X l tl) : PI X tg l (iList K tl) := h ▸ pi_list hl
theorem call_len_seqK (h : X.K = K) : CallR X (.builtin "len") (fun xs H Q => ∃ p ys, xs = [V.ref p] ∧ (SqL K H p ys ∨ SqT K H p ys) ∧ Q (.int (ys.length : Int)) H) := h ▸ call_len_seq
theorem op_in_seqK (h : X.K = K) : OpR X (compareOp .In) (rIn K false) := h ▸ op_in_seq
theorem op_notIn_seqK (h : X.K = K) : OpR X (compareOp .NotIn) (rIn K true) := h ▸ op_notIn_seq
end
theorem mt_indexK {X : Cx} {K : PySem.W.Frag} (h : X.K = K) : MtR X "list.index" (rIndex K) := h ▸ mt_index
theorem pe_bmK {X : Cx} {K : PySem.W.Frag} {o e : Expr} {es : List Expr} {to : TE} {t : TA} {name : Str} {apos cpos : Pos} {T id : String} {r : V → List V → Hp → VK → Prop} (h : X.K = K) (pa : PlainAttrs T) (slot : Slot T name id) (hty : typeOf (.builtin id) = pure (.type "method_descriptor")) (hm : MtR X id r) (ho : PE X o to) (ha : PA X (e :: es) t)
    (hbase : attributeBase o name X.env (eval o X.env) = eval o X.env := by rfl)
    (hfew : ((backTo cpos (starEach (e :: es) X.env)).all (fun x => !x.1) && (backToKw cpos (keywordEach [] X.env)).all (fun x => x.1.isSome)
      && decide ((e :: es).length + ([] : List Keyword).length + (if ([] : List Keyword).isEmpty then 0 else 1) < 30)) = true := by rfl)
    (hline : (apos.endLine == cpos.line) = true := by rfl) (hs : starEach (e :: es) X.env = (false, eval e X.env) :: starEach es X.env := by rfl) (hplain : (backTo cpos (starEach es X.env)).any (·.1) = false := by rfl) :
    PE X (.Call (.Attribute o name apos) (e :: es) [] cpos) (tBM K T r to t) := h ▸ pe_bm pa slot hty hm ho ha hbase hfew hline hs hplain
/-- a field, read within a comprehension -/
theorem pe_fldK {X : Cx} {K : PySem.W.Frag} {e : Expr} {ta : TE} {f : Str} {pos : Pos} (h : X.K = K) (he : PE X e ta) (hb : attributeBase e f X.env (eval e X.env) = eval e X.env := by rfl) : PE X (.Attribute e f pos) (tFld K ta f) := h ▸ pe_fld he hb
theorem pe_fldA {X : Cx} {e : Expr} {ta : TE} {f : Str} {pos : Pos} (he : PE X e ta) (hb : attributeBase e f X.env (eval e X.env) = eval e X.env := by rfl) : PE X (.Attribute e f pos) (tFld X.K ta f) := pe_fld he hb
/-! ### defs that may show a value (repr) -/
theorem hu70 {k : Nat} {A : Around} (h : Room k A) : A.units + 70 < cLine := by
  have := h.un
  omega
theorem u65 {k : Nat} {A : Around} (h : Room k A) : A.units + 65 < cLine := by
  have := h.un
  omega
section
variable {P : Program} {w : World} {K : PySem.W.Frag} {mg : Str → Option Value} {base : Heap}
def GoodG (P : Program) (w : World) (K : PySem.W.Frag) (mg : Str → Option Value) (base : Heap) (x : Str) (st : Stmt) (ps : List Str) (k : Nat) (sp : Sp) : Prop := ∃ (f : Addr) (fd : FuncData), FnG P w K mg base k f fd ps sp ∧ mg x = some (.ref f) ∧ PySem.W.keepIn K (.ref f) = true ∧ Binds K fd ps [] ∧ Fun K x x st f fd
theorem Def.goodG {x : Str} {st : Stmt} {ps : List Str} {k : Nat} {sp : Sp} (D : Def K mg x st ps) (h : ∀ f fd, Fun K x x st f fd → FnG P w K mg base k f fd ps sp) : GoodG P w K mg base x st ps k sp := by
  obtain ⟨f, fd, F, m, b⟩ := D
  exact ⟨f, fd, h f fd F, m, F.kp, b, F⟩
end
end My
namespace My
open PySem L2 PyProof.Rows
def topS (i : Nat) : Stmt := PySem.Challenge.pw_suretexts_k17_any_value_as_readings.main.body.getD i (.Pass ⟨0, 0, 0, 0⟩)
abbrev s_wall : Stmt := topS 0
theorem sc_wall : FnScope ["k"] ["k"] (defScope s_wall) := ⟨rfl, rfl, rfl, by decide +kernel, rfl, by decide +kernel, by decide +kernel⟩
abbrev sis_integer : Stmt := topS 6
theorem scis_integer : FnScope ["value"] ["value"] (defScope sis_integer) := ⟨rfl, rfl, rfl, by decide +kernel, rfl, by decide +kernel, by decide +kernel⟩
abbrev sis_between : Stmt := topS 7
theorem scis_between : FnScope ["value", "least", "most"] ["value", "least", "most"] (defScope sis_between) := ⟨rfl, rfl, rfl, by decide +kernel, rfl, by decide +kernel, by decide +kernel⟩
abbrev sis_size : Stmt := topS 8
theorem scis_size : FnScope ["value"] ["value"] (defScope sis_size) := ⟨rfl, rfl, rfl, by decide +kernel, rfl, by decide +kernel, by decide +kernel⟩
abbrev sis_listed : Stmt := topS 9
theorem scis_listed : FnScope ["value"] ["value"] (defScope sis_listed) := ⟨rfl, rfl, rfl, by decide +kernel, rfl, by decide +kernel, by decide +kernel⟩
abbrev sis_letter : Stmt := topS 10
theorem scis_letter : FnScope ["sign"] ["sign"] (defScope sis_letter) := ⟨rfl, rfl, rfl, by decide +kernel, rfl, by decide +kernel, by decide +kernel⟩
abbrev sneed_size : Stmt := topS 11
theorem scneed_size : FnScope ["size"] ["size"] (defScope sneed_size) := ⟨rfl, rfl, rfl, by decide +kernel, rfl, by decide +kernel, by decide +kernel⟩
abbrev sis_text : Stmt := topS 14
theorem scis_text : FnScope ["value", "sign"] ["value"] (defScope sis_text) := ⟨rfl, rfl, rfl, by decide +kernel, rfl, by decide +kernel, by decide +kernel⟩
abbrev spieces_along : Stmt := topS 16
theorem scpieces_along : FnScope ["text", "size", "place"] ["text", "size"] (defScope spieces_along) := ⟨rfl, rfl, rfl, by decide +kernel, rfl, by decide +kernel, by decide +kernel⟩
abbrev spieces_often : Stmt := topS 17
theorem scpieces_often : FnScope ["readings", "size", "often", "text", "times", "piece"] ["readings", "size"] (defScope spieces_often) := ⟨rfl, rfl, rfl, by decide +kernel, rfl, by decide +kernel, by decide +kernel⟩
abbrev sis_times : Stmt := topS 20
theorem scis_times : FnScope ["value"] ["value"] (defScope sis_times) := ⟨rfl, rfl, rfl, by decide +kernel, rfl, by decide +kernel, by decide +kernel⟩
abbrev sare_readings : Stmt := topS 21
theorem scare_readings : FnScope ["value", "reading"] ["value"] (defScope sare_readings) := ⟨rfl, rfl, rfl, by decide +kernel, rfl, by decide +kernel, by decide +kernel⟩
abbrev s_times_together : Stmt := topS 23
theorem sc_times_together : FnScope ["readings", "together", "text", "times"] ["readings"] (defScope s_times_together) := ⟨rfl, rfl, rfl, by decide +kernel, rfl, by decide +kernel, by decide +kernel⟩
abbrev s_law_pot : Stmt := topS 25
theorem sc_law_pot : FnScope ["_law_script", "_law_k", "_law_cell"] ["_law_script", "_law_k"] (defScope s_law_pot) := ⟨rfl, rfl, rfl, by decide +kernel, rfl, by decide +kernel, by decide +kernel⟩
abbrev s_law_draw : Stmt := topS 26
theorem sc_law_draw : FnScope ["_law_pot_here", "_law_size", "_law_digit"] ["_law_pot_here", "_law_size"] (defScope s_law_draw) := ⟨rfl, rfl, rfl, by decide +kernel, rfl, by decide +kernel, by decide +kernel⟩
abbrev s_law_pick : Stmt := topS 27
theorem sc_law_pick : FnScope ["_law_pot_here", "_law_some"] ["_law_pot_here", "_law_some"] (defScope s_law_pick) := ⟨rfl, rfl, rfl, by decide +kernel, rfl, by decide +kernel, by decide +kernel⟩
abbrev s_law_text : Stmt := topS 28
theorem sc_law_text : FnScope ["_law_pot_here", "_law_most", "_law_found", "_law_turn"] ["_law_pot_here", "_law_most"] (defScope s_law_text) := ⟨rfl, rfl, rfl, by decide +kernel, rfl, by decide +kernel, by decide +kernel⟩
abbrev s_law_readings : Stmt := topS 29
theorem sc_law_readings : FnScope ["_law_pot_here", "_law_many", "_law_found", "_law_turn"] ["_law_pot_here", "_law_many"] (defScope s_law_readings) := ⟨rfl, rfl, rfl, by decide +kernel, rfl, by decide +kernel, by decide +kernel⟩
abbrev s_law_times : Stmt := topS 30
theorem sc_law_times : FnScope ["_law_readings_here", "_law_found", "_law_text_here", "_law_times_here"] ["_law_readings_here"] (defScope s_law_times) := ⟨rfl, rfl, rfl, by decide +kernel, rfl, by decide +kernel, by decide +kernel⟩
abbrev s_law_sorted : Stmt := topS 31
theorem sc_law_sorted : FnScope ["_law_told", "_law_one"] ["_law_told"] (defScope s_law_sorted) := ⟨rfl, rfl, rfl, by decide +kernel, rfl, by decide +kernel, by decide +kernel⟩
abbrev s_law_letters : Stmt := topS 32
theorem sc_law_letters : FnScope ["_law_word", "_law_sign"] ["_law_word"] (defScope s_law_letters) := ⟨rfl, rfl, rfl, by decide +kernel, rfl, by decide +kernel, by decide +kernel⟩
abbrev s_law_is_one : Stmt := topS 33
theorem sc_law_is_one : FnScope ["_law_value"] ["_law_value"] (defScope s_law_is_one) := ⟨rfl, rfl, rfl, by decide +kernel, rfl, by decide +kernel, by decide +kernel⟩
abbrev s_law_are_ones : Stmt := topS 34
theorem sc_law_are_ones : FnScope ["_law_value", "_law_one"] ["_law_value"] (defScope s_law_are_ones) := ⟨rfl, rfl, rfl, by decide +kernel, rfl, by decide +kernel, by decide +kernel⟩
abbrev s_law_bent : Stmt := topS 35
theorem sc_law_bent : FnScope ["_law_pot_here", "_law_value", "_law_is_one_here", "_law_way", "_law_at", "_law_some", "_law_text_here", "_law_times_here"] ["_law_pot_here", "_law_value"] (defScope s_law_bent) := ⟨rfl, rfl, rfl, by decide +kernel, rfl, by decide +kernel, by decide +kernel⟩
abbrev s_law_heard : Stmt := topS 36
theorem sc_law_heard : FnScope ["_law_value", "_law_told", "e"] ["_law_value"] (defScope s_law_heard) := ⟨rfl, rfl, rfl, by decide +kernel, rfl, by decide +kernel, by decide +kernel⟩
abbrev s_law_right : Stmt := topS 37
theorem sc_law_right : FnScope ["_law_value", "_law_shown", "_law_told", "_law_due"] ["_law_value"] (defScope s_law_right) := ⟨rfl, rfl, rfl, by decide +kernel, rfl, by decide +kernel, by decide +kernel⟩
abbrev slaw : Stmt := topS 38
theorem sclaw : FnScope ["_law_script", "_law_pot_here", "_law_readings_here", "_law_values", "_law_turn", "_law_value"] ["_law_script"] (defScope slaw) := ⟨rfl, rfl, rfl, by decide +kernel, rfl, by decide +kernel, by decide +kernel⟩
abbrev sLot___init__ : Stmt := inClass (topS 22) 0
theorem scLot___init__ : FnScope ["self", "size", "readings"] ["self", "size", "readings"] (defScope sLot___init__) := ⟨rfl, rfl, rfl, by decide +kernel, rfl, by decide +kernel, by decide +kernel⟩
abbrev sLot___eq__ : Stmt := inClass (topS 22) 1
theorem scLot___eq__ : FnScope ["self", "other"] ["self", "other"] (defScope sLot___eq__) := ⟨rfl, rfl, rfl, by decide +kernel, rfl, by decide +kernel, by decide +kernel⟩
abbrev sLot_size : Stmt := inClass (topS 22) 2
theorem scLot_size : FnScope ["self"] ["self"] (defScope sLot_size) := ⟨rfl, rfl, rfl, by decide +kernel, rfl, by decide +kernel, by decide +kernel⟩
abbrev sLot_readings : Stmt := inClass (topS 22) 3
theorem scLot_readings : FnScope ["self"] ["self"] (defScope sLot_readings) := ⟨rfl, rfl, rfl, by decide +kernel, rfl, by decide +kernel, by decide +kernel⟩
abbrev sLot_times_of : Stmt := inClass (topS 22) 4
theorem scLot_times_of : FnScope ["self", "text"] ["self", "text"] (defScope sLot_times_of) := ⟨rfl, rfl, rfl, by decide +kernel, rfl, by decide +kernel, by decide +kernel⟩
abbrev sLot_pieces : Stmt := inClass (topS 22) 5
theorem scLot_pieces : FnScope ["self"] ["self"] (defScope sLot_pieces) := ⟨rfl, rfl, rfl, by decide +kernel, rfl, by decide +kernel, by decide +kernel⟩
abbrev sLot_solid : Stmt := inClass (topS 22) 6
theorem scLot_solid : FnScope ["self", "least"] ["self", "least"] (defScope sLot_solid) := ⟨rfl, rfl, rfl, by decide +kernel, rfl, by decide +kernel, by decide +kernel⟩
structure Bs (mg : Str → Option Value) : Prop where
  isinstance : mg "isinstance" = none
  int : mg "int" = none
  bool : mg "bool" = none
  str : mg "str" = none
  list : mg "list" = none
  tuple : mg "tuple" = none
  len : mg "len" = none
  range : mg "range" = none
  abs : mg "abs" = none
  max : mg "max" = none
  divmod : mg "divmod" = none
  sorted : mg "sorted" = none
  dict : mg "dict" = none
  all : mg "all" = none
  repr : mg "repr" = none
structure Glo (mg : Str → Option Value) : Prop where
  MOST_READINGS : ∃ t, mg "MOST_READINGS" = some (.int 60 t)
  MOST_LETTERS : ∃ t, mg "MOST_LETTERS" = some (.int 400 t)
structure WebK (K : PySem.W.Frag) (mg : Str → Option Value) (C : Addr) : Prop where
  cl : Cls K C
  nS : NoAttr K C "_size"
  nT : NoAttr K C "_told"
  mgC : mg "Lot" = some (.ref C)
  i1 : PySem.W.findIn K (.ref C) "__class__" = some (some (.builtin "object.__class__"))
  i2 : PySem.W.specialIn K (.builtin "object.__class__") "__get__" = some (some (.builtin "getset_descriptor.__get__"))
  i3 : PySem.W.takesIn K (.builtin "object.__class__") = some true
  i4 : PySem.W.mroIn K C (.type "object") = some true
abbrev iv (L : List Nat) : List V := L.map fun n : Nat => V.int (n : Int)
theorem same_new {H : Hp} {p : Addr} (h : H p = none) (o : HO) : Same H (upd H p o) := fun b u q => by rw [upd_ne (ne_of_none q h)]; exact q
theorem iteNo {c A B : Prop} [Decidable c] (h : ¬ c) (b : B) : if decide c = true then A else B := by
  rw [decide_eq_false h]
  exact iteF b
theorem iteNot {c A B : Prop} [Decidable c] (h : ¬ c) (a : A) : if (!decide c) = true then A else B := by
  rw [decide_eq_false h]
  exact iteT a
theorem iteNot' {c A B : Prop} [Decidable c] (h : c) (b : B) : if (!decide c) = true then A else B := by
  rw [decide_eq_true h]
  exact iteF b
theorem iteNN {c A B : Prop} [Decidable c] (h : ¬ c) (b : B) : if (!!decide c) = true then A else B := by
  rw [decide_eq_false h]
  exact iteF b
theorem iv_at {L : List Nat} {j b : Nat} (h : L[j]? = some b) : atI (iv L) (j : Int) = some (.int (b : Int)) := by
  refine atI_nat ?_
  rw [iv, List.getElem?_map, h]
  rfl
theorem iv_app (L : List Nat) (n : Nat) : iv (L ++ [n]) = iv L ++ [V.int (n : Int)] := by
  unfold iv
  rw [List.map_append]
  rfl
theorem same_upd {H H' : Hp} {p : Addr} {o : HO} (h : Same H H') (np : H p = none) : Same H (upd H' p o) := fun b u q => by
  rw [upd_ne (ne_of_none q np)]
  exact h b u q
theorem iteYes {c A B : Prop} [Decidable c] (h : c) (a : A) : if decide c = true then A else B := by
  rw [decide_eq_true h]
  exact iteT a
theorem bl_true {c : Prop} [Decidable c] {Q : VK} {H : Hp} (h : c) (q : Q (.bl true) H) : Q (.bl (decide c)) H := by
  rw [decide_eq_true h]
  exact q
theorem int_eq {a b : Int} : V.int a = V.int b ↔ a = b := ⟨fun h => V.int.inj h, fun h => by rw [h]⟩
/-! ### lists of ints compared -/
abbrev iz (L : List Int) : List V := L.map V.int
theorem iv_iz (L : List Nat) : iv L = iz (L.map fun n : Nat => (n : Int)) := by
  unfold iv iz
  rw [List.map_map]
  rfl
abbrev dz (L : List Int) : PyData := .list (L.map PyData.int)
theorem dpAll_iz {K : PySem.W.Frag} {H : Hp} : ∀ L : List Int, DpAll K H (iz L) (L.map PyData.int)
  | [] => .nil
  | n :: r => .cons (.int n) (dpAll_iz r)
theorem dp_iz {K : PySem.W.Frag} {H : Hp} {p : Addr} {L : List Int} (h : H p = some (.lst (iz L))) : Dp K H (.ref p) (dz L) := .lst (SqL.of h) (dpAll_iz L)
theorem layAll_iz : ∀ L : List Int, PyData.canLayAll0 (L.map PyData.int) = true
  | [] => rfl
  | n :: r => by
    show (PyData.canLay0 (.int n) && PyData.canLayAll0 (r.map PyData.int)) = true
    rw [layAll_iz r]
    rfl
theorem depthAll_iz : ∀ L : List Int, PyData.depthAll (L.map PyData.int) = 0
  | [] => rfl
  | n :: r => by
    show max (PyData.depth (.int n)) (PyData.depthAll (r.map PyData.int)) = 0
    rw [depthAll_iz r]
    rfl
theorem shaped_iz (L : List Int) : SeqAt.shaped (dz L) = true := by
  unfold SeqAt.shaped
  have h1 : PyData.canLay0 (dz L) = true := by
    show PyData.canLay0 (.list (L.map PyData.int)) = true
    unfold PyData.canLay0
    exact layAll_iz L
  have h2 : PyData.depth (dz L) = 1 := by
    show PyData.depth (.list (L.map PyData.int)) = 1
    unfold PyData.depth
    rw [depthAll_iz]
  rw [h1, h2]
  rfl
theorem eqv_same (L : List Int) : PyData.eqv (dz L) (dz L) = true := by
  have h1 : PyData.canLay0 (dz L) = true := by
    show PyData.canLay0 (.list (L.map PyData.int)) = true
    unfold PyData.canLay0
    exact layAll_iz L
  exact SeqAt.eqv_refl _ h1
theorem eqv_empty (L : List Int) : PyData.eqv (dz L) (dz []) = decide (L = []) := by
  cases L with
  | nil => rfl
  | cons n r => rfl
theorem iteNb {x : Bool} {A B : Prop} (h : x = true) (b : B) : if (!x) = true then A else B := by
  rw [h]
  exact iteF b
theorem bl_is {x : Bool} {Q : VK} {H : Hp} (h : x = true) (q : Q (.bl true) H) : Q (.bl x) H := by
  rw [h]
  exact q
def Kept (a : Addr) (H H' : Hp) : Prop := ∀ b o, H b = some o → b ≠ a → H' b = some o
theorem Kept.trans {a : Addr} {H H1 H2 : Hp} (h : Kept a H H1) (h2 : Kept a H1 H2) : Kept a H H2 := fun b o e n => h2 b o (h b o e n) n
theorem Same.kept {a : Addr} {H H' : Hp} (h : Same H H') : Kept a H H' := fun b o e _ => h b o e
theorem paired_get {α β : Type} {F : α → β → Prop} : ∀ {l1 : List α} {l2 : List β} {i : Nat} {a : α}, Paired F l1 l2 → l1[i]? = some a → ∃ b, l2[i]? = some b ∧ F a b
  | _, _, _, _, .nil, h => by simp at h
  | _, _, 0, _, .cons r _, h => ⟨_, rfl, by cases h; exact r⟩
  | _, _, i + 1, _, .cons _ t, h => by
    obtain ⟨b, h1, h2⟩ := paired_get (i := i) t (by simpa using h)
    exact ⟨b, by simpa using h1, h2⟩
theorem paired_mono {α β : Type} {F G : α → β → Prop} (h : ∀ a b, F a b → G a b) : ∀ {l1 : List α} {l2 : List β}, Paired F l1 l2 → Paired G l1 l2
  | _, _, .nil => .nil
  | _, _, .cons a r => .cons (h _ _ a) (paired_mono h r)
theorem paired_len {α β : Type} {F : α → β → Prop} : ∀ {l1 : List α} {l2 : List β}, Paired F l1 l2 → l1.length = l2.length
  | _, _, .nil => rfl
  | _, _, .cons _ r => congrArg Nat.succ (paired_len r)
/-! ### lots as lists of texts with numbers -/
def getT (D : List (Str × Int)) (x : Str) : Int := ((D.find? fun e => decide (e.1 = x)).map (·.2)).getD 0
def addT : List (Str × Int) → Str → Int → List (Str × Int)
  | [], x, n => [(x, n)]
  | e :: r, x, n => if e.1 = x then (e.1, e.2 + n) :: r else e :: addT r x n
theorem addT_keys (x : Str) (n : Int) : ∀ D : List (Str × Int), (addT D x n).map Prod.fst = if x ∈ D.map Prod.fst then D.map Prod.fst else D.map Prod.fst ++ [x]
  | [] => rfl
  | e :: r => by
    have ih := addT_keys x n r
    unfold addT
    by_cases h : e.1 = x
    · rw [if_pos h, List.map_cons, List.map_cons, if_pos (by rw [h]; exact List.mem_cons_self)]
    · have hx : ¬ x = e.1 := fun z => h z.symm
      rw [if_neg h, List.map_cons, List.map_cons, ih]
      by_cases k : x ∈ r.map Prod.fst
      · rw [if_pos k, if_pos (List.mem_cons_of_mem _ k)]
      · rw [if_neg k, if_neg (by simp only [List.mem_cons]; rintro (z | z); exact hx z; exact k z)]
        rfl
theorem addT_nodup {x : Str} {n : Int} {D : List (Str × Int)} (h : (D.map Prod.fst).Nodup) : ((addT D x n).map Prod.fst).Nodup := by
  rw [addT_keys]
  split
  · exact h
  · rename_i c
    rw [List.nodup_append]
    exact ⟨h, by simp, fun a ha b hb => by rw [List.mem_singleton.mp hb]; rintro rfl; exact c ha⟩
theorem addT_mem {x y : Str} {n : Int} {D : List (Str × Int)} : y ∈ (addT D x n).map Prod.fst ↔ y ∈ D.map Prod.fst ∨ y = x := by
  rw [addT_keys]
  split
  · rename_i c
    exact ⟨.inl, fun h => h.elim id fun z => by rw [z]; exact c⟩
  · rw [List.mem_append, List.mem_singleton]
theorem addT_get (x y : Str) (n : Int) : ∀ D : List (Str × Int), getT (addT D x n) y = if y = x then getT D x + n else getT D y
  | [] => by
    unfold addT getT
    by_cases h : x = y
    · simp [h]
    · have h2 : ¬ y = x := fun z => h z.symm
      simp [h, h2]
  | e :: r => by
    have ih := addT_get x y n r
    unfold addT
    by_cases h : e.1 = x
    · rw [if_pos h]
      by_cases k : y = x
      · subst k
        simp [getT, h]
      · have k2 : ¬ e.1 = y := fun z => k (by rw [← z, h])
        rw [if_neg k]
        simp [getT, List.find?_cons, k2]
    · rw [if_neg h]
      by_cases k : e.1 = y
      · have k2 : ¬ y = x := fun z => h (by rw [k, z])
        rw [if_neg k2]
        simp [getT, List.find?_cons, k]
      · have s1 : getT (e :: addT r x n) y = getT (addT r x n) y := by simp [getT, List.find?_cons, k]
        have s2 : getT (e :: r) y = getT r y := by simp [getT, List.find?_cons, k]
        have s3 : getT (e :: r) x = getT r x := by simp [getT, List.find?_cons, h]
        rw [s1, s2, s3]
        exact ih
theorem addT_len (x : Str) (n : Int) (D : List (Str × Int)) : (addT D x n).length ≤ D.length + 1 := by
  have := congrArg List.length (addT_keys x n D)
  rw [List.length_map] at this
  rw [this]
  split
  · rw [List.length_map]; omega
  · rw [List.length_append, List.length_map]; simp
/-- the dict by texts -/
abbrev dT (D : List (Str × Int)) : List (Key × V) := D.map entSI
theorem dT_val (x : Str) : ∀ D : List (Str × Int), valV (dT D) (Sum.inr x : Key) = (D.find? fun e => decide (e.1 = x)).map fun e => V.int e.2
  | [] => rfl
  | e :: r => by
    have ih := dT_val x r
    by_cases h : e.1 = x
    · rw [show dT (e :: r) = entSI e :: dT r from rfl, valV_pos (by show (Sum.inr e.1 : Key) = _; rw [h]), List.find?_cons_of_pos (by simpa using h)]
      rfl
    · rw [show dT (e :: r) = entSI e :: dT r from rfl, valV_neg (fun z => h (Sum.inr.inj z)), List.find?_cons_of_neg (by simpa using h)]
      exact ih
theorem dT_getD (x : Str) (D : List (Str × Int)) : (valV (dT D) (Sum.inr x : Key)).getD (.int 0) = .int (getT D x) := by
  rw [dT_val]
  unfold getT
  cases D.find? fun e => decide (e.1 = x) with
  | none => rfl
  | some e => rfl
theorem dT_put {x : Str} {n : Int} : ∀ {D : List (Str × Int)}, (D.map Prod.fst).Nodup → putK (dT D) (Sum.inr x : Key) (.int (getT D x + n)) = dT (addT D x n)
  | [], _ => by
    show putK [] _ _ = _
    rw [putK_new _ rfl]
    simp [getT, addT]
  | e :: r, hn => by
    have hn' := List.nodup_cons.mp (by simpa using hn : (e.1 :: r.map Prod.fst).Nodup)
    by_cases h : e.1 = x
    · subst h
      have hg : getT (e :: r) e.1 = e.2 := by simp [getT]
      have hz : valV (dT (e :: r)) (Sum.inr e.1 : Key) = some (.int e.2) := by rw [dT_val]; simp
      unfold putK
      rw [valV_any, hz, Option.isSome_some, if_pos rfl, hg]
      show (_ :: _) = _
      unfold addT
      rw [if_pos rfl]
      show _ = entSI (e.1, e.2 + n) :: dT r
      refine congr (congrArg List.cons (by simp [entSI])) ?_
      rw [dT, List.map_map]
      refine List.map_congr_left fun f hf => ?_
      have : ¬ (Sum.inr f.1 : Key) = Sum.inr e.1 := fun z => hn'.1 (by rw [← Sum.inr.inj z]; exact List.mem_map.mpr ⟨f, hf, rfl⟩)
      show (if (Sum.inr f.1 : Key) = Sum.inr e.1 then _ else _) = _
      rw [if_neg this]
    · have ih := dT_put (x := x) (n := n) (D := r) hn'.2
      have hg : getT (e :: r) x = getT r x := by simp [getT, List.find?_cons, h]
      have hk : ¬ (entSI e).1 = (Sum.inr x : Key) := fun z => h (Sum.inr.inj z)
      have hv : valV (dT (e :: r)) (Sum.inr x : Key) = valV (dT r) (Sum.inr x : Key) := valV_neg hk
      have ha : addT (e :: r) x n = e :: addT r x n := by
        show (if e.1 = x then _ else _) = _
        rw [if_neg h]
      rw [hg, ha]
      show putK (dT (e :: r)) _ _ = entSI e :: dT (addT r x n)
      rw [← ih]
      unfold putK
      rw [valV_any, valV_any, hv]
      split
      · show ((if (entSI e).1 = Sum.inr x then _ else _) :: _) = _
        rw [if_neg hk]
      · rfl
/-! ### values of every kind -/
mutual
inductive Vd (H : Hp) : V → PyData → Prop
  | non : Vd H .non .none
  | bl (b : Bool) : Vd H (.bl b) (.bool b)
  | int (i : Int) : Vd H (.int i) (.int i)
  | str (x : Str) (h : x.length ≤ 1000) : Vd H (.str x) (.str x)
  | lst {p : Addr} {vs : List V} {es : List PyData} (h : H p = some (.lst vs)) (k : VdAll H vs es) : Vd H (.ref p) (.list es)
  | tup {p : Addr} {vs : List V} {es : List PyData} (h : H p = some (.tup vs)) (k : VdAll H vs es) : Vd H (.ref p) (.tuple es)
  | emp {p : Addr} (h : H p = some (.dK [])) : Vd H (.ref p) (.dict [])
inductive VdAll (H : Hp) : List V → List PyData → Prop
  | nil : VdAll H [] []
  | cons {v : V} {vs : List V} {e : PyData} {es : List PyData} (h : Vd H v e) (k : VdAll H vs es) : VdAll H (v :: vs) (e :: es)
end
mutual
theorem Vd.same {H H' : Hp} (s : Same H H') : ∀ {v : V} {d : PyData}, Vd H v d → Vd H' v d
  | _, _, .non => .non
  | _, _, .bl b => .bl b
  | _, _, .int i => .int i
  | _, _, .str x h => .str x h
  | _, _, .lst h k => .lst (s _ _ h) (VdAll.same s k)
  | _, _, .tup h k => .tup (s _ _ h) (VdAll.same s k)
  | _, _, .emp h => .emp (s _ _ h)
theorem VdAll.same {H H' : Hp} (s : Same H H') : ∀ {vs : List V} {ds : List PyData}, VdAll H vs ds → VdAll H' vs ds
  | _, _, .nil => .nil
  | _, _, .cons h k => .cons (Vd.same s h) (VdAll.same s k)
end
mutual
theorem Vd.dq {K : PySem.W.Frag} {H : Hp} : ∀ {v : V} {d : PyData}, Vd H v d → Dq K H v d
  | _, _, .non => .non
  | _, _, .bl b => .bl b
  | _, _, .int i => .int i
  | _, _, .str x _ => .str x
  | _, _, .lst h k => .lst (SqL.of h) (VdAll.dq k)
  | _, _, .tup h k => .tup (SqT.of h) (VdAll.dq k)
  | _, _, .emp h => .emp h
theorem VdAll.dq {K : PySem.W.Frag} {H : Hp} : ∀ {vs : List V} {ds : List PyData}, VdAll H vs ds → DqAll K H vs ds
  | _, _, .nil => .nil
  | _, _, .cons h k => .cons (Vd.dq h) (VdAll.dq k)
end
theorem VdAll.len {H : Hp} : ∀ {vs : List V} {ds : List PyData}, VdAll H vs ds → vs.length = ds.length
  | _, _, .nil => rfl
  | _, _, .cons _ k => congrArg (· + 1) (VdAll.len k)
theorem VdAll.at {H : Hp} : ∀ {vs : List V} {ds : List PyData} {i : Nat} {v : V}, VdAll H vs ds → vs[i]? = some v → ∃ d, ds[i]? = some d ∧ Vd H v d
  | _, _, _, _, .nil, e => by cases e
  | _, _, 0, _, .cons h _, e => by cases e; exact ⟨_, rfl, h⟩
  | _, _, i + 1, _, .cons _ k, e => VdAll.at (i := i) k e
def tyD : PyData → String
  | .none => "NoneType"
  | .bool _ => "bool"
  | .int _ => "int"
  | .str _ => "str"
  | .list _ => "list"
  | .tuple _ => "tuple"
  | .dict _ => "dict"
theorem Vd.ty {K : PySem.W.Frag} {H : Hp} {v : V} {d : PyData} (h : Vd H v d) : TyX K H v (.type (tyD d)) := by
  cases h with
  | non => exact .base .non
  | bl b => exact .base (.bl b)
  | int i => exact .base (.int i)
  | str x _ => exact .base (.str x)
  | lst h _ => exact .base (.lst h)
  | tup h _ => exact .base (.tup h)
  | emp h => exact .base (.dK h)
def isI : PyData → Bool | .int _ => true | _ => false
def isT : PyData → Bool | .tuple _ => true | _ => false
def isL : PyData → Bool | .list _ => true | _ => false
def isS : PyData → Bool | .str _ => true | _ => false
def isB : PyData → Bool | .bool _ => true | _ => false
theorem kit_int : ∀ d : PyData, kitB (tyD d) "int" = some (isI d || isB d)
  | .none => (by decide +kernel : kitB "NoneType" "int" = some false)
  | .bool _ => (by decide +kernel : kitB "bool" "int" = some true)
  | .int _ => (by decide +kernel : kitB "int" "int" = some true)
  | .str _ => (by decide +kernel : kitB "str" "int" = some false)
  | .list _ => (by decide +kernel : kitB "list" "int" = some false)
  | .tuple _ => (by decide +kernel : kitB "tuple" "int" = some false)
  | .dict _ => (by decide +kernel : kitB "dict" "int" = some false)
theorem kit_bool : ∀ d : PyData, kitB (tyD d) "bool" = some (isB d)
  | .none => (by decide +kernel : kitB "NoneType" "bool" = some false)
  | .bool _ => (by decide +kernel : kitB "bool" "bool" = some true)
  | .int _ => (by decide +kernel : kitB "int" "bool" = some false)
  | .str _ => (by decide +kernel : kitB "str" "bool" = some false)
  | .list _ => (by decide +kernel : kitB "list" "bool" = some false)
  | .tuple _ => (by decide +kernel : kitB "tuple" "bool" = some false)
  | .dict _ => (by decide +kernel : kitB "dict" "bool" = some false)
theorem kit_str : ∀ d : PyData, kitB (tyD d) "str" = some (isS d)
  | .none => (by decide +kernel : kitB "NoneType" "str" = some false)
  | .bool _ => (by decide +kernel : kitB "bool" "str" = some false)
  | .int _ => (by decide +kernel : kitB "int" "str" = some false)
  | .str _ => (by decide +kernel : kitB "str" "str" = some true)
  | .list _ => (by decide +kernel : kitB "list" "str" = some false)
  | .tuple _ => (by decide +kernel : kitB "tuple" "str" = some false)
  | .dict _ => (by decide +kernel : kitB "dict" "str" = some false)
theorem kit_tup : ∀ d : PyData, kitB (tyD d) "tuple" = some (isT d)
  | .none => (by decide +kernel : kitB "NoneType" "tuple" = some false)
  | .bool _ => (by decide +kernel : kitB "bool" "tuple" = some false)
  | .int _ => (by decide +kernel : kitB "int" "tuple" = some false)
  | .str _ => (by decide +kernel : kitB "str" "tuple" = some false)
  | .list _ => (by decide +kernel : kitB "list" "tuple" = some false)
  | .tuple _ => (by decide +kernel : kitB "tuple" "tuple" = some true)
  | .dict _ => (by decide +kernel : kitB "dict" "tuple" = some false)
theorem kit_lst : ∀ d : PyData, kitB (tyD d) "list" = some (isL d)
  | .none => (by decide +kernel : kitB "NoneType" "list" = some false)
  | .bool _ => (by decide +kernel : kitB "bool" "list" = some false)
  | .int _ => (by decide +kernel : kitB "int" "list" = some false)
  | .str _ => (by decide +kernel : kitB "str" "list" = some false)
  | .list _ => (by decide +kernel : kitB "list" "list" = some true)
  | .tuple _ => (by decide +kernel : kitB "tuple" "list" = some false)
  | .dict _ => (by decide +kernel : kitB "dict" "list" = some false)
theorem iteB {b : Bool} {A B : Prop} (h1 : b = true → A) (h2 : b = false → B) : if b = true then A else B := by
  cases b with
  | true => exact iteT (h1 rfl)
  | false => exact iteF (h2 rfl)
section
variable {P : Program} {w : World} {K : PySem.W.Frag} {mg : Str → Option Value} {base : Heap} {C CE : Addr}
def spis_integer (_ : PySem.W.Frag) (_ _ : Addr) : Sp := fun vs H Q _ => ∃ v d, vs = [v] ∧ Vd H v d ∧ Q (.bl (isI d)) H
theorem okis_integer (D : Def K mg "is_integer" sis_integer ["value"]) (B : Bs mg) (Glb : Glo mg) (WK : WebK K mg C) (EXInvalidReadings : ExcV P w K mg base "InvalidReadings" CE) (EXe : PySem.W.exmOne K (.ref CE) (.ref CE) = some true) (kS : PySem.W.kitOne K (.ref C) (.type "str") = some false) :
    Good P w K mg base "is_integer" sis_integer ["value"] 1 (spis_integer K C CE) := by
  refine D.good fun f fd F => ?_
  refine F.ok scis_integer (fun vs H Q E h => ?_) (fun cdv A outer s H vs Q E hr h => ?_)
  · obtain ⟨v, d, rfl, hv, q⟩ := h
    first | rfl | (rcases h with ⟨_, _, rfl, _⟩ | ⟨_, rfl, _⟩ <;> rfl)
  obtain ⟨v, d, rfl, hv, q⟩ := h
  refine ⟨_, (pss_one (ps_ret (pe_and (pe_callB call_isi (by rfl) B.isinstance (by decide +kernel) (pa_cons (pv 0) (pa_cons (pe_bltn (v := .ty "int") (by rfl) B.int (by decide +kernel) rfl) pa_nil))) (pe_one (pe_not (pe_callB call_isi (by rfl) B.isinstance (by decide +kernel) (pa_cons (pv 0) (pa_cons (pe_bltn (v := .ty "bool") (by rfl) B.bool (by decide +kernel) rfl) pa_nil)))))))), ?_⟩
  refine ⟨_, rfl, _, _, _, _, _, rfl, .ty _, hv.ty, kit_ty (kit_int d), _, rfl, iteB (fun h1 => ⟨_, rfl, _, _, _, _, _, rfl, .ty _, hv.ty, kit_ty (kit_bool d), _, rfl, ?_⟩) fun h1 => ?_⟩
  · cases d <;> first | exact q | cases h1
  · cases d <;> first | exact q | cases h1
def spis_between (_ : PySem.W.Frag) (_ _ : Addr) : Sp := fun vs H Q _ => ∃ v d, ∃ a b : Int, vs = [v, .int a, .int b] ∧ Vd H v d ∧ Q (.bl (match d with | .int n => decide (a ≤ n) && decide (n ≤ b) | _ => false)) H
theorem okis_between (D : Def K mg "is_between" sis_between ["value", "least", "most"]) (B : Bs mg) (Glb : Glo mg) (WK : WebK K mg C) (EXInvalidReadings : ExcV P w K mg base "InvalidReadings" CE) (EXe : PySem.W.exmOne K (.ref CE) (.ref CE) = some true) (kS : PySem.W.kitOne K (.ref C) (.type "str") = some false)
    (his_integer : Good P w K mg base "is_integer" sis_integer ["value"] 1 (spis_integer K C CE)) :
    Good P w K mg base "is_between" sis_between ["value", "least", "most"] 2 (spis_between K C CE) := by
  refine D.good fun f fd F => ?_
  obtain ⟨fis_integer, dis_integer, Ois_integer, mis_integer, kis_integer, bis_integer, Fis_integer⟩ := his_integer
  refine F.ok scis_between (fun vs H Q E h => ?_) (fun cdv A outer s H vs Q E hr h => ?_)
  · obtain ⟨v, d, a, b, rfl, hv, q⟩ := h
    first | rfl | (rcases h with ⟨_, _, rfl, _⟩ | ⟨_, rfl, _⟩ <;> rfl)
  obtain ⟨v, d, a, b, rfl, hv, q⟩ := h
  refine ⟨_, (pss_one (ps_ret (pe_and (pe_call Ois_integer hr rfl mis_integer kis_integer bis_integer .nil pass0 (pa_cons (pv 0) pa_nil)) (pe_one (pe_chain op_le op_le (pv 1) (pv 0) (pv 2)))))), ?_⟩
  refine ⟨_, rfl, v, d, rfl, hv, _, rfl, iteB (fun h1 => ?_) fun h1 => ?_⟩
  · cases hv <;> first | cases h1 | skip
    rename_i n
    refine ⟨_, rfl, _, rfl, _, _, rfl, rfl, _, rfl, ?_⟩
    by_cases h : a ≤ n
    · rw [show (match PyData.int n with | .int n => decide (a ≤ n) && decide (n ≤ b) | _ => false) = decide (n ≤ b) by show (decide (a ≤ n) && decide (n ≤ b)) = _; rw [decide_eq_true h, Bool.true_and]] at q
      exact iteYes h ⟨_, rfl, _, _, rfl, rfl, q⟩
    · rw [show (match PyData.int n with | .int n => decide (a ≤ n) && decide (n ≤ b) | _ => false) = false by show (decide (a ≤ n) && decide (n ≤ b)) = _; rw [decide_eq_false h, Bool.false_and]] at q
      exact iteNo h q
  · cases d <;> first | exact q | cases h1
def spis_size (_ : PySem.W.Frag) (_ _ : Addr) : Sp := fun vs H Q _ => ∃ n : Int, vs = [.int n] ∧ 2 ≤ n ∧ n ≤ 8 ∧ Q (.bl true) H
theorem okis_size (D : Def K mg "is_size" sis_size ["value"]) (B : Bs mg) (Glb : Glo mg) (WK : WebK K mg C) (EXInvalidReadings : ExcV P w K mg base "InvalidReadings" CE) (EXe : PySem.W.exmOne K (.ref CE) (.ref CE) = some true) (kS : PySem.W.kitOne K (.ref C) (.type "str") = some false)
    (his_between : Good P w K mg base "is_between" sis_between ["value", "least", "most"] 2 (spis_between K C CE)) :
    Good P w K mg base "is_size" sis_size ["value"] 3 (spis_size K C CE) := by
  refine D.good fun f fd F => ?_
  obtain ⟨fis_between, dis_between, Ois_between, mis_between, kis_between, bis_between, Fis_between⟩ := his_between
  refine F.ok scis_size (fun vs H Q E h => ?_) (fun cdv A outer s H vs Q E hr h => ?_)
  · obtain ⟨n, rfl, h1, h2, q⟩ := h
    first | rfl | (rcases h with ⟨_, _, rfl, _⟩ | ⟨_, rfl, _⟩ <;> rfl)
  obtain ⟨n, rfl, h1, h2, q⟩ := h
  refine ⟨_, (pss_one (ps_ret (pe_call Ois_between hr rfl mis_between kis_between bis_between .nil pass0 (pa_cons (pv 0) (pa_cons pe_int (pa_cons pe_int pa_nil)))))), ?_⟩
  refine ⟨_, rfl, _, _, 2, 8, rfl, .int n, ?_⟩
  show Q (.bl (decide (2 ≤ n) && decide (n ≤ 8))) H
  rw [decide_eq_true h1, decide_eq_true h2]
  exact q
def spneed_size (_ : PySem.W.Frag) (_ _ : Addr) : Sp := fun vs H Q _ => ∃ n : Int, vs = [.int n] ∧ 2 ≤ n ∧ n ≤ 8 ∧ Q .non H
theorem okneed_size (D : Def K mg "need_size" sneed_size ["size"]) (B : Bs mg) (Glb : Glo mg) (WK : WebK K mg C) (EXInvalidReadings : ExcV P w K mg base "InvalidReadings" CE) (EXe : PySem.W.exmOne K (.ref CE) (.ref CE) = some true) (kS : PySem.W.kitOne K (.ref C) (.type "str") = some false)
    (his_size : Good P w K mg base "is_size" sis_size ["value"] 3 (spis_size K C CE)) :
    Good P w K mg base "need_size" sneed_size ["size"] 4 (spneed_size K C CE) := by
  refine D.good fun f fd F => ?_
  obtain ⟨fis_size, dis_size, Ois_size, mis_size, kis_size, bis_size, Fis_size⟩ := his_size
  refine F.ok scneed_size (fun vs H Q E h => ?_) (fun cdv A outer s H vs Q E hr h => ?_)
  · obtain ⟨n, rfl, h1, h2, q⟩ := h
    first | rfl | (rcases h with ⟨_, _, rfl, _⟩ | ⟨_, rfl, _⟩ <;> rfl)
  obtain ⟨n, rfl, h1, h2, q⟩ := h
  refine ⟨_, (pss_one (ps_if (pt_not (pt_val (pe_call Ois_size hr rfl mis_size kis_size bis_size .nil pass0 (pa_cons (pv 0) pa_nil))))
    (pss_one ps_never) pss_nil)), ?_⟩
  exact ⟨_, rfl, n, rfl, h1, h2, _, rfl, iteF q⟩
def isTm (d : PyData) : Bool := match d with | .int n => decide (1 ≤ n) && decide (n ≤ 20) | _ => false
def spis_times (_ : PySem.W.Frag) (_ _ : Addr) : Sp := fun vs H Q _ => ∃ v d, vs = [v] ∧ Vd H v d ∧ Q (.bl (isTm d)) H
theorem okis_times (D : Def K mg "is_times" sis_times ["value"]) (B : Bs mg) (Glb : Glo mg) (WK : WebK K mg C) (EXInvalidReadings : ExcV P w K mg base "InvalidReadings" CE) (EXe : PySem.W.exmOne K (.ref CE) (.ref CE) = some true) (kS : PySem.W.kitOne K (.ref C) (.type "str") = some false)
    (his_between : Good P w K mg base "is_between" sis_between ["value", "least", "most"] 2 (spis_between K C CE)) :
    Good P w K mg base "is_times" sis_times ["value"] 3 (spis_times K C CE) := by
  refine D.good fun f fd F => ?_
  obtain ⟨fis_between, dis_between, Ois_between, mis_between, kis_between, bis_between, Fis_between⟩ := his_between
  refine F.ok scis_times (fun vs H Q E h => ?_) (fun cdv A outer s H vs Q E hr h => ?_)
  · obtain ⟨v, d, rfl, hv, q⟩ := h
    first | rfl | (rcases h with ⟨_, _, rfl, _⟩ | ⟨_, rfl, _⟩ <;> rfl)
  obtain ⟨v, d, rfl, hv, q⟩ := h
  refine ⟨_, (pss_one (ps_ret (pe_call Ois_between hr rfl mis_between kis_between bis_between .nil pass0 (pa_cons (pv 0) (pa_cons pe_int (pa_cons pe_int pa_nil)))))), ?_⟩
  exact ⟨_, rfl, v, d, 1, 20, rfl, hv, q⟩
def spis_listed (_ : PySem.W.Frag) (_ _ : Addr) : Sp := fun vs H Q _ => ∃ v d, vs = [v] ∧ Vd H v d ∧ ∀ H', Same H H' → Q (.bl (isL d || isT d)) H'
theorem okis_listed (D : Def K mg "is_listed" sis_listed ["value"]) (B : Bs mg) (Glb : Glo mg) (WK : WebK K mg C) (EXInvalidReadings : ExcV P w K mg base "InvalidReadings" CE) (EXe : PySem.W.exmOne K (.ref CE) (.ref CE) = some true) (kS : PySem.W.kitOne K (.ref C) (.type "str") = some false) :
    Good P w K mg base "is_listed" sis_listed ["value"] 1 (spis_listed K C CE) := by
  refine D.good fun f fd F => ?_
  refine F.ok scis_listed (fun vs H Q E h => ?_) (fun cdv A outer s H vs Q E hr h => ?_)
  · obtain ⟨v, d, rfl, hv, q⟩ := h
    first | rfl | (rcases h with ⟨_, _, rfl, _⟩ | ⟨_, rfl, _⟩ <;> rfl)
  obtain ⟨v, d, rfl, hv, q⟩ := h
  refine ⟨_, (pss_one (ps_ret (pe_callB call_isiT (by rfl) B.isinstance (by decide +kernel) (pa_cons (pv 0) (pa_cons (pe_tup (pa_cons (pe_bltn (v := .ty "list") (by rfl) B.list (by decide +kernel) rfl) (pa_cons (pe_bltn (v := .ty "tuple") (by rfl) B.tuple (by decide +kernel) rfl) pa_nil))) pa_nil))))), ?_⟩
  refine ⟨_, rfl, (by show 2 ≤ sizeLine; decide), fun tp ntp => ?_⟩
  refine ⟨_, tp, [.ty "list", .ty "tuple"], _, [.type "list", .type "tuple"], isL d || isT d, rfl, upd_same, .cons (.ty _) (.cons (.ty _) .nil), (hv.same (same_new ntp _)).ty, ?_, q _ (same_new ntp _)⟩
  refine kitAny_cons (b := isL d) (kit_ty (kit_lst d)) (fun h => ?_) (fun h => ?_)
  · rw [h, Bool.false_or]
    refine kitAny_cons (b := isT d) (kit_ty (kit_tup d)) (fun h2 => ?_) (fun h2 => ?_)
    · rw [h2]; exact kitAny_nil
    · exact h2
  · rw [h]; rfl
end
end My
set_option maxHeartbeats 4000000
namespace My
open PySem L2 PyProof.Rows
theorem of_a : Str.ofString "a" = ⟨#[97]⟩ := by decide +kernel
theorem of_z : Str.ofString "z" = ⟨#[122]⟩ := by decide +kernel
theorem lt_one {a b : Nat} : (⟨#[a]⟩ : Str).cps.toList < (⟨#[b]⟩ : Str).cps.toList ↔ a < b := by
  show [a] < [b] ↔ _
  rw [List.cons_lt_cons_iff]
  constructor
  · rintro (z | ⟨_, z⟩)
    · exact z
    · exact absurd z (List.lt_irrefl [])
  · exact .inl
theorem line1000 {n : Nat} (h : n ≤ 1000) : n ≤ sizeLine := Nat.le_trans h (by decide)
def isA (c : Nat) : Bool := decide (97 ≤ c) && decide (c ≤ 122)
def isTx (d : PyData) : Bool := match d with | .str x => decide (x.length ≤ 400) && x.cps.toList.all isA | _ => false
/-- a reading -/
def isOne (d : PyData) : Bool := match d with | .tuple [a, b] => isTx a && isTm b | _ => false
/-- readings -/
def areR (d : PyData) : Bool := match d with | .list es => decide (es.length ≤ 60) && es.all isOne | .tuple es => decide (es.length ≤ 60) && es.all isOne | _ => false
theorem iteNB {b : Bool} {A B : Prop} (h1 : b = false → A) (h2 : b = true → B) : if (!b) = true then A else B := by
  cases b with
  | true => exact iteF (h2 rfl)
  | false => exact iteT (h1 rfl)
section
variable {P : Program} {w : World} {K : PySem.W.Frag} {mg : Str → Option Value} {base : Heap} {C CE : Addr}
def spis_letter (_ : PySem.W.Frag) (_ _ : Addr) : Sp := fun vs H Q _ => ∃ c : Nat, vs = [.str ⟨#[c]⟩] ∧ Q (.bl (isA c)) H
theorem okis_letter (D : Def K mg "is_letter" sis_letter ["sign"]) (B : Bs mg) (Glb : Glo mg) (WK : WebK K mg C) (EXInvalidReadings : ExcV P w K mg base "InvalidReadings" CE) (EXe : PySem.W.exmOne K (.ref CE) (.ref CE) = some true) (kS : PySem.W.kitOne K (.ref C) (.type "str") = some false) :
    Good P w K mg base "is_letter" sis_letter ["sign"] 1 (spis_letter K C CE) := by
  refine D.good fun f fd F => ?_
  refine F.ok scis_letter (fun vs H Q E h => ?_) (fun cdv A outer s H vs Q E hr h => ?_)
  · obtain ⟨c, rfl, q⟩ := h
    first | rfl | (rcases h with ⟨_, _, rfl, _⟩ | ⟨_, rfl, _⟩ <;> rfl)
  obtain ⟨c, rfl, q⟩ := h
  refine ⟨_, (pss_one (ps_ret (pe_chain op_le_str op_le_str pe_str (pv 0) pe_str))), ?_⟩
  refine ⟨_, rfl, _, _, rfl, rfl, _, rfl, ?_⟩
  rw [of_a]
  by_cases h : 97 ≤ c
  · refine iteNot (fun z => by have := lt_one.mp z; omega) ⟨_, _, rfl, rfl, ?_⟩
    rw [of_z]
    have e : isA c = !decide ((⟨#[122]⟩ : Str).cps.toList < (⟨#[c]⟩ : Str).cps.toList) := by
      unfold isA
      rw [decide_eq_true h, Bool.true_and]
      by_cases k : c ≤ 122
      · rw [decide_eq_true k, decide_eq_false (fun z => by have := lt_one.mp z; omega)]
        rfl
      · rw [decide_eq_false k, decide_eq_true (lt_one.mpr (by omega))]
        rfl
    rw [e] at q
    exact q
  · have e : isA c = false := by
      unfold isA
      rw [decide_eq_false h, Bool.false_and]
    rw [e] at q
    exact iteNot' (lt_one.mpr (by omega)) q
def spis_text (_ : PySem.W.Frag) (_ _ : Addr) : Sp := fun vs H Q _ => ∃ v d, vs = [v] ∧ Vd H v d ∧ Q (.bl (isTx d)) H
theorem okis_text (D : Def K mg "is_text" sis_text ["value"]) (B : Bs mg) (Glb : Glo mg) (WK : WebK K mg C) (EXInvalidReadings : ExcV P w K mg base "InvalidReadings" CE) (EXe : PySem.W.exmOne K (.ref CE) (.ref CE) = some true) (kS : PySem.W.kitOne K (.ref C) (.type "str") = some false)
    (his_letter : Good P w K mg base "is_letter" sis_letter ["sign"] 1 (spis_letter K C CE)) :
    Good P w K mg base "is_text" sis_text ["value"] 2 (spis_text K C CE) := by
  refine D.good fun f fd F => ?_
  obtain ⟨fis_letter, dis_letter, Ois_letter, mis_letter, kis_letter, bis_letter, Fis_letter⟩ := his_letter
  refine F.ok scis_text (fun vs H Q E h => ?_) (fun cdv A outer s H vs Q E hr h => ?_)
  · obtain ⟨v, d, rfl, hv, q⟩ := h
    first | rfl | (rcases h with ⟨_, _, rfl, _⟩ | ⟨_, rfl, _⟩ <;> rfl)
  obtain ⟨v, d, rfl, hv, q⟩ := h
  refine ⟨_, (pss_cons (ps_if (PW.pt (pw_or (pt_not (pt_val (pe_callB call_isi (by rfl) B.isinstance (by decide +kernel) (pa_cons (pv 0) (pa_cons (pe_bltn (v := .ty "str") (by rfl) B.str (by decide +kernel) rfl) pa_nil))))) (pw_or1 (pt_cmpR op_gt (pe_callB call_len_str (by rfl) B.len (by decide +kernel) (pa_cons (pv 0) pa_nil)) (pe_globI Glb.MOST_LETTERS) (nomark _)))))
    (pss_one (ps_ret pe_bl)) pss_nil)
  (pss_one (ps_ret (pe_drop (pe_callB (cr_all rfl) (by rfl) B.all (by decide +kernel) (pa_cons (pe_lc (own := [("sign", 1)]) (g := gName 1) (by rfl) scis_text.nd (pi_str (pv 0)) (blkOk_by (own := [("sign", 1)]) (N := ["value", "sign"]) (sc := defScope sis_text) (by decide +kernel)) (fun _ _ _ _ _ => (pg_name (i := 1) scis_text.nd rfl (by first | exact Or.inl rfl | exact Or.inr rfl))) (fun _ _ _ _ _ => pts_nil) (fun _ _ _ _ _ => (pe_call Ois_letter hr rfl mis_letter kis_letter bis_letter .nil pass0 (pa_cons (pv 1) pa_nil)))) pa_nil)))))), ?_⟩
  refine ⟨_, rfl, _, _, _, _, _, rfl, .ty _, hv.ty, kit_ty (kit_str d), _, rfl, iteNB (fun h1 => ?_) (fun h1 => ?_)⟩
  · cases d <;> first | exact q | cases h1
  · cases hv <;> first | cases h1 | skip
    rename_i x hx
    refine ⟨_, rfl, _, rfl, line1000 hx, _, _, rfl, rfl, _, rfl, ?_⟩
    by_cases h : x.length ≤ 400
    · refine iteNo (by omega) ?_
      have e : isTx (.str x) = x.cps.toList.all isA := by
        show (decide (x.length ≤ 400) && _) = _
        rw [decide_eq_true h, Bool.true_and]
      rw [e] at q
      refine ⟨_, rfl, _, rfl, fun D nD => lc_it walk_str (fun i H' => H' = upd H D (.lst (((x.cps.toList.take i).map isA).map V.bl))) rfl (fun _ _ _ _ => trivial) ?_ ?_⟩
      · rintro i y H1 H2 hi rfl ⟨rfl, c, hc, rfl⟩
        have hm : x.cps.toList[i]? = some c := by simpa using hc
        refine ⟨rfl, _, rfl, c, rfl, _, upd_same, ?_, ?_⟩
        · rw [List.length_map, List.length_map, List.length_take]
          exact Nat.lt_of_lt_of_le (by have hi2 : i < x.length := hi; omega : min i x.cps.toList.length < 1000) (by decide)
        · rw [upd_upd, List.take_succ, hm, List.map_append, List.map_append]
          rfl
      · rintro H1 rfl
        refine ⟨D, _, rfl, SqL.of upd_same, D, _, H, rfl, nD, ?_⟩
        rw [show (((x.cps.toList.take x.cps.size).map isA).all id) = x.cps.toList.all isA by
          rw [List.take_of_length_le (by simp), List.all_map]
          rfl]
        exact q
    · have e : isTx (.str x) = false := by
        show (decide (x.length ≤ 400) && _) = _
        rw [decide_eq_false h, Bool.false_and]
      rw [e] at q
      exact iteYes (by omega) q
end
end My
set_option maxHeartbeats 4000000
namespace My
open PySem L2 PyProof.Rows
/-- readings: a list of pairs in the heap -/
def SIAt (H : Hp) (t : Addr) (e : Str × Int) : Prop := H t = some (.tup [.str e.1, .int e.2])
def RdAt (H : Hp) (l : Addr) (L : List (Str × Int)) : Prop := ∃ ts : List Addr, H l = some (.lst (ts.map V.ref)) ∧ Paired (SIAt H) ts L
theorem RdAt.same {H H' : Hp} {l : Addr} {L : List (Str × Int)} (h : RdAt H l L) (s : Same H H') : RdAt H' l L := by
  obtain ⟨ts, h1, h2⟩ := h
  exact ⟨ts, s _ _ h1, paired_mono (fun p e hp => s _ _ hp) h2⟩
theorem ref_at {ts : List Addr} {i : Nat} {v : V} (h : (ts.map V.ref)[i]? = some v) : ∃ p, ts[i]? = some p ∧ v = .ref p := by
  rw [List.getElem?_map] at h
  cases e : ts[i]? with
  | none => rw [e] at h; cases h
  | some p => rw [e] at h; exact ⟨p, rfl, (Option.some.inj h).symm⟩
theorem str_at {xs : List Str} {i : Nat} {v : V} (h : (xs.map V.str)[i]? = some v) : ∃ x, xs[i]? = some x ∧ v = .str x := by
  rw [List.getElem?_map] at h
  cases e : xs[i]? with
  | none => rw [e] at h; cases h
  | some p => rw [e] at h; exact ⟨p, rfl, (Option.some.inj h).symm⟩
/-- numbers put together -/
def sumT : List (Str × Int) → List (Str × Int) → List (Str × Int)
  | D, [] => D
  | D, e :: r => sumT (addT D e.1 e.2) r
theorem sumT_app (L M : List (Str × Int)) : ∀ D, sumT D (L ++ M) = sumT (sumT D L) M := by
  induction L with
  | nil => intro D; rfl
  | cons e r ih => intro D; exact ih _
theorem sumT_nodup (L : List (Str × Int)) : ∀ {D : List (Str × Int)}, (D.map Prod.fst).Nodup → ((sumT D L).map Prod.fst).Nodup := by
  induction L with
  | nil => intro D h; exact h
  | cons e r ih => intro D h; exact ih (addT_nodup h)
theorem sumT_len (L : List (Str × Int)) : ∀ D, (sumT D L).length ≤ D.length + L.length := by
  induction L with
  | nil => intro D; exact Nat.le_refl _
  | cons e r ih =>
    intro D
    have h1 := ih (addT D e.1 e.2)
    have h2 := addT_len e.1 e.2 D
    show (sumT (addT D e.1 e.2) r).length ≤ D.length + (r.length + 1)
    omega
theorem si_at {H : Hp} {ts : List Addr} {L : List (Str × Int)} (hP : Paired (SIAt H) ts L) {i : Nat} {v : V} (h : (ts.map V.ref)[i]? = some v) : ∃ p e, v = .ref p ∧ L[i]? = some e ∧ SIAt H p e := by
  obtain ⟨p, hp, rfl⟩ := ref_at h
  obtain ⟨e, he, hpe⟩ := paired_get hP hp
  exact ⟨p, e, rfl, he, hpe⟩
theorem sumT_snoc (D L : List (Str × Int)) (e : Str × Int) : sumT D (L ++ [e]) = addT (sumT D L) e.1 e.2 := by
  rw [sumT_app]
  rfl
theorem take_snoc {α : Type} {L : List α} {i : Nat} {e : α} (h : L[i]? = some e) : L.take (i + 1) = L.take i ++ [e] := by rw [List.take_succ, h]; rfl
abbrev told (D : List (Str × Int)) : List (Str × Int) := D.mergeSort (PySem.W.dataLe false encSI)
theorem iteNS {c : Prop} [Decidable c] {A B : Prop} (h : c) (b : B) : if (!decide c) = true then A else B := iteNot' h b
def lf (s : Nat) (tl : Addr) : List (Str × V) := putF "_told" (.ref tl) (putF "_size" (.int (s : Int)) [])
theorem lf_S (s : Nat) (tl : Addr) : (lf s tl).lookup ("_size" : Str) = some (.int (s : Int)) := by
  unfold lf
  rw [lookup_putF, if_neg (by decide +kernel), lookup_putF, if_pos rfl]
theorem lf_T (s : Nat) (tl : Addr) : (lf s tl).lookup ("_told" : Str) = some (.ref tl) := by
  unfold lf
  rw [lookup_putF, if_pos rfl]
theorem lf_no (s : Nat) (tl : Addr) {m : Str} (h1 : ¬ m = "_told") (h2 : ¬ m = "_size") : (lf s tl).lookup m = none := by
  unfold lf
  rw [lookup_putF, if_neg h1, lookup_putF, if_neg h2]
  all_goals rfl
theorem putF_len (f : Str) (v : V) : ∀ l : List (Str × V), (putF f v l).length ≤ l.length + 1
  | [] => by simp [putF]
  | (g, x) :: r => by
    have := putF_len f v r
    unfold putF
    split
    · simp
    · simp; omega
/-- a lot: its told readings M stand in the list at tl -/
def LotAt (C a tl : Addr) (s : Nat) (M : List (Str × Int)) (H : Hp) : Prop := ∃ dx, H a = some (.ins C dx (lf s tl)) ∧ RdAt H tl M
theorem LotAt.same {C a tl : Addr} {s : Nat} {M : List (Str × Int)} {H H' : Hp} (h : LotAt C a tl s M H) (k : Same H H') : LotAt C a tl s M H' := by
  obtain ⟨dx, h1, h2⟩ := h
  exact ⟨dx, k _ _ h1, h2.same k⟩
/-- readings in a list or in a tuple -/
def RdS (H : Hp) (l : Addr) (L : List (Str × Int)) : Prop := ∃ ts : List Addr, (H l = some (.lst (ts.map V.ref)) ∨ H l = some (.tup (ts.map V.ref))) ∧ Paired (SIAt H) ts L
theorem RdS.same {H H' : Hp} {l : Addr} {L : List (Str × Int)} (h : RdS H l L) (s : Same H H') : RdS H' l L := by
  obtain ⟨ts, h1, h2⟩ := h
  exact ⟨ts, h1.imp (s _ _) (s _ _), paired_mono (fun p e hp => s _ _ hp) h2⟩
theorem isTx_is {H : Hp} {v : V} {d : PyData} (h : Vd H v d) (k : isTx d = true) : ∃ x, v = .str x ∧ d = .str x ∧ isTx (.str x) = true := by
  cases h <;> first | cases k | skip
  rename_i x hx
  exact ⟨x, rfl, rfl, k⟩
theorem isTm_is {H : Hp} {v : V} {d : PyData} (h : Vd H v d) (k : isTm d = true) : ∃ n : Int, v = .int n ∧ d = .int n ∧ 1 ≤ n ∧ n ≤ 20 := by
  cases h <;> first | cases k | skip
  rename_i n
  have k : (decide (1 ≤ n) && decide (n ≤ 20)) = true := k
  simp only [Bool.and_eq_true, decide_eq_true_eq] at k
  exact ⟨n, rfl, rfl, k.1, k.2⟩
theorem isOne_is {H : Hp} {v : V} {d : PyData} (h : Vd H v d) (k : isOne d = true) : ∃ p, ∃ e : Str × Int, v = .ref p ∧ SIAt H p e ∧ isTx (.str e.1) = true ∧ 1 ≤ e.2 ∧ e.2 ≤ 20 ∧ d = .tuple [.str e.1, .int e.2] := by
  cases h <;> first | cases k | skip
  rename_i p vs es h1 h2
  cases h2 with
  | nil => cases k
  | cons a h2 =>
    cases h2 with
    | nil => cases k
    | cons b h2 =>
      cases h2 with
      | cons _ _ => cases k
      | nil =>
        have k : (isTx _ && isTm _) = true := k
        rw [Bool.and_eq_true] at k
        obtain ⟨x, rfl, rfl, hx⟩ := isTx_is a k.1
        obtain ⟨n, rfl, rfl, hn1, hn2⟩ := isTm_is b k.2
        exact ⟨p, (x, n), rfl, h1, hx, hn1, hn2, rfl⟩
theorem ones_is {H : Hp} : ∀ {vs : List V} {es : List PyData}, VdAll H vs es → es.all isOne = true → ∃ (ts : List Addr) (L : List (Str × Int)), vs = ts.map V.ref ∧ Paired (SIAt H) ts L ∧ ∀ e ∈ L, isTx (.str e.1) = true ∧ 1 ≤ e.2 ∧ e.2 ≤ 20
  | _, _, .nil, _ => ⟨[], [], rfl, .nil, fun e h => (nomatch h)⟩
  | _, _, .cons h k, z => by
    rw [List.all_cons, Bool.and_eq_true] at z
    obtain ⟨p, e, rfl, h1, h2, h3, h4, _⟩ := isOne_is h z.1
    obtain ⟨ts, L, rfl, k1, k2⟩ := ones_is k z.2
    refine ⟨p :: ts, e :: L, rfl, .cons h1 k1, fun f hf => ?_⟩
    rcases List.mem_cons.mp hf with rfl | hf
    · exact ⟨h2, h3, h4⟩
    · exact k2 f hf
/-- what a value tells that is readings -/
theorem areR_is {H : Hp} {v : V} {d : PyData} (h : Vd H v d) (k : areR d = true) : ∃ l L, v = .ref l ∧ RdS H l L ∧ L.length ≤ 60 ∧ ∀ e ∈ L, isTx (.str e.1) = true ∧ 1 ≤ e.2 ∧ e.2 ≤ 20 := by
  cases h <;> first | cases k | skip
  all_goals
    rename_i p vs es h1 h2
    have k : (decide (es.length ≤ 60) && es.all isOne) = true := k
    simp only [Bool.and_eq_true, decide_eq_true_eq] at k
    obtain ⟨ts, L, rfl, k1, k2⟩ := ones_is h2 k.2
    have hl := h2.len
    rw [List.length_map, paired_len k1] at hl
    refine ⟨p, L, rfl, ⟨ts, ?_, k1⟩, by omega, k2⟩
  · exact .inl h1
  · exact .inr h1
theorem listed_is {H : Hp} {v : V} {d : PyData} (h : Vd H v d) (k : (isL d || isT d) = true) : ∃ p vs es, v = .ref p ∧ (H p = some (.lst vs) ∨ H p = some (.tup vs)) ∧ VdAll H vs es ∧ areR d = (decide (es.length ≤ 60) && es.all isOne) := by
  cases h with
  | lst h1 h2 => exact ⟨_, _, _, rfl, .inl h1, h2, rfl⟩
  | tup h1 h2 => exact ⟨_, _, _, rfl, .inr h1, h2, rfl⟩
  | _ => cases k
theorem all_no {es : List PyData} {i : Nat} {d : PyData} (h : es[i]? = some d) (k : isOne d = false) : es.all isOne = false := by
  cases e : es.all isOne with
  | false => rfl
  | true =>
    have := List.all_eq_true.mp e d (List.mem_of_getElem? h)
    rw [k] at this
    cases this
section
variable {P : Program} {w : World} {K : PySem.W.Frag} {mg : Str → Option Value} {base : Heap} {C CE : Addr}
def sp_times_together (_ : PySem.W.Frag) (_ _ : Addr) : Sp := fun vs H Q _ => ∃ l L, vs = [.ref l] ∧ RdS H l L ∧ L.length ≤ 1000 ∧ ∀ H' d, Same H H' → H d = none → H' d = some (.dK (dT (sumT [] L))) → Q (.ref d) H'
theorem ok_times_together (D : Def K mg "_times_together" s_times_together ["readings"]) (B : Bs mg) (Glb : Glo mg) (WK : WebK K mg C) (EXInvalidReadings : ExcV P w K mg base "InvalidReadings" CE) (EXe : PySem.W.exmOne K (.ref CE) (.ref CE) = some true) (kS : PySem.W.kitOne K (.ref C) (.type "str") = some false) :
    Good P w K mg base "_times_together" s_times_together ["readings"] 1 (sp_times_together K C CE) := by
  refine D.good fun f fd F => ?_
  refine F.ok sc_times_together (fun vs H Q E h => ?_) (fun cdv A outer s H vs Q E hr h => ?_)
  · obtain ⟨l, L, rfl, ⟨ts, hl, hP⟩, hlen, q⟩ := h
    first | rfl | (rcases h with ⟨_, _, rfl, _⟩ | ⟨_, rfl, _⟩ <;> rfl)
  obtain ⟨l, L, rfl, ⟨ts, hl, hP⟩, hlen, q⟩ := h
  refine ⟨_, (pss_cons (ps_set (i := 1) sc_times_together.nd rfl (by first | exact Or.inl rfl | exact Or.inr rfl) pe_dnewK)
  (pss_cons (ps_for PassesOwn.never rfl (pi_or (pi_list (pv 0)) (pi_tup (pv 0))) (pg_tup rfl (pgs_cons (pg_name (i := 2) sc_times_together.nd rfl (by first | exact Or.inl rfl | exact Or.inr rfl)) (pgs_cons (pg_name (i := 3) sc_times_together.nd rfl (by first | exact Or.inl rfl | exact Or.inr rfl)) pgs_nil)))
    (pss_one (ps_dput (hu_of hr) (pv 1) (pv 2) (pe_op op_add (pe_dget2 (hu_of hr) (pv 1) (pv 2) pe_int ⟨rfl, rfl, rfl, rfl⟩) (pv 3)) rfl)))
  (pss_one (ps_ret (pv 1))))), ?_⟩
  intro d nd
  rcases hl with hl | hl
  case' inl => refine .inl ⟨_, rfl, l, rfl, ⟨_, SqL.of (same_new nd _ _ _ hl)⟩, for_list (K := K) (a := l) (xs := ts.map V.ref) (fun i σ H' => ∃ v2 v3 : Option V, σ = [some (.ref l), some (.ref d), v2, v3] ∧ Same H H' ∧ H' d = some (.dK (dT (sumT [] (L.take i))))) ⟨none, none, rfl, same_new nd _, upd_same⟩ (fun i σ H' _ ⟨_, _, _, hS', _⟩ => SqL.of (hS' _ _ hl)) ?_ ?_⟩
  case' inr => refine .inr ⟨_, rfl, l, rfl, ⟨_, SqT.of (same_new nd _ _ _ hl)⟩, for_tup (K := K) (a := l) (xs := ts.map V.ref) (fun i σ H' => ∃ v2 v3 : Option V, σ = [some (.ref l), some (.ref d), v2, v3] ∧ Same H H' ∧ H' d = some (.dK (dT (sumT [] (L.take i))))) ⟨none, none, rfl, same_new nd _, upd_same⟩ (fun i σ H' _ ⟨_, _, _, hS', _⟩ => SqT.of (hS' _ _ hl)) ?_ ?_⟩
  all_goals first
    | (rintro i x σ H1 hx ⟨v2, v3, rfl, hS, hd⟩
       obtain ⟨p, e, rfl, he, hpe⟩ := si_at hP hx
       have hp1 : H1 p = some (.tup [.str e.1, .int e.2]) := hS _ _ hpe
       refine ⟨p, _, rfl, SqT.of hp1, rfl, _, _, rfl, _, _, rfl, rfl, ?_⟩
       have hget : DGet H1 d (.str e.1) (valV (dT (sumT [] (L.take i))) (Sum.inr e.1 : Key)) := DGet.k (k := Sum.inr e.1) hd
       have hlt : (dT (sumT [] (L.take i))).length < sizeLine := by
         have h1 := sumT_len (L.take i) []
         rw [List.length_take] at h1
         rw [List.length_map]
         exact Nat.lt_of_le_of_lt (by simp at h1; omega : (sumT [] (L.take i)).length ≤ 1000) (by decide)
       refine ⟨_, rfl, d, rfl, .inl ⟨_, .inl hd⟩, _, rfl, _, hget, _, rfl, ?_⟩
       rw [dT_getD]
       refine ⟨_, _, rfl, rfl, _, rfl, _, rfl, d, _, rfl, DPut.k (k := Sum.inr e.1) hd hlt, ?_⟩
       rw [dT_put (sumT_nodup _ (by simp))]
       refine ⟨_, _, rfl, same_upd hS nd, ?_⟩
       rw [upd_same, take_snoc he, sumT_snoc])
    | (rintro σ H1 ⟨v2, v3, rfl, hS, hd⟩
       rw [List.length_map, paired_len hP, List.take_length] at hd
       exact ⟨_, rfl, q H1 d hS nd hd⟩)
def spare_readings (_ : PySem.W.Frag) (_ _ : Addr) : Sp := fun vs H Q _ => ∃ v d, vs = [v] ∧ Vd H v d ∧ ∀ H', Same H H' → Q (.bl (areR d)) H'
theorem okare_readings (D : Def K mg "are_readings" sare_readings ["value"]) (B : Bs mg) (Glb : Glo mg) (WK : WebK K mg C) (EXInvalidReadings : ExcV P w K mg base "InvalidReadings" CE) (EXe : PySem.W.exmOne K (.ref CE) (.ref CE) = some true) (kS : PySem.W.kitOne K (.ref C) (.type "str") = some false)
    (his_listed : Good P w K mg base "is_listed" sis_listed ["value"] 1 (spis_listed K C CE))
    (his_text : Good P w K mg base "is_text" sis_text ["value"] 2 (spis_text K C CE))
    (his_times : Good P w K mg base "is_times" sis_times ["value"] 3 (spis_times K C CE)) :
    Good P w K mg base "are_readings" sare_readings ["value"] 4 (spare_readings K C CE) := by
  refine D.good fun f fd F => ?_
  obtain ⟨fis_listed, dis_listed, Ois_listed, mis_listed, kis_listed, bis_listed, Fis_listed⟩ := his_listed
  obtain ⟨fis_text, dis_text, Ois_text, mis_text, kis_text, bis_text, Fis_text⟩ := his_text
  obtain ⟨fis_times, dis_times, Ois_times, mis_times, kis_times, bis_times, Fis_times⟩ := his_times
  refine F.ok scare_readings (fun vs H Q E h => ?_) (fun cdv A outer s H vs Q E hr h => ?_)
  · obtain ⟨v, d, rfl, hv, q⟩ := h
    first | rfl | (rcases h with ⟨_, _, rfl, _⟩ | ⟨_, rfl, _⟩ <;> rfl)
  obtain ⟨v, d, rfl, hv, q⟩ := h
  refine ⟨_, (pss_cons (ps_if (PW.pt (pw_or (pt_not (pt_val (pe_call Ois_listed (hr.mono (by decide)) rfl mis_listed kis_listed bis_listed .nil pass0 (pa_cons (pv 0) pa_nil)))) (pw_or1 (pt_cmpR op_gt (pe_callB call_len_seq (by rfl) B.len (by decide +kernel) (pa_cons (pv 0) pa_nil)) (pe_globI Glb.MOST_READINGS) (nomark _)))))
    (pss_one (ps_ret pe_bl)) pss_nil)
  (pss_cons (ps_for PassesOwn.never rfl (pi_or (pi_list (pv 0)) (pi_tup (pv 0))) (pg_name (i := 1) scare_readings.nd rfl (by first | exact Or.inl rfl | exact Or.inr rfl))
    (pss_cons (ps_if (PW.pt (pw_or (pt_not (pt_val (pe_callB call_isi (by rfl) B.isinstance (by decide +kernel) (pa_cons (pv 1) (pa_cons (pe_bltn (v := .ty "tuple") (by rfl) B.tuple (by decide +kernel) rfl) pa_nil))))) (pw_or1 (pt_cmpR op_ne (pe_callB call_len_seq (by rfl) B.len (by decide +kernel) (pa_cons (pv 1) pa_nil)) pe_int (nomark _)))))
    (pss_one (ps_ret pe_bl)) pss_nil)
  (pss_one (ps_if (PW.pt (pw_or (pt_not (pt_val (pe_call Ois_text (hr.mono (by decide)) rfl mis_text kis_text bis_text .nil pass0 (pa_cons (pe_ix ix_tup (pv 1) pe_int (fun _ _ => rfl)) pa_nil)))) (pw_or1 (pt_not (pt_val (pe_call Ois_times hr rfl mis_times kis_times bis_times .nil pass0 (pa_cons (pe_ix ix_tup (pv 1) pe_int (fun _ _ => rfl)) pa_nil)))))))
    (pss_one (ps_ret pe_bl)) pss_nil))))
  (pss_one (ps_ret pe_bl)))), ?_⟩
  refine ⟨_, rfl, v, d, rfl, hv, fun H1 hS1 => ⟨_, rfl, iteNB (fun h1 => ?_) fun h1 => ?_⟩⟩
  · have q := q H1 hS1
    cases d <;> first | exact q | cases h1
  obtain ⟨p, vs, es, rfl, hl, hes, er⟩ := listed_is hv h1
  rw [er] at q
  have hlen := hes.len
  have hl1 := hl.imp (hS1 _ _) (hS1 _ _)
  refine ⟨_, rfl, _, _, rfl, hl1.imp SqL.of SqT.of, _, _, rfl, rfl, _, rfl, ?_⟩
  by_cases h60 : es.length ≤ 60
  case neg =>
    have q := q H1 hS1
    rw [decide_eq_false h60, Bool.false_and] at q
    exact iteYes (by rw [hlen]; omega) q
  rw [decide_eq_true h60, Bool.true_and] at q
  refine iteNo (by rw [hlen]; omega) ?_
  rcases hl1 with hl1 | hl1
  case' inl => refine .inl ⟨_, rfl, p, rfl, ⟨_, SqL.of hl1⟩, for_list (K := K) (a := p) (xs := vs) (fun i σ H' => Same H1 H' ∧ (es.take i).all isOne = true ∧ ∃ v, σ = [some (.ref p), v]) ⟨fun b u e => e, rfl, none, rfl⟩ (fun i σ H' _ ⟨hS', _⟩ => SqL.of (hS' _ _ hl1)) ?_ ?_⟩
  case' inr => refine .inr ⟨_, rfl, p, rfl, ⟨_, SqT.of hl1⟩, for_tup (K := K) (a := p) (xs := vs) (fun i σ H' => Same H1 H' ∧ (es.take i).all isOne = true ∧ ∃ v, σ = [some (.ref p), v]) ⟨fun b u e => e, rfl, none, rfl⟩ (fun i σ H' _ ⟨hS', _⟩ => SqT.of (hS' _ _ hl1)) ?_ ?_⟩
  all_goals first
    | (rintro i x σ H2 hx ⟨hS2, hall, v, rfl⟩
       have hS12 := hS1.trans hS2
       obtain ⟨di, hdi, hvi⟩ := hes.at hx
       have hvi := hvi.same hS12
       have no : isOne di = false → Q (.bl false) H2 := fun z => by
         have := q H2 hS12
         rw [all_no hdi z] at this
         exact this
       refine ⟨_, rfl, _, _, _, _, _, rfl, .ty _, hvi.ty, kit_ty (kit_tup di), _, rfl, iteNB (fun k => no (by cases di <;> first | rfl | cases k)) (fun k => ?_)⟩
       cases hvi <;> first | cases k | skip
       rename_i t us ds ht hus
       have hul := hus.len
       refine ⟨_, rfl, _, _, rfl, .inr (SqT.of ht), rfl, _, rfl, ?_⟩
       by_cases h2 : us.length = 2
       · refine iteNS (by rw [h2]; rfl) ?_
         obtain ⟨u0, u1, rfl⟩ : ∃ u0 u1, us = [u0, u1] := by
           match us, h2 with
           | [a, b], _ => exact ⟨a, b, rfl⟩
         cases hus with
         | cons a hus =>
           cases hus with
           | cons b hus =>
             cases hus
             rename_i d0 d1
             refine ⟨_, rfl, _, _, _, u0, rfl, rfl, SqT.of ht, rfl, _, _, rfl, a, _, rfl, iteNB (fun k0 => no ?_) (fun k0 => ?_)⟩
             · show (isTx d0 && isTm d1) = false
               rw [k0, Bool.false_and]
             · refine ⟨_, rfl, _, _, _, u1, rfl, rfl, SqT.of ht, rfl, _, _, rfl, b, _, rfl, iteNB (fun k1 => no ?_) (fun k1 => ?_)⟩
               · show (isTx d0 && isTm d1) = false
                 rw [k1, Bool.and_false]
               · refine ⟨hS2, ?_, _, rfl⟩
                 rw [List.take_succ, hdi, List.all_append, hall]
                 show (true && (isOne (.tuple [d0, d1]) && true)) = true
                 show (true && ((isTx d0 && isTm d1) && true)) = true
                 rw [k0, k1]
                 rfl
       · refine iteNot (fun z => h2 ?_) (no ?_)
         · have := int_eq.mp z
           omega
         · cases ds with
           | nil => rfl
           | cons a ds =>
             cases ds with
             | nil => rfl
             | cons b ds =>
               cases ds with
               | nil => exact absurd (by rw [hul]; rfl) h2
               | cons c ds => rfl)
    | (rintro σ H2 ⟨hS2, hall, v, rfl⟩
       rw [hlen, List.take_length] at hall
       have := q H2 (hS1.trans hS2)
       rw [hall] at this
       exact this)
end
end My
set_option maxHeartbeats 4000000
namespace My
open PySem L2 PyProof.Rows
section
variable {P : Program} {w : World} {K : PySem.W.Frag} {mg : Str → Option Value} {base : Heap} {C CE : Addr}
def spLot___init__ (_ : PySem.W.Frag) (C CE : Addr) : Sp := fun vs H Q E => ∃ a dx s v d, vs = [.ref a, .int ((s : Nat) : Int), v] ∧ 2 ≤ s ∧ s ≤ 8 ∧ Vd H v d ∧ H a = some (.ins C dx []) ∧
  (∀ l L, v = .ref l → RdS H l L → areR d = true → ∀ H' tl, H tl = none → Kept a H H' → LotAt C a tl s (told (sumT [] L)) H' → Q .non H') ∧ (areR d = false → ∀ H1 dd, Same H H1 → H1 dd = none → E (.ref CE) (some dd) (upd H1 dd (.xd [("value", v)])))
theorem okLot___init__ (D : DefI K C "__init__" "Lot.__init__" sLot___init__ ["self", "size", "readings"]) (B : Bs mg) (Glb : Glo mg) (WK : WebK K mg C) (EXInvalidReadings : ExcV P w K mg base "InvalidReadings" CE) (EXe : PySem.W.exmOne K (.ref CE) (.ref CE) = some true) (kS : PySem.W.kitOne K (.ref C) (.type "str") = some false)
    (hneed_size : Good P w K mg base "need_size" sneed_size ["size"] 4 (spneed_size K C CE))
    (hare_readings : Good P w K mg base "are_readings" sare_readings ["value"] 4 (spare_readings K C CE))
    (h_times_together : Good P w K mg base "_times_together" s_times_together ["readings"] 1 (sp_times_together K C CE)) :
    GoodJX P w K mg base C "__init__" "Lot.__init__" sLot___init__ ["self", "size", "readings"] 5 (spLot___init__ K C CE) := by
  refine D.goodJX fun f fd F => ?_
  obtain ⟨fneed_size, dneed_size, Oneed_size, mneed_size, kneed_size, bneed_size, Fneed_size⟩ := hneed_size
  obtain ⟨fare_readings, dare_readings, Oare_readings, mare_readings, kare_readings, bare_readings, Fare_readings⟩ := hare_readings
  obtain ⟨f_times_together, d_times_together, O_times_together, m_times_together, k_times_together, b_times_together, F_times_together⟩ := h_times_together
  refine F.okX scLot___init__ (fun vs H Q E h => ?_) (fun cdv A outer s H vs Q E hr h => ?_)
  · obtain ⟨a, dx, s, v, d, rfl, hs1, hs2, hv, ha, q, qE⟩ := h
    first | rfl | (rcases h with ⟨_, _, rfl, _⟩ | ⟨_, rfl, _⟩ <;> rfl)
  obtain ⟨a, dx, s, v, d, rfl, hs1, hs2, hv, ha, q, qE⟩ := h
  refine ⟨_, (pss_cons (ps_expr (pe_call Oneed_size hr rfl mneed_size kneed_size bneed_size .nil pass0 (pa_cons (pv 1) pa_nil)))
  (pss_cons (ps_if (pt_not (pt_val (pe_call Oare_readings hr rfl mare_readings kare_readings bare_readings .nil pass0 (pa_cons (pv 2) pa_nil))))
    (pss_one (ps_raise rfl (takes_of rfl rfl rfl rfl) (pmk_val EXInvalidReadings (hr.mono (by decide)) (by rfl) (pa_cons (pv 2) pa_nil)))) pss_nil)
  (pss_cons (ps_fld (pv 0) (pv 1) rfl)
  (pss_one (ps_fld (pv 0) (pe_callB (cr_sortItK rfl hr.units) (by rfl) B.sorted (by decide +kernel) (pa_cons (pe_bm0 PySem.F.plainAttrs_dict PySem.F.slot_dict_items PySem.F.type_dict_items mt_itemsK (pe_call O_times_together (hr.mono (by decide)) rfl m_times_together k_times_together b_times_together .nil pass0 (pa_cons (pv 2) pa_nil))) pa_nil)) rfl))))), ?_⟩
  refine ⟨_, rfl, (s : Int), rfl, by omega, by omega, ?_⟩
  refine ⟨_, rfl, v, d, rfl, hv, fun H1 hS1 => ⟨_, rfl, iteNB (fun k => ?_) fun k => ?_⟩⟩
  · exact ⟨_, rfl, mkv fun dd ndd => qE k H1 dd hS1 ndd⟩
  · obtain ⟨l, L, rfl, hR, hlen, hok⟩ := areR_is hv k
    have q := q l L rfl hR k
    have ha1 := hS1 _ _ ha
    refine ⟨_, rfl, _, rfl, a, C, dx, [], rfl, ha1, WK.cl, WK.nS, (by decide), ?_⟩
    have hk2 : Kept a H (upd H1 a (.ins C dx (putF "_size" (.int (s : Int)) []))) := fun b o e n => by rw [upd_ne n]; exact hS1 _ _ e
    have ha2 : upd H1 a (.ins C dx (putF "_size" (.int (s : Int)) [])) a = some (.ins C dx (putF "_size" (.int (s : Int)) [])) := upd_same
    generalize upd H1 a (.ins C dx (putF "_size" (.int (s : Int)) [])) = H2 at hk2 ha2
    have ntup : ∀ p e, SIAt H p e → p ≠ a := fun p e hp => ne_of hp ha (by intro z; cases z)
    have hR2 : RdS H2 l L := by
      obtain ⟨ts, h1, h2⟩ := hR
      exact ⟨ts, h1.imp (fun h1 => hk2 _ _ h1 (ne_of h1 ha (by intro z; cases z))) (fun h1 => hk2 _ _ h1 (ne_of h1 ha (by intro z; cases z))), paired_mono (fun p e hp => hk2 _ _ hp (ntup p e hp)) h2⟩
    refine ⟨_, rfl, l, L, rfl, hR2, by omega, fun H3 d hS3 nd hd => ⟨.inr (.inr (.inl ⟨rfl, .inl ⟨_, hd⟩⟩)), d, _, rfl, rfl, hd, fun p0 np0 => ?_⟩⟩
    have hd2 : upd H3 p0 (DX.itemsO p0 d) d = some (.dK (dT (sumT [] L))) := same_new np0 _ _ _ hd
    refine ⟨p0, d, sumT [] L, rfl, upd_same, hd2, ?_, fun H4 tl us hS4 ntl htl hU => ?_⟩
    · have h1 := sumT_len L []
      simp at h1
      omega
    have hS24 : Same H2 H4 := fun b o e => hS4 _ _ (same_new np0 _ _ _ (hS3 _ _ e))
    have ha4 := hS24 _ _ ha2
    have ntl2 : H2 tl = none := hS3.free ((same_new (o := DX.itemsO p0 d) np0).free ntl)
    have ntla : tl ≠ a := fun z => by rw [z, ha2] at ntl2; cases ntl2
    refine ⟨_, rfl, a, C, dx, _, rfl, ha4, WK.cl, WK.nT, Nat.lt_of_le_of_lt (putF_len _ _ _) (by decide), ?_⟩
    refine q _ tl ?_ (fun b o e n => by rw [upd_ne n]; exact hS24 _ _ (hk2 _ _ e n)) ⟨dx, upd_same, us, by rw [upd_ne ntla]; exact htl, paired_mono (fun p e hp => ?_) hU⟩
    · cases z : H tl with
      | none => rfl
      | some o =>
        rw [hk2 _ _ z ntla] at ntl2
        cases ntl2
    · have npa : p ≠ a := ne_of hp ha4 (by intro z; cases z)
      show upd _ _ _ p = _
      rw [upd_ne npa]
      exact hp
def spLot_readings (_ : PySem.W.Frag) (C _ : Addr) : Sp := fun vs H Q _ => ∃ a tl s M, vs = [.ref a] ∧ LotAt C a tl s M H ∧ ∀ H' l, H l = none → Same H H' → RdAt H' l M → Q (.ref l) H'
theorem okLot_readings (D : DefM K C "readings" "Lot.readings" sLot_readings ["self"]) (B : Bs mg) (Glb : Glo mg) (WK : WebK K mg C) (EXInvalidReadings : ExcV P w K mg base "InvalidReadings" CE) (EXe : PySem.W.exmOne K (.ref CE) (.ref CE) = some true) (kS : PySem.W.kitOne K (.ref C) (.type "str") = some false) :
    GoodM P w K mg base C "readings" "Lot.readings" sLot_readings ["self"] 1 (spLot_readings K C CE) := by
  refine D.good fun f fd F => ?_
  refine F.ok scLot_readings (fun vs H Q E h => ?_) (fun cdv A outer s H vs Q E hr h => ?_)
  · obtain ⟨a, tl, s, M, rfl, ⟨dx, h1, ts, ht, hP⟩, q⟩ := h
    first | rfl | (rcases h with ⟨_, _, rfl, _⟩ | ⟨_, rfl, _⟩ <;> rfl)
  obtain ⟨a, tl, s, M, rfl, ⟨dx, h1, ts, ht, hP⟩, q⟩ := h
  refine ⟨_, (pss_one (ps_ret (pe_callTy call_list_of (by rfl) B.list (by decide +kernel) (pa_cons (pe_fld (pv 0) rfl) pa_nil)))), ?_⟩
  exact ⟨_, rfl, a, C, dx, _, _, rfl, h1, WK.cl, WK.nT, lf_T _ _, _, _, rfl, .inl (SqL.of ht), fun l nl => q _ l nl (same_new nl _) ⟨ts, upd_same, paired_mono (fun p e hp => same_new nl _ _ _ hp) hP⟩⟩
end
end My
set_option maxHeartbeats 4000000
namespace My
open PySem L2 PyProof.Rows
theorem line400 {n : Nat} (h : n ≤ 400) : n ≤ sizeLine := Nat.le_trans h (by decide)
theorem RdAt.len {H : Hp} {l : Addr} {L : List (Str × Int)} (h : RdAt H l L) : ∃ xs, H l = some (.lst xs) ∧ xs.length = L.length := by
  obtain ⟨ts, h1, h2⟩ := h
  exact ⟨_, h1, by rw [List.length_map]; exact paired_len h2⟩
/-- a text -/
structure OkT (x : Str) : Prop where
  len : x.length ≤ 400
  let_ : ∀ c ∈ x.cps.toList, 97 ≤ c ∧ c ≤ 122
def PotOk (x y : Int) : Prop := 0 ≤ x ∧ 0 ≤ y ∧ y < 2147483590
def PotAt (H : Hp) (a : Addr) : Prop := ∃ x y : Int, H a = some (.lst [.int x, .int y]) ∧ PotOk x y
theorem PotAt.new {H : Hp} {a p : Addr} {o : HO} (h : PotAt H a) (np : H p = none) : PotAt (upd H p o) a := by
  obtain ⟨x, y, e, h⟩ := h
  exact ⟨x, y, by rw [upd_ne (ne_of_none e np)]; exact e, h⟩
theorem PotAt.put {H : Hp} {a p : Addr} {o : HO} (h : PotAt H a) (np : p ≠ a) : PotAt (upd H p o) a := by
  obtain ⟨x, y, e, h⟩ := h
  exact ⟨x, y, by rw [upd_ne np.symm]; exact e, h⟩
theorem PotAt.same {H H' : Hp} {a : Addr} (h : PotAt H a) (s : Same H H') : PotAt H' a := by
  obtain ⟨x, y, e, h⟩ := h
  exact ⟨x, y, s _ _ e, h⟩
theorem PotAt.ne {H : Hp} {a p : Addr} (h : PotAt H a) (np : H p = none) : p ≠ a := by
  obtain ⟨x, y, e, h⟩ := h
  exact (ne_of_none e np).symm
theorem PotAt.ntup {H : Hp} {a p : Addr} {xs : List V} (h : PotAt H a) (hp : H p = some (.tup xs)) : p ≠ a := by
  obtain ⟨x, y, e, h⟩ := h
  exact ne_of hp e (by intro q; cases q)
theorem Kept.new {H H' : Hp} {a p : Addr} {o : HO} (h : Kept a H H') (np : H' p = none) : Kept a H (upd H' p o) := h.trans (Same.kept (same_new np o))
theorem Kept.put {H H' : Hp} {a p : Addr} {o : HO} (h : Kept a H H') (np : H p = none) : Kept a H (upd H' p o) := fun b u e n => by
  rw [upd_ne (ne_of_none e np)]
  exact h b u e n
theorem RdAt.new {H : Hp} {l p : Addr} {L : List (Str × Int)} {o : HO} (h : RdAt H l L) (np : H p = none) : RdAt (upd H p o) l L := h.same (same_new np o)
theorem RdAt.kept {H H' : Hp} {a l : Addr} {L : List (Str × Int)} (h : RdAt H l L) (k : Kept a H H') (hp : PotAt H a) (hn : l ≠ a) : RdAt H' l L := by
  obtain ⟨ts, h1, h2⟩ := h
  exact ⟨ts, k _ _ h1 hn, paired_mono (fun p e hq => k _ _ hq (hp.ntup hq)) h2⟩
theorem RdAt.nil {H : Hp} {p : Addr} : RdAt (upd H p (.lst [])) p [] := ⟨[], upd_same, .nil⟩
theorem paired_end {α β : Type} {F : α → β → Prop} {a : α} {b : β} : ∀ {l1 : List α} {l2 : List β}, Paired F l1 l2 → F a b → Paired F (l1 ++ [a]) (l2 ++ [b])
  | _, _, .nil, h => .cons h .nil
  | _, _, .cons r t, h => .cons r (paired_end t h)
theorem RdAt.push {H : Hp} {p tp : Addr} {L : List (Str × Int)} {x : Str} {n : Int} (h : RdAt H p L) (nt : H tp = none) :
    ∃ xs, (upd H tp (.tup [.str x, .int n])) p = some (.lst xs) ∧ xs.length = L.length ∧ RdAt (upd (upd H tp (.tup [.str x, .int n])) p (.lst (xs ++ [.ref tp]))) p (L ++ [(x, n)]) := by
  obtain ⟨ts, h1, h2⟩ := h
  have npt : p ≠ tp := ne_of_none h1 nt
  refine ⟨ts.map V.ref, by rw [upd_ne npt]; exact h1, by rw [List.length_map]; exact paired_len h2, ts ++ [tp], by rw [upd_same, List.map_append]; rfl, paired_end (paired_mono (fun q e hq => ?_) h2) ?_⟩
  · have nqp : q ≠ p := ne_of hq h1 (by intro z; cases z)
    show upd _ _ _ q = _
    rw [upd_ne nqp, upd_ne (ne_of_none hq nt)]
    exact hq
  · show upd _ _ _ tp = _
    rw [upd_ne npt.symm, upd_same]
/-- a text of the law's own -/
structure OkL (x : Str) : Prop where
  ok : OkT x
  few : ∀ c ∈ x.cps.toList, c ≤ 99
theorem okT_nil : OkL (Str.ofString "") := ⟨⟨by decide +kernel, by decide +kernel⟩, by decide +kernel⟩
theorem str_app_len (x y : Str) : (x ++ y : Str).length = x.length + y.length := Array.size_append
theorem okT_app {x y : Str} (h : OkL x) (k : OkL y) (hl : x.length + y.length ≤ 400) : OkL (x ++ y) := by
  have mem : ∀ c ∈ (x ++ y : Str).cps.toList, c ∈ x.cps.toList ∨ c ∈ y.cps.toList := fun c hc => by
    have : c ∈ x.cps.toList ++ y.cps.toList := by
      rw [← Array.toList_append]
      exact hc
    exact List.mem_append.mp this
  refine ⟨⟨by rw [str_app_len]; exact hl, fun c hc => ?_⟩, fun c hc => ?_⟩
  · exact (mem c hc).elim (h.ok.let_ c) (k.ok.let_ c)
  · exact (mem c hc).elim (h.few c) (k.few c)
theorem okT_one {v : V} (h : v ∈ [V.str (Str.ofString "a"), V.str (Str.ofString "b"), V.str (Str.ofString "a"), V.str (Str.ofString "c")]) : ∃ x, v = .str x ∧ OkL x ∧ x.length = 1 := by
  simp only [List.mem_cons, List.not_mem_nil, or_false] at h
  rcases h with rfl | rfl | rfl | rfl
  · exact ⟨_, rfl, ⟨⟨by decide +kernel, by decide +kernel⟩, by decide +kernel⟩, by decide +kernel⟩
  · exact ⟨_, rfl, ⟨⟨by decide +kernel, by decide +kernel⟩, by decide +kernel⟩, by decide +kernel⟩
  · exact ⟨_, rfl, ⟨⟨by decide +kernel, by decide +kernel⟩, by decide +kernel⟩, by decide +kernel⟩
  · exact ⟨_, rfl, ⟨⟨by decide +kernel, by decide +kernel⟩, by decide +kernel⟩, by decide +kernel⟩
section
variable {P : Program} {w : World} {K : PySem.W.Frag} {mg : Str → Option Value} {base : Heap} {C CE : Addr}
def sp_law_pot (K : PySem.W.Frag) (_ _ : Addr) : Sp := fun vs H Q _ => ∃ a, ∃ ns : List Int, vs = [.ref a, .int 0] ∧ SqL K H a (ns.map V.int) ∧ ∀ p H', PotAt H' p → Same H H' → H p = none → Q (.ref p) H'
theorem ok_law_pot (D : Def K mg "_law_pot" s_law_pot ["_law_script", "_law_k"]) (B : Bs mg) (Glb : Glo mg) (WK : WebK K mg C) (EXInvalidReadings : ExcV P w K mg base "InvalidReadings" CE) (EXe : PySem.W.exmOne K (.ref CE) (.ref CE) = some true) (kS : PySem.W.kitOne K (.ref C) (.type "str") = some false) :
    Good P w K mg base "_law_pot" s_law_pot ["_law_script", "_law_k"] 1 (sp_law_pot K C CE) := by
  refine D.good fun f fd F => ?_
  refine F.ok sc_law_pot (fun vs H Q E h => ?_) (fun cdv A outer s H vs Q E hr h => ?_)
  · obtain ⟨a, ns, rfl, hS, q⟩ := h
    first | rfl | (rcases h with ⟨_, _, rfl, _⟩ | ⟨_, rfl, _⟩ <;> rfl)
  obtain ⟨a, ns, rfl, hS, q⟩ := h
  refine ⟨_, (pss_cons (ps_set (i := 2) sc_law_pot.nd rfl (by first | exact Or.inl rfl | exact Or.inr rfl) (pe_ifExp (pt_cmpR op_lt (pv 1) (pe_callB call_len_seq (by rfl) B.len (by decide +kernel) (pa_cons (pv 0) pa_nil)) (nomark _)) (pe_callB call_abs (by rfl) B.abs (by decide +kernel) (pa_cons (pe_ix ix_list (pv 0) (pv 1) (fun _ _ => rfl)) pa_nil)) (pe_op op_add (pe_op op_mul pe_int (pv 1)) pe_int)))
  (pss_one (ps_ret (pe_lst (pa_cons (pe_callB (call_max2 rfl) (by rfl) B.max (by decide +kernel) (pa_cons pe_int (pa_cons (pe_op op_sub (pv 2) (pe_op op_pow pe_int pe_int)) pa_nil))) (pa_cons (pe_op op_add (pe_op op_mod (pe_callTy call_int1 (by rfl) B.int (by decide +kernel) (pa_cons (pe_op op_add (pe_op op_add (pe_op op_mul (pe_op op_mod (pe_callTy call_int1 (by rfl) B.int (by decide +kernel) (pa_cons (pv 2) pa_nil)) pe_int) pe_int) (pe_op op_mul pe_int (pv 1))) pe_int) pa_nil)) pe_int) pe_int) pa_nil)))))), ?_⟩
  refine ⟨_, rfl, _, rfl, _, _, rfl, .inl hS, _, _, rfl, rfl, _, rfl, ?_⟩
  refine ite2 (fun c1 => ?pos) (fun c1 => ?neg)
  case' pos =>
    obtain ⟨n, rest, rfl⟩ : ∃ n rest, ns = n :: rest := by
      cases ns with
      | nil => exact absurd (of_decide_eq_true c1) (by decide)
      | cons n rest => exact ⟨n, rest, rfl⟩
    refine ⟨_, rfl, _, rfl, _, _, _, .int n, rfl, rfl, hS, atI_nat (j := 0) rfl, _, rfl, ?_⟩
    have hz0 : (0 : Int) ≤ (if n < 0 then -n else n) := by split <;> omega
  case' neg =>
    refine ⟨_, rfl, _, _, rfl, rfl, .inl ⟨by decide, by decide⟩, _, _, rfl, rfl, ?_⟩
    have hz0 : (0 : Int) ≤ (1051 * 0 + 821) := by decide
  all_goals
    refine ⟨_, rfl, _, _, rfl, rfl, ⟨by decide, by decide, by decide⟩, _, _, rfl, rfl, _, _, rfl, _, rfl, .inl ⟨_, rfl, _, _, rfl, rfl, (by show (0 : Int) < 2147483477; decide), _, _, rfl, rfl, .inl ⟨?_, ?_⟩, _, rfl, _, _, rfl, rfl, .inl ⟨by decide, by decide⟩, _, _, rfl, rfl, _, _, rfl, rfl, .inl ⟨_, rfl, _, _, rfl, rfl, (by show (0 : Int) < 2147483579; decide), _, _, rfl, rfl, (by show 2 ≤ sizeLine; decide), fun p np => q p _ ⟨_, _, upd_same, ?_, ?_, ?_⟩ (same_new np _) np⟩⟩⟩
    · omega
    · omega
    · split <;> omega
    · omega
    · omega
def sp_law_draw (_ : PySem.W.Frag) (_ _ : Addr) : Sp := fun vs H Q _ => ∃ a n, vs = [.ref a, .int ((n : Nat) : Int)] ∧ PotAt H a ∧ 0 < n ∧ n ≤ 1000 ∧ ∀ (d : Nat) H', d < n → Kept a H H' → PotAt H' a → Q (.int (d : Int)) H'
theorem ok_law_draw (D : Def K mg "_law_draw" s_law_draw ["_law_pot_here", "_law_size"]) (B : Bs mg) (Glb : Glo mg) (WK : WebK K mg C) (EXInvalidReadings : ExcV P w K mg base "InvalidReadings" CE) (EXe : PySem.W.exmOne K (.ref CE) (.ref CE) = some true) (kS : PySem.W.kitOne K (.ref C) (.type "str") = some false) :
    Good P w K mg base "_law_draw" s_law_draw ["_law_pot_here", "_law_size"] 1 (sp_law_draw K C CE) := by
  refine D.good fun f fd F => ?_
  refine F.ok sc_law_draw (fun vs H Q E h => ?_) (fun cdv A outer s H vs Q E hr h => ?_)
  · obtain ⟨a, n, rfl, ⟨x, y, ha, hx, hy, hy2⟩, hn, hn2, q⟩ := h
    first | rfl | (rcases h with ⟨_, _, rfl, _⟩ | ⟨_, rfl, _⟩ <;> rfl)
  obtain ⟨a, n, rfl, ⟨x, y, ha, hx, hy, hy2⟩, hn, hn2, q⟩ := h
  refine ⟨_, (pss_cons (ps_if (pt_cmpR op_gt (pe_ix ix_list (pv 0) pe_int (fun _ _ => rfl)) pe_int (nomark _))
    (pss_cons (ps_asg (pe_callB call_divmod (by rfl) B.divmod (by decide +kernel) (pa_cons (pe_ix ix_list (pv 0) pe_int (fun _ _ => rfl)) (pa_cons (pv 1) pa_nil))) (pg_tup rfl (pgs_cons (pg_sub (pv 0) pe_int set_list) (pgs_cons (pg_name (i := 2) sc_law_draw.nd rfl (by first | exact Or.inl rfl | exact Or.inr rfl)) pgs_nil))))
  (pss_one (ps_ret (pv 2)))) pss_nil)
  (pss_cons (ps_asg (pe_op op_mod (pe_callTy call_int1 (by rfl) B.int (by decide +kernel) (pa_cons (pe_op op_add (pe_op op_mul (pe_ix ix_list (pv 0) pe_int (fun _ _ => rfl)) pe_int) pe_int) pa_nil)) pe_int) (pg_sub (pv 0) pe_int set_list))
  (pss_one (ps_ret (pe_op op_mod (pe_callTy call_int1 (by rfl) B.int (by decide +kernel) (pa_cons (pe_op op_fdiv (pe_op op_mod (pe_callTy call_int1 (by rfl) B.int (by decide +kernel) (pa_cons (pe_op op_mul (pe_ix ix_list (pv 0) pe_int (fun _ _ => rfl)) (pe_ix ix_list (pv 0) pe_int (fun _ _ => rfl))) pa_nil)) pe_int) pe_int) pa_nil)) (pv 1)))))), ?_⟩
  refine ⟨_, rfl, _, _, _, .int x, rfl, rfl, SqL.of ha, rfl, _, _, rfl, rfl, _, rfl, ?_⟩
  refine ite2 (fun c1 => ?_) (fun c1 => ?_)
  · have hpos : (0 : Int) < x := of_decide_eq_true c1
    refine ⟨_, rfl, _, _, _, .int x, rfl, rfl, SqL.of ha, rfl, _, rfl, _, _, rfl, ⟨by omega, by omega⟩, fun p np => ?_⟩
    have hpa : a ≠ p := ne_of_none ha np
    have ha' : (upd H p (.tup [.int (x / (n : Int)), .int (x % (n : Int))])) a = some (.lst [.int x, .int y]) := by
      rw [upd_ne hpa]
      exact ha
    have ed : (((x % (n : Int)).toNat : Nat) : Int) = x % (n : Int) := Int.toNat_of_nonneg (Int.emod_nonneg _ (by omega))
    have el := Int.emod_lt_of_pos x (show (0 : Int) < (n : Int) by omega)
    refine ⟨_, _, rfl, SqT.of upd_same, rfl, _, _, rfl, _, rfl, _, _, _, 0, rfl, rfl, ha', rfl, _, _, rfl, rfl, ?_⟩
    refine ⟨_, rfl, ?_⟩
    have := q (x % (n : Int)).toNat (upd (upd H p (.tup [.int (x / (n : Int)), .int (x % (n : Int))])) a (.lst [.int (x / (n : Int)), .int y])) (by omega) (fun b o e nb => by rw [upd_ne nb, upd_ne (ne_of_none e np)]; exact e)
      ⟨_, _, upd_same, Int.ediv_nonneg hx (by omega), hy, hy2⟩
    rw [ed] at this
    exact this
  · refine ⟨_, rfl, _, _, _, .int y, rfl, rfl, SqL.of ha, rfl, _, _, rfl, rfl, .inl ⟨by omega, by omega⟩, _, _, rfl, rfl, .inl ⟨_, rfl, _, _, rfl, rfl, (by show (0 : Int) < 2147483579; decide), _, rfl, _, _, _, 1, rfl, rfl, ha, rfl, ?_⟩⟩
    have hz0 : (0 : Int) ≤ (y * 40849 + 31319) % 2147483579 := by omega
    have hz1 : (y * 40849 + 31319) % 2147483579 < (2147483579 : Int) := by omega
    refine ⟨_, rfl, _, _, _, .int ((y * 40849 + 31319) % 2147483579), rfl, rfl, SqL.of upd_same, rfl, _, rfl, _, _, _, .int ((y * 40849 + 31319) % 2147483579), rfl, rfl, SqL.of upd_same, rfl, _, _, rfl, rfl, .inl ⟨by omega, by omega⟩, .inl ⟨_, rfl, _, _, rfl, rfl, (by show (0 : Int) < 2147483477; decide), _, _, rfl, rfl, ⟨by decide, by decide⟩, .inl ⟨_, rfl, _, rfl, _, _, rfl, rfl, (by show (0 : Int) < (n : Int); omega), ?_⟩⟩⟩
    have fin : ∀ z : Int, 0 ≤ z → z < 2147483579 → Q (V.int (z * z % 2147483477 / 23 % (n : Int))) (upd H a (.lst [.int x, .int z])) := fun z hz0 hz1 => by
      have ed : (((z * z % 2147483477 / 23 % (n : Int)).toNat : Nat) : Int) = z * z % 2147483477 / 23 % (n : Int) := Int.toNat_of_nonneg (Int.emod_nonneg _ (by omega))
      have el := Int.emod_lt_of_pos (z * z % 2147483477 / 23) (show (0 : Int) < (n : Int) by omega)
      have := q (z * z % 2147483477 / 23 % (n : Int)).toNat (upd H a (.lst [.int x, .int z])) (by omega) (fun b o e nb => by rw [upd_ne nb]; exact e) ⟨_, _, upd_same, hx, hz0, by omega⟩
      rw [ed] at this
      exact this
    exact fin _ hz0 hz1
def sp_law_pick (K : PySem.W.Frag) (_ _ : Addr) : Sp := fun vs H Q _ => ∃ a l, ∃ xs : List V, vs = [.ref a, .ref l] ∧ H l = some (.lst xs) ∧ l ≠ a ∧ 0 < xs.length ∧ xs.length ≤ 1000 ∧ PotAt H a ∧ ∀ v H', v ∈ xs → Kept a H H' → PotAt H' a → Q v H'
theorem ok_law_pick (D : Def K mg "_law_pick" s_law_pick ["_law_pot_here", "_law_some"]) (B : Bs mg) (Glb : Glo mg) (WK : WebK K mg C) (EXInvalidReadings : ExcV P w K mg base "InvalidReadings" CE) (EXe : PySem.W.exmOne K (.ref CE) (.ref CE) = some true) (kS : PySem.W.kitOne K (.ref C) (.type "str") = some false)
    (h_law_draw : Good P w K mg base "_law_draw" s_law_draw ["_law_pot_here", "_law_size"] 1 (sp_law_draw K C CE)) :
    Good P w K mg base "_law_pick" s_law_pick ["_law_pot_here", "_law_some"] 2 (sp_law_pick K C CE) := by
  refine D.good fun f fd F => ?_
  obtain ⟨f_law_draw, d_law_draw, O_law_draw, m_law_draw, k_law_draw, b_law_draw, F_law_draw⟩ := h_law_draw
  refine F.ok sc_law_pick (fun vs H Q E h => ?_) (fun cdv A outer s H vs Q E hr h => ?_)
  · obtain ⟨a, l, xs, rfl, hl, hla, h0, hlen, hp, q⟩ := h
    first | rfl | (rcases h with ⟨_, _, rfl, _⟩ | ⟨_, rfl, _⟩ <;> rfl)
  obtain ⟨a, l, xs, rfl, hl, hla, h0, hlen, hp, q⟩ := h
  refine ⟨_, (pss_one (ps_ret (pe_ix ix_list (pv 1) (pe_call O_law_draw hr rfl m_law_draw k_law_draw b_law_draw .nil pass0 (pa_cons (pv 0) (pa_cons (pe_callB call_len_seq (by rfl) B.len (by decide +kernel) (pa_cons (pv 1) pa_nil)) pa_nil))) (fun _ _ => rfl)))), ?_⟩
  refine ⟨_, rfl, _, rfl, _, rfl, _, _, rfl, .inl (SqL.of hl), a, xs.length, rfl, hp, h0, hlen, fun d H' hd hk hp' => ?_⟩
  exact ⟨_, _, _, _, rfl, rfl, SqL.of (hk l _ hl hla), atI_nat (List.getElem?_eq_getElem hd), q _ H' (List.getElem_mem hd) hk hp'⟩
def sp_law_text (_ : PySem.W.Frag) (_ _ : Addr) : Sp := fun vs H Q _ => ∃ a m, vs = [.ref a, .int ((m : Nat) : Int)] ∧ PotAt H a ∧ m ≤ 10 ∧ ∀ x H', OkL x → x.length ≤ m → Kept a H H' → PotAt H' a → Q (.str x) H'
theorem ok_law_text (D : Def K mg "_law_text" s_law_text ["_law_pot_here", "_law_most"]) (B : Bs mg) (Glb : Glo mg) (WK : WebK K mg C) (EXInvalidReadings : ExcV P w K mg base "InvalidReadings" CE) (EXe : PySem.W.exmOne K (.ref CE) (.ref CE) = some true) (kS : PySem.W.kitOne K (.ref C) (.type "str") = some false)
    (h_law_draw : Good P w K mg base "_law_draw" s_law_draw ["_law_pot_here", "_law_size"] 1 (sp_law_draw K C CE))
    (h_law_pick : Good P w K mg base "_law_pick" s_law_pick ["_law_pot_here", "_law_some"] 2 (sp_law_pick K C CE)) :
    Good P w K mg base "_law_text" s_law_text ["_law_pot_here", "_law_most"] 3 (sp_law_text K C CE) := by
  refine D.good fun f fd F => ?_
  obtain ⟨f_law_draw, d_law_draw, O_law_draw, m_law_draw, k_law_draw, b_law_draw, F_law_draw⟩ := h_law_draw
  obtain ⟨f_law_pick, d_law_pick, O_law_pick, m_law_pick, k_law_pick, b_law_pick, F_law_pick⟩ := h_law_pick
  refine F.ok sc_law_text (fun vs H Q E h => ?_) (fun cdv A outer s H vs Q E hr h => ?_)
  · obtain ⟨a, m, rfl, hp, hm, q⟩ := h
    first | rfl | (rcases h with ⟨_, _, rfl, _⟩ | ⟨_, rfl, _⟩ <;> rfl)
  obtain ⟨a, m, rfl, hp, hm, q⟩ := h
  refine ⟨_, (pss_cons (ps_set (i := 2) sc_law_text.nd rfl (by first | exact Or.inl rfl | exact Or.inr rfl) pe_str)
  (pss_cons (ps_for PassesOwn.never rfl (pi_range1 (by rfl) B.range (pa_cons (pe_call O_law_draw (hr.mono (by decide)) rfl m_law_draw k_law_draw b_law_draw .nil pass0 (pa_cons (pv 0) (pa_cons (pe_op op_add (pv 1) pe_int) pa_nil))) pa_nil)) (pg_name (i := 3) sc_law_text.nd rfl (by first | exact Or.inl rfl | exact Or.inr rfl))
    (pss_one (ps_set (i := 2) sc_law_text.nd rfl (by first | exact Or.inl rfl | exact Or.inr rfl) (pe_op op_add_str (pv 2) (pe_call O_law_pick hr rfl m_law_pick k_law_pick b_law_pick .nil pass0 (pa_cons (pv 0) (pa_cons (pe_lst (pa_cons pe_str (pa_cons pe_str (pa_cons pe_str (pa_cons pe_str pa_nil))))) pa_nil)))))))
  (pss_one (ps_ret (pv 2))))), ?_⟩
  refine ⟨_, rfl, _, rfl, _, _, rfl, rfl, a, m + 1, rfl, hp, by omega, by omega, fun d H1 hd hk1 hp1 => ⟨_, rfl, by omega, by omega, ?_⟩⟩
  refine for_range (lo := 0) (n := d) (fun i σ H' => ∃ (v : Option V) (x : Str), σ = [some (.ref a), some (.int (m : Int)), some (.str x), v] ∧ x.length = i ∧ OkL x ∧ Kept a H H' ∧ PotAt H' a) ?_ ?_ ?_
  · exact ⟨none, _, rfl, by decide +kernel, okT_nil, hk1, hp1⟩
  · rintro i σ H2 hi ⟨v, x, rfl, hlen, hx, hk, hpp⟩
    refine ⟨_, rfl, _, rfl, (by show 4 ≤ sizeLine; decide), fun p np => ?_⟩
    have hpl : upd H2 p (.lst [V.str (Str.ofString "a"), V.str (Str.ofString "b"), V.str (Str.ofString "a"), V.str (Str.ofString "c")]) p = some (.lst [V.str (Str.ofString "a"), V.str (Str.ofString "b"), V.str (Str.ofString "a"), V.str (Str.ofString "c")]) := upd_same
    refine ⟨a, p, _, rfl, hpl, hpp.ne np, by simp, by simp, hpp.new np, fun y H3 hy hk3 hp3 => ?_⟩
    obtain ⟨z, rfl, hz, hz1⟩ := okT_one hy
    refine ⟨_, _, rfl, rfl, ?_, ?_⟩
    · rw [hlen, hz1]
      exact Nat.le_trans (by omega : i + 1 ≤ 400) (by decide)
    · exact ⟨_, x ++ z, rfl, by rw [str_app_len, hlen, hz1], okT_app hx hz (by omega), (hk.new np).trans hk3, hp3⟩
  · rintro σ H2 ⟨v, x, rfl, hlen, hx, hk, hpp⟩
    exact ⟨_, rfl, q x H2 hx (by omega) hk hpp⟩
def sp_law_readings (_ : PySem.W.Frag) (_ _ : Addr) : Sp := fun vs H Q _ => ∃ a m, vs = [.ref a, .int ((m : Nat) : Int)] ∧ PotAt H a ∧ m ≤ 10 ∧ ∀ l L H', L.length = m → (∀ e ∈ L, OkL e.1 ∧ e.1.length ≤ 5 ∧ 1 ≤ e.2 ∧ e.2 ≤ 20) → Kept a H H' → PotAt H' a → H l = none → RdAt H' l L → Q (.ref l) H'
theorem ok_law_readings (D : Def K mg "_law_readings" s_law_readings ["_law_pot_here", "_law_many"]) (B : Bs mg) (Glb : Glo mg) (WK : WebK K mg C) (EXInvalidReadings : ExcV P w K mg base "InvalidReadings" CE) (EXe : PySem.W.exmOne K (.ref CE) (.ref CE) = some true) (kS : PySem.W.kitOne K (.ref C) (.type "str") = some false)
    (h_law_text : Good P w K mg base "_law_text" s_law_text ["_law_pot_here", "_law_most"] 3 (sp_law_text K C CE))
    (h_law_draw : Good P w K mg base "_law_draw" s_law_draw ["_law_pot_here", "_law_size"] 1 (sp_law_draw K C CE)) :
    Good P w K mg base "_law_readings" s_law_readings ["_law_pot_here", "_law_many"] 4 (sp_law_readings K C CE) := by
  refine D.good fun f fd F => ?_
  obtain ⟨f_law_text, d_law_text, O_law_text, m_law_text, k_law_text, b_law_text, F_law_text⟩ := h_law_text
  obtain ⟨f_law_draw, d_law_draw, O_law_draw, m_law_draw, k_law_draw, b_law_draw, F_law_draw⟩ := h_law_draw
  refine F.ok sc_law_readings (fun vs H Q E h => ?_) (fun cdv A outer s H vs Q E hr h => ?_)
  · obtain ⟨a, m, rfl, hp, hm, q⟩ := h
    first | rfl | (rcases h with ⟨_, _, rfl, _⟩ | ⟨_, rfl, _⟩ <;> rfl)
  obtain ⟨a, m, rfl, hp, hm, q⟩ := h
  refine ⟨_, (pss_cons (ps_set (i := 2) sc_law_readings.nd rfl (by first | exact Or.inl rfl | exact Or.inr rfl) (pe_lst pa_nil))
  (pss_cons (ps_for PassesOwn.never rfl (pi_range1 (by rfl) B.range (pa_cons (pv 1) pa_nil)) (pg_name (i := 3) sc_law_readings.nd rfl (by first | exact Or.inl rfl | exact Or.inr rfl))
    (pss_one (ps_expr (pe_bm PySem.F.plainAttrs_list PySem.F.slot_list_append PySem.F.type_list_append mt_append (pv 2) (pa_cons (pe_tup (pa_cons (pe_call O_law_text hr rfl m_law_text k_law_text b_law_text .nil pass0 (pa_cons (pv 0) (pa_cons pe_int pa_nil))) (pa_cons (pe_op op_add pe_int (pe_call O_law_draw (hr.mono (by decide)) rfl m_law_draw k_law_draw b_law_draw .nil pass0 (pa_cons (pv 0) (pa_cons pe_int pa_nil)))) pa_nil))) pa_nil)))))
  (pss_one (ps_ret (pv 2))))), ?_⟩
  refine ⟨Nat.zero_le _, fun l nl => ?_⟩
  have hla : l ≠ a := hp.ne nl
  refine ⟨_, rfl, _, rfl, by omega, by omega, ?_⟩
  refine for_range (lo := 0) (n := m) (fun i σ H' => ∃ (v : Option V) (L : List (Str × Int)), σ = [some (.ref a), some (.int (m : Int)), some (.ref l), v] ∧ L.length = i ∧ (∀ e ∈ L, OkL e.1 ∧ e.1.length ≤ 5 ∧ 1 ≤ e.2 ∧ e.2 ≤ 20) ∧ Kept a H H' ∧ PotAt H' a ∧ RdAt H' l L) ?_ ?_ ?_
  · exact ⟨none, [], rfl, rfl, by simp, Same.kept (same_new nl _), hp.new nl, RdAt.nil⟩
  · rintro i σ H2 hi ⟨v, L, rfl, hlen, hL, hk, hpp, hT⟩
    obtain ⟨xs0, hxs0, _⟩ := hT.len
    refine ⟨_, rfl, .inl ⟨rfl, _, SqL.of hxs0⟩, _, rfl, a, 5, rfl, hpp, by decide, fun x H3 hx hx5 hk3 hp3 => ⟨_, rfl, a, 20, rfl, hp3, by decide, by decide, fun d H4 hd hk4 hp4 => ⟨_, _, rfl, rfl, (by show 2 ≤ sizeLine; decide), fun tp ntp => ?_⟩⟩⟩
    have hT4 := (hT.kept hk3 hpp hla).kept hk4 hp3 hla
    obtain ⟨xs, g1, g2, g3⟩ := hT4.push (x := x) (n := 1 + (d : Int)) ntp
    refine ⟨l, _, _, rfl, rfl, g1, by rw [g2, hlen]; exact Nat.lt_of_le_of_lt (by omega : i ≤ 100) (by decide), ?_⟩
    refine ⟨_, L ++ [(x, 1 + (d : Int))], rfl, by rw [List.length_append, hlen]; rfl, fun e he => ?_, (((hk.trans hk3).trans hk4).new ntp).put nl, (hp4.new ntp).put hla, g3⟩
    rcases List.mem_append.mp he with h | h
    · exact hL e h
    · rw [List.mem_singleton.mp h]
      exact ⟨hx, hx5, by show 1 ≤ 1 + (d : Int); omega, by show 1 + (d : Int) ≤ 20; omega⟩
  · rintro σ H2 ⟨v, L, rfl, hlen, hL, hk, hpp, hT⟩
    exact ⟨_, rfl, q l L H2 hlen hL hk hpp nl hT⟩
def sp_law_times (_ : PySem.W.Frag) (_ _ : Addr) : Sp := fun vs H Q _ => ∃ l L, vs = [.ref l] ∧ RdS H l L ∧ L.length ≤ 1000 ∧ ∀ H' d, Same H H' → H d = none → H' d = some (.dK (dT (sumT [] L))) → Q (.ref d) H'
theorem ok_law_times (D : Def K mg "_law_times" s_law_times ["_law_readings_here"]) (B : Bs mg) (Glb : Glo mg) (WK : WebK K mg C) (EXInvalidReadings : ExcV P w K mg base "InvalidReadings" CE) (EXe : PySem.W.exmOne K (.ref CE) (.ref CE) = some true) (kS : PySem.W.kitOne K (.ref C) (.type "str") = some false) :
    Good P w K mg base "_law_times" s_law_times ["_law_readings_here"] 1 (sp_law_times K C CE) := by
  refine D.good fun f fd F => ?_
  refine F.ok sc_law_times (fun vs H Q E h => ?_) (fun cdv A outer s H vs Q E hr h => ?_)
  · obtain ⟨l, L, rfl, ⟨ts, hl, hP⟩, hlen, q⟩ := h
    first | rfl | (rcases h with ⟨_, _, rfl, _⟩ | ⟨_, rfl, _⟩ <;> rfl)
  obtain ⟨l, L, rfl, ⟨ts, hl, hP⟩, hlen, q⟩ := h
  refine ⟨_, (pss_cons (ps_set (i := 1) sc_law_times.nd rfl (by first | exact Or.inl rfl | exact Or.inr rfl) pe_dnewK)
  (pss_cons (ps_for PassesOwn.never rfl (pi_or (pi_list (pv 0)) (pi_tup (pv 0))) (pg_tup rfl (pgs_cons (pg_name (i := 2) sc_law_times.nd rfl (by first | exact Or.inl rfl | exact Or.inr rfl)) (pgs_cons (pg_name (i := 3) sc_law_times.nd rfl (by first | exact Or.inl rfl | exact Or.inr rfl)) pgs_nil)))
    (pss_one (ps_dput (hu_of hr) (pv 1) (pv 2) (pe_op op_add (pe_dget2 (hu_of hr) (pv 1) (pv 2) pe_int ⟨rfl, rfl, rfl, rfl⟩) (pv 3)) rfl)))
  (pss_one (ps_ret (pv 1))))), ?_⟩
  intro d nd
  rcases hl with hl | hl
  case' inl => refine .inl ⟨_, rfl, l, rfl, ⟨_, SqL.of (same_new nd _ _ _ hl)⟩, for_list (K := K) (a := l) (xs := ts.map V.ref) (fun i σ H' => ∃ v2 v3 : Option V, σ = [some (.ref l), some (.ref d), v2, v3] ∧ Same H H' ∧ H' d = some (.dK (dT (sumT [] (L.take i))))) ⟨none, none, rfl, same_new nd _, upd_same⟩ (fun i σ H' _ ⟨_, _, _, hS', _⟩ => SqL.of (hS' _ _ hl)) ?_ ?_⟩
  case' inr => refine .inr ⟨_, rfl, l, rfl, ⟨_, SqT.of (same_new nd _ _ _ hl)⟩, for_tup (K := K) (a := l) (xs := ts.map V.ref) (fun i σ H' => ∃ v2 v3 : Option V, σ = [some (.ref l), some (.ref d), v2, v3] ∧ Same H H' ∧ H' d = some (.dK (dT (sumT [] (L.take i))))) ⟨none, none, rfl, same_new nd _, upd_same⟩ (fun i σ H' _ ⟨_, _, _, hS', _⟩ => SqT.of (hS' _ _ hl)) ?_ ?_⟩
  all_goals first
    | (rintro i x σ H1 hx ⟨v2, v3, rfl, hS, hd⟩
       obtain ⟨p, e, rfl, he, hpe⟩ := si_at hP hx
       have hp1 : H1 p = some (.tup [.str e.1, .int e.2]) := hS _ _ hpe
       refine ⟨p, _, rfl, SqT.of hp1, rfl, _, _, rfl, _, _, rfl, rfl, ?_⟩
       have hget : DGet H1 d (.str e.1) (valV (dT (sumT [] (L.take i))) (Sum.inr e.1 : Key)) := DGet.k (k := Sum.inr e.1) hd
       have hlt : (dT (sumT [] (L.take i))).length < sizeLine := by
         have h1 := sumT_len (L.take i) []
         rw [List.length_take] at h1
         rw [List.length_map]
         exact Nat.lt_of_le_of_lt (by simp at h1; omega : (sumT [] (L.take i)).length ≤ 1000) (by decide)
       refine ⟨_, rfl, d, rfl, .inl ⟨_, .inl hd⟩, _, rfl, _, hget, _, rfl, ?_⟩
       rw [dT_getD]
       refine ⟨_, _, rfl, rfl, _, rfl, _, rfl, d, _, rfl, DPut.k (k := Sum.inr e.1) hd hlt, ?_⟩
       rw [dT_put (sumT_nodup _ (by simp))]
       refine ⟨_, _, rfl, same_upd hS nd, ?_⟩
       rw [upd_same, take_snoc he, sumT_snoc])
    | (rintro σ H1 ⟨v2, v3, rfl, hS, hd⟩
       rw [List.length_map, paired_len hP, List.take_length] at hd
       exact ⟨_, rfl, q H1 d hS nd hd⟩)
end
end My
set_option maxHeartbeats 4000000
namespace My
open PySem L2 PyProof.Rows
theorem told_map (L : List (Str × Int)) : (L.map encSI).mergeSort (PySem.W.dataLe false id) = (told L).map encSI :=
  (List.map_mergeSort (f := encSI) (r := PySem.W.dataLe false encSI) (s := PySem.W.dataLe false id) (l := L) (fun a _ b _ => rfl)).symm
theorem sorted_rd {H : Hp} {ts : List Addr} {L : List (Str × Int)} (hP : Paired (SIAt H) ts L) : ∀ {zs : List V} {M : List (Str × Int)}, Paired (fun (z : V) (d : PyData) => ∃ j : Nat, (ts.map V.ref)[j]? = some z ∧ (L.map encSI)[j]? = some d) zs (M.map encSI) → ∃ us : List Addr, zs = us.map V.ref ∧ Paired (SIAt H) us M
  | _, [], .nil => ⟨[], rfl, .nil⟩
  | _, m :: M, .cons h t => by
    obtain ⟨us, rfl, hu⟩ := sorted_rd hP t
    obtain ⟨j, h1, h2⟩ := h
    obtain ⟨p, e, rfl, he, hpe⟩ := si_at hP h1
    rw [List.getElem?_map, he] at h2
    have h3 := Option.some.inj h2
    injection h3 with h4
    injection h4 with h5 h6
    injection h5 with h5
    injection h6 with h6 _
    injection h6 with h6
    have em : e = m := Prod.ext h5 h6
    subst em
    exact ⟨p :: us, rfl, .cons hpe hu⟩
theorem dp_si {K : PySem.W.Frag} {H : Hp} : ∀ {ts : List Addr} {L : List (Str × Int)}, Paired (SIAt H) ts L → DpAll K H (ts.map V.ref) (L.map encSI)
  | _, _, .nil => .nil
  | _, _, .cons h r => .cons (.tup (SqT.of h) (.cons (.str _) (.cons (.int _) .nil))) (dp_si r)
theorem told_len (L : List (Str × Int)) : (told L).length = L.length := (List.mergeSort_perm L _).length_eq
theorem told_mem {L : List (Str × Int)} {e : Str × Int} : e ∈ told L ↔ e ∈ L := (List.mergeSort_perm L _).mem_iff
theorem paired_ent {H : Hp} : ∀ {ts : List Addr} {D : List (Str × Int)}, Paired (fun (t : Addr) (q : Key × V) => H t = some (.tup [kV q.1, q.2])) ts (dT D) → Paired (SIAt H) ts D
  | _, [], .nil => .nil
  | _, e :: r, .cons h t => .cons h (paired_ent t)
theorem ent_paired {K : PySem.W.Frag} {H : Hp} : ∀ {ts : List Addr} {D : List (Str × Int)}, Paired (SIAt H) ts D → Paired (fun (p : Addr) (kv : Key × V) => SqT K H p [kV kv.1, kv.2]) ts (dT D)
  | _, [], .nil => .nil
  | _, e :: r, .cons h t => .cons (SqT.of h) (ent_paired t)
theorem merge_new : ∀ (L acc : List (Str × Int)), ((acc ++ L).map Prod.fst).Nodup → mergeK (dT acc) (dT L) = dT (acc ++ L)
  | [], acc, _ => by rw [List.append_nil]; rfl
  | e :: r, acc, hn => by
    have hx : e.1 ∉ acc.map Prod.fst := fun z => by
      rw [List.map_append, List.nodup_append] at hn
      exact hn.2.2 e.1 z e.1 (by simp) rfl
    have hv : valV (dT acc) (Sum.inr e.1 : Key) = none := by
      rw [dT_val]
      have : acc.find? (fun f => decide (f.1 = e.1)) = none := List.find?_eq_none.mpr fun f hf => by
        simp only [decide_eq_true_eq]
        intro z
        exact hx (List.mem_map.mpr ⟨f, hf, z⟩)
      rw [this]
      rfl
    have hp : putK (dT acc) (Sum.inr e.1 : Key) (.int e.2) = dT (acc ++ [e]) := by
      rw [putK_new _ hv]
      unfold dT
      rw [List.map_append]
      rfl
    show mergeK (putK (dT acc) (Sum.inr e.1 : Key) (.int e.2)) (dT r) = _
    rw [hp, merge_new r (acc ++ [e]) (by rw [List.append_assoc]; exact hn), List.append_assoc]
    rfl
theorem take_map {α β : Type} {f : α → β} {L : List α} {j : Nat} {x : α} (h : L[j]? = some x) : (L.map f).take (j + 1) = (L.map f).take j ++ [f x] := take_snoc (by rw [List.getElem?_map, h]; rfl)
/-- the dict's texts in sequence, each with its number -/
def inSeq (D : List (Str × Int)) : List (Str × Int) := ((D.map Prod.fst).mergeSort leS).map fun x => (x, getT D x)
theorem getT_mem {D : List (Str × Int)} (hn : (D.map Prod.fst).Nodup) {e : Str × Int} (h : e ∈ D) : getT D e.1 = e.2 := by
  induction D with
  | nil => cases h
  | cons f r ih =>
    have hn' := List.nodup_cons.mp (by simpa using hn : (f.1 :: r.map Prod.fst).Nodup)
    rcases List.mem_cons.mp h with z | z
    · subst z
      simp [getT]
    · have hne : ¬ f.1 = e.1 := fun q => hn'.1 (by rw [q]; exact List.mem_map.mpr ⟨e, z, rfl⟩)
      have s2 : getT (f :: r) e.1 = getT r e.1 := by simp [getT, List.find?_cons, hne]
      rw [s2]
      exact ih hn'.2 z
theorem inSeq_told {D : List (Str × Int)} (hn : (D.map Prod.fst).Nodup) : Told (inSeq D) := by
  unfold Told inSeq
  rw [List.pairwise_map]
  exact texts_of hn
theorem mem_inSeq {D : List (Str × Int)} (hn : (D.map Prod.fst).Nodup) (e : Str × Int) : e ∈ inSeq D ↔ e ∈ D := by
  unfold inSeq
  rw [List.mem_map]
  constructor
  · rintro ⟨x, hx, rfl⟩
    obtain ⟨f, hf, rfl⟩ := List.mem_map.mp ((List.mergeSort_perm _ leS).mem_iff.mp hx)
    rw [getT_mem hn hf]
    exact hf
  · intro h
    exact ⟨e.1, (List.mergeSort_perm _ leS).mem_iff.mpr (List.mem_map.mpr ⟨e, h, rfl⟩), by rw [getT_mem hn h]⟩
theorem told_inSeq {D : List (Str × Int)} (hn : (D.map Prod.fst).Nodup) : told D = inSeq D :=
  (told_of hn).unique (inSeq_told hn) fun e => told_mem.trans (mem_inSeq hn e).symm
/-- lots of the same numbers are told alike -/
theorem told_same {D E : List (Str × Int)} (hn : (D.map Prod.fst).Nodup) (kn : (E.map Prod.fst).Nodup) (h : ∀ e, e ∈ D ↔ e ∈ E) : told D = told E :=
  (told_of hn).unique (told_of kn) fun e => told_mem.trans ((h e).trans told_mem.symm)
theorem mem_get {D : List (Str × Int)} (hn : (D.map Prod.fst).Nodup) (e : Str × Int) : e ∈ D ↔ e.1 ∈ D.map Prod.fst ∧ getT D e.1 = e.2 := by
  constructor
  · intro h
    exact ⟨List.mem_map.mpr ⟨e, h, rfl⟩, getT_mem hn h⟩
  · rintro ⟨h1, h2⟩
    obtain ⟨f, hf, e1⟩ := List.mem_map.mp h1
    have e2 := getT_mem hn hf
    rw [e1, h2] at e2
    have : f = e := Prod.ext e1 e2.symm
    rw [← this]
    exact hf
theorem told_get {D E : List (Str × Int)} (hn : (D.map Prod.fst).Nodup) (kn : (E.map Prod.fst).Nodup) (h : ∀ x, x ∈ D.map Prod.fst ↔ x ∈ E.map Prod.fst) (k : ∀ x, getT D x = getT E x) : told D = told E :=
  told_same hn kn fun e => by rw [mem_get hn, mem_get kn, h, k]
/-- lists of pairs compared -/
theorem okT_str {x : Str} (h : OkT x) : PyData.strOk x = true := by
  unfold PyData.strOk
  rw [Array.all_eq_true']
  intro c hc
  have := h.let_ c (by simpa using hc)
  simp
  omega
theorem layAll_si : ∀ {L : List (Str × Int)}, (∀ e ∈ L, OkT e.1) → PyData.canLayAll0 (L.map encSI) = true
  | [], _ => rfl
  | e :: r, h => by
    show (PyData.canLay0 (encSI e) && PyData.canLayAll0 (r.map encSI)) = true
    rw [layAll_si fun f hf => h f (List.mem_cons_of_mem _ hf)]
    have hx := okT_str (h e List.mem_cons_self)
    simp only [encSI, PyData.canLay0, PyData.canLayAll0, Bool.and_true]
    exact hx
theorem depthAll_si (e : Str × Int) : ∀ r : List (Str × Int), PyData.depthAll ((e :: r).map encSI) = 1
  | [] => rfl
  | f :: r => by
    show max (PyData.depth (encSI e)) (PyData.depthAll ((f :: r).map encSI)) = 1
    rw [depthAll_si f r]
    rfl
theorem shaped_si : ∀ {L : List (Str × Int)}, (∀ e ∈ L, OkT e.1) → SeqAt.shaped (.list (L.map encSI)) = true
  | [], _ => shaped_iz []
  | e :: r, h => by
    unfold SeqAt.shaped
    have h1 : PyData.canLay0 (.list ((e :: r).map encSI)) = true := by
      unfold PyData.canLay0
      exact layAll_si h
    have h2 : PyData.depth (.list ((e :: r).map encSI)) = 2 := by
      unfold PyData.depth
      rw [depthAll_si]
    rw [h1, h2]
    rfl
theorem dp_rd {K : PySem.W.Frag} {H : Hp} {l : Addr} {L : List (Str × Int)} (h : RdAt H l L) : Dp K H (.ref l) (.list (L.map encSI)) := by
  obtain ⟨ts, h1, h2⟩ := h
  exact .lst (SqL.of h1) (dp_si h2)
theorem dT_some {x : Str} {D : List (Str × Int)} (h : x ∈ D.map Prod.fst) : valV (dT D) (Sum.inr x : Key) = some (.int (getT D x)) := by
  rw [dT_val]
  unfold getT
  cases e : D.find? fun e => decide (e.1 = x) with
  | none =>
    obtain ⟨f, hf, rfl⟩ := List.mem_map.mp h
    have := List.find?_eq_none.mp e f hf
    simp at this
  | some f => rfl
theorem keys_V (D : List (Str × Int)) : (dT D).map (fun kv => kV kv.1) = (D.map Prod.fst).map V.str := by
  unfold dT
  rw [List.map_map, List.map_map]
  rfl
theorem dp_strs {K : PySem.W.Frag} {H : Hp} : ∀ L : List Str, DpAll K H (L.map V.str) (L.map PyData.str)
  | [] => .nil
  | x :: r => .cons (.str x) (dp_strs r)
theorem strs_alike (L : List Str) : PySem.W.AllAlike (L.map PyData.str) := by
  intro d hd d' hd'
  obtain ⟨e, _, rfl⟩ := List.mem_map.mp hd
  obtain ⟨e', _, rfl⟩ := List.mem_map.mp hd'
  rfl
theorem strs_sortable (L : List Str) : PySem.W.Sortable (L.map PyData.str) := .others (enc := PyData.str) fun b => ⟨fun z => (by cases z), fun xs z => (by cases z)⟩
theorem strs_map (L : List Str) : (L.map PyData.str).mergeSort (PySem.W.dataLe false id) = (L.mergeSort leS).map PyData.str :=
  (List.map_mergeSort (f := PyData.str) (r := leS) (s := PySem.W.dataLe false id) (l := L) (fun a _ b _ => by rw [← dataLe_s]; rfl)).symm
theorem sorted_strs {L : List Str} : ∀ {zs : List V} {M : List Str}, Paired (fun (z : V) (d : PyData) => ∃ j : Nat, (L.map V.str)[j]? = some z ∧ (L.map PyData.str)[j]? = some d) zs (M.map PyData.str) → zs = M.map V.str
  | _, [], .nil => rfl
  | _, m :: M, .cons h t => by
    have := sorted_strs t
    obtain ⟨j, h1, h2⟩ := h
    obtain ⟨x, hx, rfl⟩ := str_at h1
    rw [List.getElem?_map, hx] at h2
    injection Option.some.inj h2 with h3
    rw [this, h3]
    rfl
section
variable {P : Program} {w : World} {K : PySem.W.Frag} {mg : Str → Option Value} {base : Heap} {C CE : Addr}
def sp_law_sorted (_ : PySem.W.Frag) (_ _ : Addr) : Sp := fun vs H Q _ => ∃ d D, vs = [.ref d] ∧ H d = some (.dK (dT D)) ∧ (D.map Prod.fst).Nodup ∧ D.length ≤ 90000 ∧ ∀ H' l, H l = none → Same H H' → RdAt H' l (told D) → Q (.ref l) H'
theorem ok_law_sorted (D : Def K mg "_law_sorted" s_law_sorted ["_law_told"]) (B : Bs mg) (Glb : Glo mg) (WK : WebK K mg C) (EXInvalidReadings : ExcV P w K mg base "InvalidReadings" CE) (EXe : PySem.W.exmOne K (.ref CE) (.ref CE) = some true) (kS : PySem.W.kitOne K (.ref C) (.type "str") = some false) :
    Good P w K mg base "_law_sorted" s_law_sorted ["_law_told"] 1 (sp_law_sorted K C CE) := by
  refine D.good fun f fd F => ?_
  refine F.ok sc_law_sorted (fun vs H Q E h => ?_) (fun cdv A outer s H vs Q E hr h => ?_)
  · obtain ⟨d, D, rfl, hd, hn, hlen, q⟩ := h
    first | rfl | (rcases h with ⟨_, _, rfl, _⟩ | ⟨_, rfl, _⟩ <;> rfl)
  obtain ⟨d, D, rfl, hd, hn, hlen, q⟩ := h
  refine ⟨_, (pss_one (ps_ret (pe_lc (own := [("_law_one", 1)]) (g := gName 1) (by rfl) sc_law_sorted.nd (pi_list (pe_callB (cr_sortD hr.units) (by rfl) B.sorted (by decide +kernel) (pa_cons (pe_callTy (call_listD rfl) (by rfl) B.list (by decide +kernel) (pa_cons (pv 0) pa_nil)) pa_nil))) (blkOk_by (own := [("_law_one", 1)]) (N := ["_law_told", "_law_one"]) (sc := defScope s_law_sorted) (by decide +kernel)) (fun _ _ _ _ _ => (pg_name (i := 1) sc_law_sorted.nd rfl (by first | exact Or.inl rfl | exact Or.inr rfl))) (fun _ _ _ _ _ => pts_nil) (fun _ _ _ _ _ => (pe_tup (pa_cons (pv 1) (pa_cons (pe_dget (hu_of hr) (pv 0) (pv 1) (by exact fun _ _ => rfl)) pa_nil))))))), ?_⟩
  refine ⟨_, rfl, d, dT D, rfl, .inl hd, fun kp nkp => ?_⟩
  rw [keys_V]
  refine ⟨kp, _, (D.map Prod.fst).map PyData.str, rfl, SqL.of upd_same, dp_strs _, strs_alike _, strs_sortable _, fun e he => ?_, by rw [List.length_map, List.length_map]; omega, fun zs p hz np => ?_⟩
  · obtain ⟨x, _, rfl⟩ := List.mem_map.mp he
    show (0 : Nat) ≤ 8
    decide
  rw [strs_map] at hz
  have ez := sorted_strs hz
  subst ez
  have hS1 : Same H (upd (upd H kp (.lst ((D.map Prod.fst).map V.str))) p (.lst (((D.map Prod.fst).mergeSort leS).map V.str))) := fun b o e => same_new np _ _ _ (same_new nkp _ _ _ e)
  have hp1 : (upd (upd H kp (.lst ((D.map Prod.fst).map V.str))) p (.lst (((D.map Prod.fst).mergeSort leS).map V.str))) p = some (.lst (((D.map Prod.fst).mergeSort leS).map V.str)) := upd_same
  generalize upd (upd H kp (.lst ((D.map Prod.fst).map V.str))) p (.lst (((D.map Prod.fst).mergeSort leS).map V.str)) = H1 at hS1 hp1
  have hml : ((D.map Prod.fst).mergeSort leS).length = D.length := by rw [(List.mergeSort_perm _ _).length_eq, List.length_map]
  refine ⟨p, rfl, ⟨_, SqL.of hp1⟩, fun R nR => ?_⟩
  refine lc_list (K := K) (a := p) (xs := ((D.map Prod.fst).mergeSort leS).map V.str) (fun i H' => Same H1 H' ∧ RdAt H' R ((inSeq D).take i)) ⟨same_new nR _, RdAt.nil⟩ (fun i H' _ ⟨hS', _⟩ => SqL.of (hS' _ _ hp1)) ?_ ?_
  · rintro i v H2 hv ⟨hS2, us, hR, hU⟩
    obtain ⟨x, hx, rfl⟩ := str_at hv
    have hxm : x ∈ D.map Prod.fst := (List.mergeSort_perm _ _).mem_iff.mp (List.mem_of_getElem? hx)
    have hil : i < D.length := by rw [← hml]; exact (List.getElem?_eq_some_iff.mp hx).1
    have hd2 := hS2 _ _ (hS1 _ _ hd)
    have hg : DGet H2 d (.str x) (some (.int (getT D x))) := by
      rw [← dT_some hxm]
      exact DGet.k (k := Sum.inr x) hd2
    refine ⟨rfl, _, rfl, _, rfl, _, rfl, d, _, rfl, hg, (by show 2 ≤ sizeLine; decide), fun tp ntp => ?_⟩
    have hRd : RdAt H2 R ((inSeq D).take i) := ⟨us, hR, hU⟩
    obtain ⟨xs, g1, g2, g3⟩ := hRd.push (x := x) (n := getT D x) ntp
    refine ⟨_, g1, ?_, same_upd (fun b o e => same_new ntp _ _ _ (hS2 _ _ e)) nR, ?_⟩
    · rw [g2, List.length_take]
      exact Nat.lt_of_le_of_lt (by omega : _ ≤ 90000) (by decide)
    · rw [show (inSeq D).take (i + 1) = (inSeq D).take i ++ [(x, getT D x)] from take_map hx]
      exact g3
  · rintro H2 ⟨hS2, hR⟩
    rw [List.length_map] at hR
    rw [show (inSeq D).take ((D.map Prod.fst).mergeSort leS).length = inSeq D from List.take_of_length_le (by unfold inSeq; rw [List.length_map]; exact Nat.le_refl _), ← told_inSeq hn] at hR
    exact q H2 R (hS1.free nR) (hS1.trans hS2) hR
end
end My
/-! xs == [] of a list of whatever items -/
namespace My
open PySem L2 PyProof.Rows
def rEqN (K : PySem.W.Frag) : R2 := fun x y H Q => ∃ a b xs, x = .ref a ∧ y = .ref b ∧ SqL K H a xs ∧ SqL K H b [] ∧ (xs = [] → Q (.bl true) H) ∧ (xs ≠ [] → Q (.bl false) H)
theorem op_eqN {X : Cx} (hu : X.A.units + 64 < cLine) : OpR X (compareOp .Eq) (rEqN X.K) := by
  intro pins s σ H x y v u Q I rx ry h
  obtain ⟨a, b, xs, rfl, rfl, ha, hb, q1, q2⟩ := h
  cases xs with
  | nil => exact op_eqD hu _ _ _ _ _ _ _ _ _ I rx ry ⟨_, _, .lst ha .nil, .lst hb .nil, by decide, by decide, q1 rfl⟩
  | cons z zs =>
    cases (show v = Value.ref a from rx)
    cases (show u = Value.ref b from ry)
    obtain ⟨us, r1, p1, _⟩ := I.list ha
    obtain ⟨ws, r2, p2, _⟩ := I.list hb
    refine SeqAt.eq_list_lengthsAt p1.isList p2.isList ?_ (by omega) ⟨.bl false, H, I, rfl, q2 (fun z => nomatch z)⟩
    cases r2
    cases r1
    simp
end My
set_option maxHeartbeats 4000000
namespace My
open PySem L2 PyProof.Rows
theorem okT_of {x : Str} (h : isTx (.str x) = true) : OkT x := by
  have h : (decide (x.length ≤ 400) && x.cps.toList.all isA) = true := h
  simp only [Bool.and_eq_true, decide_eq_true_eq, List.all_eq_true] at h
  refine ⟨h.1, fun c hc => ?_⟩
  have := h.2 c hc
  unfold isA at this
  simpa only [Bool.and_eq_true, decide_eq_true_eq] using this
theorem letters_is (c : Nat) : c ∈ (Str.ofString "abcdefghijklmnopqrstuvwxyz").cps.toList ↔ isA c = true := by
  have e : (Str.ofString "abcdefghijklmnopqrstuvwxyz").cps.toList = List.range' 97 26 := by decide +kernel
  rw [e, List.mem_range'_1]
  unfold isA
  simp only [Bool.and_eq_true, decide_eq_true_eq]
  omega
section
variable {P : Program} {w : World} {K : PySem.W.Frag} {mg : Str → Option Value} {base : Heap} {C CE : Addr}
def sp_law_letters (_ : PySem.W.Frag) (_ _ : Addr) : Sp := fun vs H Q _ => ∃ x, vs = [.str x] ∧ x.length ≤ 1000 ∧ ∀ H', Same H H' → Q (.bl (x.cps.toList.all isA)) H'
theorem ok_law_letters (D : Def K mg "_law_letters" s_law_letters ["_law_word"]) (B : Bs mg) (Glb : Glo mg) (WK : WebK K mg C) (EXInvalidReadings : ExcV P w K mg base "InvalidReadings" CE) (EXe : PySem.W.exmOne K (.ref CE) (.ref CE) = some true) (kS : PySem.W.kitOne K (.ref C) (.type "str") = some false) :
    Good P w K mg base "_law_letters" s_law_letters ["_law_word"] 1 (sp_law_letters K C CE) := by
  refine D.good fun f fd F => ?_
  refine F.ok sc_law_letters (fun vs H Q E h => ?_) (fun cdv A outer s H vs Q E hr h => ?_)
  · obtain ⟨x, rfl, hx, q⟩ := h
    first | rfl | (rcases h with ⟨_, _, rfl, _⟩ | ⟨_, rfl, _⟩ <;> rfl)
  obtain ⟨x, rfl, hx, q⟩ := h
  refine ⟨_, (pss_one (ps_ret (pe_cmpR (op_eqN hr.units) (pe_lc (own := [("_law_sign", 1)]) (g := gName 1) (by rfl) sc_law_letters.nd (pi_str (pv 0)) (blkOk_by (own := [("_law_sign", 1)]) (N := ["_law_word", "_law_sign"]) (sc := defScope s_law_letters) (by decide +kernel)) (fun _ _ _ _ _ => (pg_name (i := 1) sc_law_letters.nd rfl (by first | exact Or.inl rfl | exact Or.inr rfl))) (fun _ _ _ _ _ => (pts_one (pt_cmpR op_notIn_str (pv 1) pe_str (by rfl)))) (fun _ _ _ _ _ => (pv 1))) (pe_lst pa_nil) (nomark _)))), ?_⟩
  refine ⟨_, rfl, _, rfl, fun D nD => lc_it walk_str (fun i H' => H' = upd H D (.lst (((x.cps.toList.take i).filter fun c => !isA c).map fun c => .str ⟨#[c]⟩))) rfl (fun _ _ _ _ => trivial) ?_ ?_⟩
  · rintro i y H1 H2 hi rfl ⟨rfl, c, hc, rfl⟩
    have hm : x.cps.toList[i]? = some c := by simpa using hc
    refine ⟨rfl, _, rfl, _, _, rfl, rfl, _, rfl, ?_⟩
    have eo : (!!(Builtin.Str.occurrences (Str.ofString "abcdefghijklmnopqrstuvwxyz") ⟨#[c]⟩ 0 (Str.ofString "abcdefghijklmnopqrstuvwxyz").length 1).isEmpty) = !isA c := by
      rw [StrLaws.found_one]
      cases e : isA c with
      | true => rw [decide_eq_true ((letters_is c).mpr e)]
      | false => rw [decide_eq_false fun z => by rw [(letters_is c).mp z] at e; cases e]
    rw [eo]
    rw [List.take_succ, hm, List.filter_append, List.map_append]
    have hlt : ((x.cps.toList.take i).filter fun c => !isA c).length ≤ 1000 := by
      have := List.length_filter_le (fun c => !isA c) (x.cps.toList.take i)
      rw [List.length_take] at this
      have h2 : i < x.length := hi
      omega
    cases e : isA c with
    | true =>
      refine iteF ?_
      show _ = upd H D (.lst (_ ++ (List.filter (fun c => !isA c) [c]).map _))
      rw [List.filter_cons, e]
      simp
    | false =>
      refine iteT ⟨_, rfl, _, upd_same, by rw [List.length_map]; exact Nat.lt_of_le_of_lt hlt (by decide), ?_⟩
      rw [upd_upd]
      show _ = upd H D (.lst (_ ++ (List.filter (fun c => !isA c) [c]).map _))
      rw [List.filter_cons, e]
      rfl
  · rintro H1 rfl
    have et : x.cps.toList.take x.cps.size = x.cps.toList := List.take_of_length_le (by simp)
    rw [show (x.cps.toList.take x.cps.size) = x.cps.toList from et]
    refine ⟨Nat.zero_le _, fun e0 ne0 => ⟨D, e0, _, rfl, rfl, SqL.of (same_new ne0 _ _ _ upd_same), SqL.of upd_same, fun z => ?_, fun z => ?_⟩⟩
    · have ea : x.cps.toList.all isA = true := by
        rw [List.all_eq_true]
        intro c hc
        have z := List.filter_eq_nil_iff.mp (List.map_eq_nil_iff.mp z) c hc
        simpa using z
      rw [← ea]
      exact q _ ((same_new nD _).trans (same_new ne0 _))
    · have ea : x.cps.toList.all isA = false := by
        cases e : x.cps.toList.all isA with
        | false => rfl
        | true =>
          refine absurd (List.map_eq_nil_iff.mpr (List.filter_eq_nil_iff.mpr fun c hc => ?_)) z
          rw [List.all_eq_true.mp e c hc]
          simp
      rw [← ea]
      exact q _ ((same_new nD _).trans (same_new ne0 _))
end
end My
set_option maxHeartbeats 4000000
namespace My
open PySem L2 PyProof.Rows
section
variable {P : Program} {w : World} {K : PySem.W.Frag} {mg : Str → Option Value} {base : Heap} {C CE : Addr}
def sp_law_is_one (_ : PySem.W.Frag) (_ _ : Addr) : Sp := fun vs H Q _ => ∃ v d, vs = [v] ∧ Vd H v d ∧ ∀ H', Same H H' → Q (.bl (isOne d)) H'
theorem ok_law_is_one (D : Def K mg "_law_is_one" s_law_is_one ["_law_value"]) (B : Bs mg) (Glb : Glo mg) (WK : WebK K mg C) (EXInvalidReadings : ExcV P w K mg base "InvalidReadings" CE) (EXe : PySem.W.exmOne K (.ref CE) (.ref CE) = some true) (kS : PySem.W.kitOne K (.ref C) (.type "str") = some false)
    (h_law_letters : Good P w K mg base "_law_letters" s_law_letters ["_law_word"] 1 (sp_law_letters K C CE)) :
    Good P w K mg base "_law_is_one" s_law_is_one ["_law_value"] 2 (sp_law_is_one K C CE) := by
  refine D.good fun f fd F => ?_
  obtain ⟨f_law_letters, d_law_letters, O_law_letters, m_law_letters, k_law_letters, b_law_letters, F_law_letters⟩ := h_law_letters
  refine F.ok sc_law_is_one (fun vs H Q E h => ?_) (fun cdv A outer s H vs Q E hr h => ?_)
  · obtain ⟨v, d, rfl, hv, q⟩ := h
    first | rfl | (rcases h with ⟨_, _, rfl, _⟩ | ⟨_, rfl, _⟩ <;> rfl)
  obtain ⟨v, d, rfl, hv, q⟩ := h
  refine ⟨_, (pss_cons (ps_if (PW.pt (pw_or (pt_not (pt_val (pe_callB call_isi (by rfl) B.isinstance (by decide +kernel) (pa_cons (pv 0) (pa_cons (pe_bltn (v := .ty "tuple") (by rfl) B.tuple (by decide +kernel) rfl) pa_nil))))) (pw_or (pt_cmpR op_ne (pe_callB call_len_seq (by rfl) B.len (by decide +kernel) (pa_cons (pv 0) pa_nil)) pe_int (nomark _)) (pw_or (pt_not (pt_val (pe_callB call_isi (by rfl) B.isinstance (by decide +kernel) (pa_cons (pe_ix ix_tup (pv 0) pe_int (fun _ _ => rfl)) (pa_cons (pe_bltn (v := .ty "str") (by rfl) B.str (by decide +kernel) rfl) pa_nil))))) (pw_or1 (pt_cmpR op_gt (pe_callB call_len_str (by rfl) B.len (by decide +kernel) (pa_cons (pe_ix ix_tup (pv 0) pe_int (fun _ _ => rfl)) pa_nil)) pe_int (nomark _)))))))
    (pss_one (ps_ret pe_bl)) pss_nil)
  (pss_cons (ps_if (PW.pt (pw_or (pt_not (pt_val (pe_call O_law_letters hr rfl m_law_letters k_law_letters b_law_letters .nil pass0 (pa_cons (pe_ix ix_tup (pv 0) pe_int (fun _ _ => rfl)) pa_nil)))) (pw_or (pt_not (pt_val (pe_callB call_isi (by rfl) B.isinstance (by decide +kernel) (pa_cons (pe_ix ix_tup (pv 0) pe_int (fun _ _ => rfl)) (pa_cons (pe_bltn (v := .ty "int") (by rfl) B.int (by decide +kernel) rfl) pa_nil))))) (pw_or1 (pt_val (pe_callB call_isi (by rfl) B.isinstance (by decide +kernel) (pa_cons (pe_ix ix_tup (pv 0) pe_int (fun _ _ => rfl)) (pa_cons (pe_bltn (v := .ty "bool") (by rfl) B.bool (by decide +kernel) rfl) pa_nil))))))))
    (pss_one (ps_ret pe_bl)) pss_nil)
  (pss_one (ps_ret (pe_chain op_le op_le pe_int (pe_ix ix_tup (pv 0) pe_int (fun _ _ => rfl)) pe_int))))), ?_⟩
  have no : isOne d = false → ∀ H', Same H H' → Q (.bl false) H' := fun z H' s => by
    have := q H' s
    rw [z] at this
    exact this
  refine ⟨_, rfl, _, _, _, _, _, rfl, .ty _, hv.ty, kit_ty (kit_tup d), _, rfl, iteNB (fun k => no (by cases d <;> first | rfl | cases k) _ (fun b u e => e)) (fun k => ?_)⟩
  cases hv <;> first | cases k | skip
  rename_i t us ds ht hus
  have hul := hus.len
  refine ⟨_, rfl, _, _, rfl, .inr (SqT.of ht), rfl, _, rfl, ?_⟩
  by_cases h2 : us.length = 2
  case neg =>
    refine iteNot (fun z => h2 ?_) (no ?_ _ (fun b u e => e))
    · have := int_eq.mp z
      omega
    · cases ds with
      | nil => rfl
      | cons a ds =>
        cases ds with
        | nil => rfl
        | cons b ds =>
          cases ds with
          | nil => exact absurd (by rw [hul]; rfl) h2
          | cons c ds => rfl
  refine iteNS (by rw [h2]; rfl) ?_
  obtain ⟨u0, u1, rfl⟩ : ∃ u0 u1, us = [u0, u1] := by
    match us, h2 with
    | [a, b], _ => exact ⟨a, b, rfl⟩
  cases hus with
  | cons a hus =>
    cases hus with
    | cons b hus =>
      cases hus
      rename_i d0 d1
      have e0 : isOne (.tuple [d0, d1]) = (isTx d0 && isTm d1) := rfl
      rw [e0] at q no
      refine ⟨_, rfl, _, _, _, u0, rfl, rfl, SqT.of ht, rfl, _, _, _, _, _, rfl, .ty _, a.ty, kit_ty (kit_str d0), _, rfl, iteNB (fun k => no (by cases d0 <;> first | rfl | cases k) _ (fun b u e => e)) (fun k => ?_)⟩
      cases a <;> first | cases k | skip
      rename_i x hx
      refine ⟨_, rfl, _, _, _, .str x, rfl, rfl, SqT.of ht, rfl, _, rfl, line1000 hx, _, _, rfl, rfl, _, rfl, ?_⟩
      have e1 : isTx (.str x) = (decide (x.length ≤ 400) && x.cps.toList.all isA) := rfl
      by_cases h4 : x.length ≤ 400
      case neg => exact iteYes (by omega) (no (by rw [e1, decide_eq_false h4]; rfl) _ (fun b u e => e))
      rw [e1, decide_eq_true h4, Bool.true_and] at q no
      refine iteNo (by omega) ?_
      refine ⟨_, rfl, _, _, _, .str x, rfl, rfl, SqT.of ht, rfl, x, rfl, hx, fun H1 S1 => ⟨_, rfl, iteNB (fun k => no (by rw [k]; rfl) _ S1) (fun k => ?_)⟩⟩
      rw [k, Bool.true_and] at q no
      have ht1 := S1 _ _ ht
      have b1 := b.same S1
      refine ⟨_, rfl, _, _, _, u1, rfl, rfl, SqT.of ht1, rfl, _, _, _, _, _, rfl, .ty _, b1.ty, kit_ty (kit_int d1), _, rfl, iteNB (fun k => no (by cases d1 <;> first | rfl | cases k) _ S1) (fun k => ?_)⟩
      refine ⟨_, rfl, _, _, _, u1, rfl, rfl, SqT.of ht1, rfl, _, _, _, _, _, rfl, .ty _, b1.ty, kit_ty (kit_bool d1), _, rfl, iteB (fun k => no (by cases d1 <;> first | rfl | cases k) _ S1) (fun k2 => ?_)⟩
      cases b1 <;> first | (cases k2; done) | (cases k; done) | skip
      rename_i n
      refine ⟨_, rfl, _, _, _, .int n, rfl, rfl, SqT.of ht1, rfl, _, _, rfl, rfl, _, rfl, ?_⟩
      have e2 : isTm (.int n) = (decide (1 ≤ n) && decide (n ≤ 20)) := rfl
      rw [e2] at q
      have q := q H1 S1
      by_cases h5 : 1 ≤ n
      · rw [decide_eq_true h5, Bool.true_and] at q
        exact iteYes h5 ⟨_, _, rfl, rfl, q⟩
      · rw [decide_eq_false h5, Bool.false_and] at q
        exact iteNo h5 q
def sp_law_are_ones (_ : PySem.W.Frag) (_ _ : Addr) : Sp := fun vs H Q _ => ∃ v d, vs = [v] ∧ Vd H v d ∧ ∀ H', Same H H' → Q (.bl (areR d)) H'
theorem ok_law_are_ones (D : Def K mg "_law_are_ones" s_law_are_ones ["_law_value"]) (B : Bs mg) (Glb : Glo mg) (WK : WebK K mg C) (EXInvalidReadings : ExcV P w K mg base "InvalidReadings" CE) (EXe : PySem.W.exmOne K (.ref CE) (.ref CE) = some true) (kS : PySem.W.kitOne K (.ref C) (.type "str") = some false)
    (h_law_is_one : Good P w K mg base "_law_is_one" s_law_is_one ["_law_value"] 2 (sp_law_is_one K C CE)) :
    Good P w K mg base "_law_are_ones" s_law_are_ones ["_law_value"] 3 (sp_law_are_ones K C CE) := by
  refine D.good fun f fd F => ?_
  obtain ⟨f_law_is_one, d_law_is_one, O_law_is_one, m_law_is_one, k_law_is_one, b_law_is_one, F_law_is_one⟩ := h_law_is_one
  refine F.ok sc_law_are_ones (fun vs H Q E h => ?_) (fun cdv A outer s H vs Q E hr h => ?_)
  · obtain ⟨v, d, rfl, hv, q⟩ := h
    first | rfl | (rcases h with ⟨_, _, rfl, _⟩ | ⟨_, rfl, _⟩ <;> rfl)
  obtain ⟨v, d, rfl, hv, q⟩ := h
  refine ⟨_, (pss_one (ps_ret (pe_and (pe_callB call_isiT (by rfl) B.isinstance (by decide +kernel) (pa_cons (pv 0) (pa_cons (pe_tup (pa_cons (pe_bltn (v := .ty "list") (by rfl) B.list (by decide +kernel) rfl) (pa_cons (pe_bltn (v := .ty "tuple") (by rfl) B.tuple (by decide +kernel) rfl) pa_nil))) pa_nil))) (pe_and (pe_cmpR op_le (pe_callB call_len_seq (by rfl) B.len (by decide +kernel) (pa_cons (pv 0) pa_nil)) pe_int (nomark _)) (pe_one (pe_callB (cr_all rfl) (by rfl) B.all (by decide +kernel) (pa_cons (pe_lc (own := [("_law_one", 1)]) (g := gName 1) (by rfl) sc_law_are_ones.nd (pi_or (pi_list (pv 0)) (pi_tup (pv 0))) (blkOk_by (own := [("_law_one", 1)]) (N := ["_law_value", "_law_one"]) (sc := defScope s_law_are_ones) (by decide +kernel)) (fun _ _ _ _ _ => (pg_name (i := 1) sc_law_are_ones.nd rfl (by first | exact Or.inl rfl | exact Or.inr rfl))) (fun _ _ _ _ _ => pts_nil) (fun _ _ _ _ _ => (pe_call O_law_is_one hr rfl m_law_is_one k_law_is_one b_law_is_one .nil pass0 (pa_cons (pv 1) pa_nil)))) pa_nil))))))), ?_⟩
  refine ⟨_, rfl, (by show 2 ≤ sizeLine; decide), fun tp ntp => ?_⟩
  have S1 := same_new ntp (.tup [V.ty "list", .ty "tuple"])
  have hv1 := hv.same S1
  refine ⟨_, tp, [.ty "list", .ty "tuple"], _, [.type "list", .type "tuple"], isL d || isT d, rfl, upd_same, .cons (.ty _) (.cons (.ty _) .nil), hv1.ty, ?_, _, rfl, iteB (fun k => ?_) (fun k => ?_)⟩
  · refine kitAny_cons (b := isL d) (kit_ty (kit_lst d)) (fun h => ?_) (fun h => ?_)
    · rw [h, Bool.false_or]
      refine kitAny_cons (b := isT d) (kit_ty (kit_tup d)) (fun h2 => ?_) (fun h2 => ?_)
      · rw [h2]; exact kitAny_nil
      · exact h2
    · rw [h]; rfl
  · generalize upd H tp (.tup [V.ty "list", .ty "tuple"]) = H1 at S1 hv1
    obtain ⟨p, vs, es, rfl, hl, hes, er⟩ := listed_is hv1 k
    rw [er] at q
    have hlen := hes.len
    refine ⟨_, rfl, _, _, rfl, hl.imp SqL.of SqT.of, _, _, rfl, rfl, _, rfl, ?_⟩
    by_cases h60 : es.length ≤ 60
    case neg =>
      have q := q H1 S1
      rw [decide_eq_false h60, Bool.false_and] at q
      exact iteNo (by rw [hlen]; omega) q
    rw [decide_eq_true h60, Bool.true_and] at q
    refine iteYes (by rw [hlen]; omega) ?_
    rcases hl with hl | hl
    case' inl => refine .inl ⟨_, rfl, p, rfl, ⟨_, SqL.of hl⟩, fun D nD => lc_list (K := K) (a := p) (xs := vs) (fun i H' => Same H1 H' ∧ H' D = some (.lst (((es.take i).map isOne).map V.bl))) ⟨same_new nD _, upd_same⟩ (fun i H' _ ⟨hS', _⟩ => SqL.of (hS' _ _ hl)) ?_ ?_⟩
    case' inr => refine .inr ⟨_, rfl, p, rfl, ⟨_, SqT.of hl⟩, fun D nD => lc_tup (K := K) (a := p) (xs := vs) (fun i H' => Same H1 H' ∧ H' D = some (.lst (((es.take i).map isOne).map V.bl))) ⟨same_new nD _, upd_same⟩ (fun i H' _ ⟨hS', _⟩ => SqT.of (hS' _ _ hl)) ?_ ?_⟩
    all_goals first
      | (rintro i x H2 hx ⟨hS2, hD⟩
         obtain ⟨di, hdi, hvi⟩ := hes.at hx
         refine ⟨rfl, _, rfl, x, di, rfl, hvi.same hS2, fun H3 S3 => ⟨_, S3 _ _ hD, ?_, same_upd (hS2.trans S3) nD, ?_⟩⟩
         · rw [List.length_map, List.length_map, List.length_take]
           exact Nat.lt_of_le_of_lt (by omega : min i es.length ≤ 100) (by decide)
         · rw [upd_same, List.take_succ, hdi, List.map_append, List.map_append]
           rfl)
      | (rintro H2 ⟨hS2, hD⟩
         rw [hlen, List.take_length] at hD
         refine ⟨D, _, rfl, SqL.of hD, ?_⟩
         rw [show (es.map isOne).all id = es.all isOne by rw [List.all_map]; rfl]
         exact q _ (S1.trans hS2))
  · have q := q _ S1
    cases d <;> first | exact q | cases k
end
end My
set_option maxHeartbeats 4000000
namespace My
open PySem L2 PyProof.Rows
/-- data that may be shown -/
structure Fq (d : PyData) : Prop where
  sh : d.showable = true
  dep : d.depth ≤ 60
  len : d.shown.length ≤ sizeLine
theorem RdS.back {H H' : Hp} {l : Addr} {L : List (Str × Int)} (h : RdS H' l L) (b : ∀ b u, H' b = some u → (∀ C dx fs, u ≠ .ins C dx fs) → (∀ x, u ≠ .own x) → H b = some u) : RdS H l L := by
  obtain ⟨ts, h1, h2⟩ := h
  refine ⟨ts, h1.imp (fun z => b _ _ z (fun _ _ _ y => by cases y) (fun _ y => by cases y)) (fun z => b _ _ z (fun _ _ _ y => by cases y) (fun _ y => by cases y)), paired_mono (fun p e hp => b _ _ hp (fun _ _ _ y => by cases y) (fun _ y => by cases y)) h2⟩
section
variable {P : Program} {w : World} {K : PySem.W.Frag} {mg : Str → Option Value} {base : Heap} {C CE : Addr}
def sp_law_heard (_ : PySem.W.Frag) (C CE : Addr) : Sp := fun vs H Q _ => ∃ v d, vs = [v] ∧ Vd H v d ∧ Fq d ∧
  (∀ l L, v = .ref l → RdS H l L → areR d = true → ∀ H' a tl, Same H H' → H a = none → H tl = none → LotAt C a tl 2 (told (sumT [] L)) H' → Q (.ref a) H') ∧ (areR d = false → ∀ H', Same H H' → Q (.str d.shown) H')
theorem ok_law_heard (D : Def K mg "_law_heard" s_law_heard ["_law_value"]) (B : Bs mg) (Glb : Glo mg) (WK : WebK K mg C) (EXInvalidReadings : ExcV P w K mg base "InvalidReadings" CE) (EXe : PySem.W.exmOne K (.ref CE) (.ref CE) = some true) (kS : PySem.W.kitOne K (.ref C) (.type "str") = some false)
    (hLot___init__ : GoodJX P w K mg base C "__init__" "Lot.__init__" sLot___init__ ["self", "size", "readings"] 5 (spLot___init__ K C CE)) :
    GoodG P w K mg base "_law_heard" s_law_heard ["_law_value"] 7 (sp_law_heard K C CE) := by
  refine D.goodG fun f fd F => ?_
  obtain ⟨fLot___init__, dLot___init__, OLot___init__, MK, bLot___init__, FLot___init__⟩ := hLot___init__
  have kn_Lot_size_readings : KBn K dLot___init__ ["self", "size", "readings"] 1 ["size", "readings"] gm12 gm12 := fun_kbn2 FLot___init__ (fun _ _ _ _ _ _ _ _ _ => rfl)
  refine FnG.ofBody F sc_law_heard (fun vs H Q E h => ?_) (fun cdv A outer s H vs Q E hr quiet h => ?_)
  · obtain ⟨v, d, rfl, hv, hf, q, qE⟩ := h
    first | rfl | (rcases h with ⟨_, _, rfl, _⟩ | ⟨_, rfl, _⟩ <;> rfl)
  obtain ⟨v, d, rfl, hv, hf, q, qE⟩ := h
  have hur := hu70 hr
  refine ⟨_, (pss_cons (ps_set (i := 1) sc_law_heard.nd rfl (by first | exact Or.inl rfl | exact Or.inr rfl) pe_non)
  (pss_cons (ps_try_as (i := 2) rfl rfl sc_law_heard.nd rfl rfl ⟨rfl, by decide, .inl EXInvalidReadings.g⟩ takes0 (fun W pn xe tk _ => (pss_one (ps_set (i := 1) sc_law_heard.nd rfl (by first | exact Or.inl rfl | exact Or.inr rfl) (pe_makeKS MK OLot___init__ (hr.mono (by decide)) rfl WK.mgC kn_Lot_size_readings (fun σ => passAt tk σ) (pk_cons pe_int (pk_cons (pv 0) pk_nil)))))) (fun a oe cls d pn hz hf => (pss_one (ps_set (i := 1) sc_law_heard.nd rfl (by first | exact Or.inl rfl | exact Or.inr rfl) (pe_callB (call_repr_qS quiet hur) (by rfl) B.repr (by decide +kernel) (pa_cons (pe_xf EXInvalidReadings.xf EXInvalidReadings.hno hz hf (pv 2)) pa_nil))))))
  (pss_one (ps_ret (pv 1))))), ?_⟩
  refine ⟨_, rfl, rfl, fun x dx nx ndx ne => ?_⟩
  have S0 : Same H (upd (upd H dx (.own x)) x (.ins C dx [])) := fun b u e => by rw [upd_ne (ne_of_none e nx), upd_ne (ne_of_none e ndx)]; exact e
  refine ⟨x, dx, 2, v, d, rfl, by decide, by decide, hv.same S0, upd_same, fun l L e hR k H' tl ntl hk hL => ⟨rfl, _, rfl, ?_⟩, fun k H1 dd S1 ndd => ?_⟩
  · refine q l L e (hR.back ?_) k H' x tl (fun b u z => hk _ _ (S0 _ _ z) (ne_of_none z nx)) nx (S0.free ntl) hL
    intro b u z n1 n2
    have hbx : b ≠ x := fun y => by rw [y, upd_same] at z; cases z; exact n1 _ _ _ rfl
    rw [upd_ne hbx] at z
    have hbd : b ≠ dx := fun y => by rw [y, upd_same] at z; cases z; exact n2 _ rfl
    rwa [upd_ne hbd] at z
  · refine ⟨true, EXe, fun _ a na => ?_, fun z => nomatch z⟩
    have S2 := (S0.trans S1).trans (same_new ndd (.xd [("value", v)]))
    refine ⟨_, rfl, rfl, rfl, dd, _, v, rfl, upd_same, rfl, v, d, rfl, (hv.same S2).dq, hf.sh, hf.dep, hf.len, ?_⟩
    exact ⟨_, rfl, qE k _ S2⟩
end
end My
set_option maxHeartbeats 4000000
namespace My
open PySem L2 PyProof.Rows
theorem lf_none (s : Nat) (tl : Addr) {m : Str} (h1 : ¬ m = "_told") (h2 : ¬ m = "_size") : (lf s tl).lookup m = none := lf_no s tl h1 h2
theorem sumT_mem {L : List (Str × Int)} {x : Str} : ∀ {D : List (Str × Int)}, x ∈ (sumT D L).map Prod.fst → x ∈ D.map Prod.fst ∨ x ∈ L.map Prod.fst := by
  induction L with
  | nil => intro D h; exact .inl h
  | cons e r ih =>
    intro D h
    rcases ih h with z | z
    · rcases addT_mem.mp z with y | y
      · exact .inl y
      · exact .inr (by rw [y]; exact List.mem_cons_self)
    · exact .inr (List.mem_cons_of_mem _ z)
theorem lst_is {H : Hp} {l : Addr} {d : PyData} (h : Vd H (.ref l) d) (k : isL d = true) : ∃ vs, H l = some (.lst vs) := by
  cases h with
  | lst h _ => exact ⟨_, h⟩
  | _ => cases k
theorem LotAt.far {C a tl l : Addr} {s : Nat} {M : List (Str × Int)} {H H' : Hp} (h : LotAt C a tl s M H) (f : ∀ b u, V.ref l ≠ .ref b → H b = some u → H' b = some u) (ft : ∀ p xs, H p = some (.tup xs) → H' p = some (.tup xs)) (n1 : a ≠ l) (n2 : tl ≠ l) : LotAt C a tl s M H' := by
  obtain ⟨dy, g1, us, g2, g3⟩ := h
  exact ⟨dy, f _ _ (fun z => n1 (V.ref.inj z).symm) g1, us, f _ _ (fun z => n2 (V.ref.inj z).symm) g2, paired_mono (fun p e hp => ft _ _ hp) g3⟩
theorem RdAt.far {t l : Addr} {M : List (Str × Int)} {H H' : Hp} (h : RdAt H t M) (f : ∀ b u, V.ref l ≠ .ref b → H b = some u → H' b = some u) (ft : ∀ p xs, H p = some (.tup xs) → H' p = some (.tup xs)) (n : t ≠ l) : RdAt H' t M := by
  obtain ⟨us, g2, g3⟩ := h
  exact ⟨us, f _ _ (fun z => n (V.ref.inj z).symm) g2, paired_mono (fun p e hp => ft _ _ hp) g3⟩
theorem sis_one {H : Hp} : ∀ {ts : List Addr} {L M : List (Str × Int)}, Paired (SIAt H) ts L → Paired (SIAt H) ts M → L = M
  | _, _, _, .nil, .nil => rfl
  | _, _, _, .cons (b := e) h k, .cons (b := f) h' k' => by
    have z : some (HO.tup [.str e.1, .int e.2]) = some (HO.tup [.str f.1, .int f.2]) := Eq.trans (Eq.symm h) h'
    injection z with z
    injection z with z
    simp only [List.cons.injEq, V.str.injEq, V.int.injEq, and_true] at z
    rw [sis_one k k', Prod.ext z.1 z.2]
theorem RdS.one {H : Hp} {l : Addr} {L M : List (Str × Int)} (h : RdS H l L) (k : RdS H l M) : L = M := by
  obtain ⟨ts, h1, h2⟩ := h
  obtain ⟨us, k1, k2⟩ := k
  have : ts = us := by
    have inj : ts.map V.ref = us.map V.ref → ts = us := (List.map_inj_right (fun a b h => V.ref.inj h)).mp
    rcases h1 with h1 | h1 <;> rcases k1 with k1 | k1 <;> rw [h1] at k1 <;> injection k1 with k1
    · injection k1 with k1
      exact inj k1
    · cases k1
    · cases k1
    · injection k1 with k1
      exact inj k1
  subst this
  exact sis_one h2 k2
section
variable {P : Program} {w : World} {K : PySem.W.Frag} {mg : Str → Option Value} {base : Heap} {C CE : Addr}
def sp_law_right (_ : PySem.W.Frag) (_ _ : Addr) : Sp := fun vs H Q _ => ∃ v d, vs = [v] ∧ Vd H v d ∧ Fq d ∧ ∀ H', (∀ b u, v ≠ .ref b → H b = some u → H' b = some u) → Q (.bl true) H'
theorem ok_law_right (D : Def K mg "_law_right" s_law_right ["_law_value"]) (B : Bs mg) (Glb : Glo mg) (WK : WebK K mg C) (EXInvalidReadings : ExcV P w K mg base "InvalidReadings" CE) (EXe : PySem.W.exmOne K (.ref CE) (.ref CE) = some true) (kS : PySem.W.kitOne K (.ref C) (.type "str") = some false)
    (h_law_heard : GoodG P w K mg base "_law_heard" s_law_heard ["_law_value"] 7 (sp_law_heard K C CE))
    (h_law_sorted : Good P w K mg base "_law_sorted" s_law_sorted ["_law_told"] 1 (sp_law_sorted K C CE))
    (h_law_are_ones : Good P w K mg base "_law_are_ones" s_law_are_ones ["_law_value"] 3 (sp_law_are_ones K C CE))
    (h_law_times : Good P w K mg base "_law_times" s_law_times ["_law_readings_here"] 1 (sp_law_times K C CE))
    (hLot_readings : GoodM P w K mg base C "readings" "Lot.readings" sLot_readings ["self"] 1 (spLot_readings K C CE)) :
    GoodG P w K mg base "_law_right" s_law_right ["_law_value"] 8 (sp_law_right K C CE) := by
  refine D.goodG fun f fd F => ?_
  obtain ⟨f_law_heard, d_law_heard, O_law_heard, m_law_heard, k_law_heard, b_law_heard, F_law_heard⟩ := h_law_heard
  obtain ⟨f_law_sorted, d_law_sorted, O_law_sorted, m_law_sorted, k_law_sorted, b_law_sorted, F_law_sorted⟩ := h_law_sorted
  obtain ⟨f_law_are_ones, d_law_are_ones, O_law_are_ones, m_law_are_ones, k_law_are_ones, b_law_are_ones, F_law_are_ones⟩ := h_law_are_ones
  obtain ⟨f_law_times, d_law_times, O_law_times, m_law_times, k_law_times, b_law_times, F_law_times⟩ := h_law_times
  obtain ⟨fLot_readings, dLot_readings, OLot_readings, tLot_readings, bLot_readings, FLot_readings⟩ := hLot_readings
  refine FnG.ofBody F sc_law_right (fun vs H Q E h => ?_) (fun cdv A outer s H vs Q E hr quiet h => ?_)
  · obtain ⟨v, d, rfl, hv, hf, q⟩ := h
    first | rfl | (rcases h with ⟨_, _, rfl, _⟩ | ⟨_, rfl, _⟩ <;> rfl)
  obtain ⟨v, d, rfl, hv, hf, q⟩ := h
  have hur := hu70 hr
  refine ⟨_, (pss_cons (ps_set (i := 1) sc_law_right.nd rfl (by first | exact Or.inl rfl | exact Or.inr rfl) (pe_callB (call_repr_q quiet hur) (by rfl) B.repr (by decide +kernel) (pa_cons (pv 0) pa_nil)))
  (pss_cons (ps_set (i := 2) sc_law_right.nd rfl (by first | exact Or.inl rfl | exact Or.inr rfl) (pe_callG O_law_heard hr quiet rfl m_law_heard k_law_heard b_law_heard (pa_cons (pv 0) pa_nil)))
  (pss_cons (ps_if (pt_not (pt_val (pe_call O_law_are_ones (hr.mono (by decide)) rfl m_law_are_ones k_law_are_ones b_law_are_ones .nil pass0 (pa_cons (pv 0) pa_nil))))
    (pss_one (ps_ret (pe_cmpR op_eq (pv 2) (pv 1) (nomark _)))) pss_nil)
  (pss_cons (ps_set (i := 3) sc_law_right.nd rfl (by first | exact Or.inl rfl | exact Or.inr rfl) (pe_call O_law_sorted (hr.mono (by decide)) rfl m_law_sorted k_law_sorted b_law_sorted .nil pass0 (pa_cons (pe_call O_law_times (hr.mono (by decide)) rfl m_law_times k_law_times b_law_times .nil pass0 (pa_cons (pv 0) pa_nil)) pa_nil)))
  (pss_cons (ps_if (pt_val (pe_callB call_isi (by rfl) B.isinstance (by decide +kernel) (pa_cons (pv 0) (pa_cons (pe_bltn (v := .ty "list") (by rfl) B.list (by decide +kernel) rfl) pa_nil))))
    (pss_one (ps_expr (pe_bm PySem.F.plainAttrs_list PySem.F.slot_list_append PySem.F.type_list_append mt_append (pv 0) (pa_cons pe_non pa_nil)))) pss_nil)
  (pss_one (ps_ret (pe_and (pe_not (pe_callB call_isi (by rfl) B.isinstance (by decide +kernel) (pa_cons (pv 2) (pa_cons (pe_bltn (v := .ty "str") (by rfl) B.str (by decide +kernel) rfl) pa_nil)))) (pe_one (pe_cmpR (op_eqD hr.units) (pe_meth0 (pv 2) WK.cl tLot_readings OLot_readings (hr.mono (by decide)) bLot_readings .nil pass0) (pv 3) (nomark _))))))))))), ?_⟩
  refine ⟨_, rfl, v, d, rfl, hv.dq, hf.sh, hf.dep, hf.len, ?_⟩
  refine ⟨_, rfl, v, d, rfl, hv, hf, fun l L e hR k H1 a tl S1 na ntl hL => ?_, fun k H1 S1 => ?_⟩
  · have hok := areR_is hv k
    obtain ⟨l', L', e', hR', hlen, hok⟩ := hok
    subst e
    cases e'
    have eL := RdS.one hR hR'
    subst eL
    have hv1 := hv.same S1
    refine ⟨_, rfl, _, d, rfl, hv1, fun H2 S2 => ⟨_, rfl, iteNB (fun k2 => by rw [k] at k2; cases k2) (fun _ => ?_)⟩⟩
    have S12 := S1.trans S2
    refine ⟨_, rfl, l, L, rfl, hR.same S12, by omega, fun H3 dd S3 ndd hdd => ?_⟩
    have nds : ((sumT [] L).map Prod.fst).Nodup := sumT_nodup _ (by simp)
    have lns : (sumT [] L).length ≤ 60 := by
      have := sumT_len L []
      simp at this
      omega
    refine ⟨dd, sumT [] L, rfl, hdd, nds, by omega, fun H4 due ndue S4 hdue => ?_⟩
    have S14 := (S12.trans S3).trans S4
    have S24 := (S2.trans S3).trans S4
    have hv4 := hv.same S14
    have hL4 := hL.same S24
    have ndueH : H due = none := (S12.trans S3).free ndue
    have okT : ∀ e ∈ told (sumT [] L), OkT e.1 := fun e he => by
      have h1 := told_mem.mp he
      rcases sumT_mem (L := L) (D := []) (List.mem_map.mpr ⟨e, h1, rfl⟩) with z | z
      · cases z
      · obtain ⟨f, hf2, ef⟩ := List.mem_map.mp z
        rw [← ef]
        exact okT_of (hok f hf2).1
    have nl : ∀ {b : Addr}, H b = none → b ≠ l := fun h z => by
      obtain ⟨ts, h1, _⟩ := hR
      rw [z] at h
      rcases h1 with h1 | h1 <;> rw [h1] at h <;> cases h
    refine ⟨_, rfl, _, _, _, _, _, rfl, .ty _, hv4.ty, kit_ty (kit_lst d), _, rfl, iteB (fun kl => ?_) (fun kl => ?_)⟩
    case' refine_1 =>
      obtain ⟨vs, hl4⟩ := lst_is hv4 kl
      have hvl : vs.length ≤ 60 := by
        obtain ⟨ts, h1, h2⟩ := hR.same S14
        rcases h1 with h1 | h1 <;> rw [hl4] at h1 <;> injection h1 with h1
        · injection h1 with h1
          rw [h1, List.length_map, paired_len h2]
          omega
        · cases h1
      refine ⟨_, rfl, .inl ⟨rfl, _, SqL.of hl4⟩, l, _, _, rfl, rfl, hl4, Nat.lt_of_le_of_lt hvl (by decide), ?_⟩
      have f5 : ∀ b u, V.ref l ≠ .ref b → H4 b = some u → upd H4 l (.lst (vs ++ [V.non])) b = some u := fun b u n e => by rw [upd_ne (fun z => n (by rw [z]))]; exact e
      have ft : ∀ p xs, H4 p = some (.tup xs) → upd H4 l (.lst (vs ++ [V.non])) p = some (.tup xs) := fun p xs e => by rw [upd_ne (ne_of e hl4 (by intro z; cases z))]; exact e
      generalize upd H4 l (.lst (vs ++ [V.non])) = H5 at f5 ft
    case' refine_2 =>
      have f5 : ∀ b u, V.ref l ≠ .ref b → H4 b = some u → H4 b = some u := fun b u _ e => e
      have ft : ∀ p xs, H4 p = some (.tup xs) → H4 p = some (.tup xs) := fun p xs e => e
    all_goals
      have hL5 := hL4.far f5 ft (nl na) (nl ntl)
      have hdue5 := hdue.far f5 ft (nl ndueH)
      obtain ⟨dy, g1, _⟩ := id hL5
      refine ⟨_, rfl, _, _, _, _, false, rfl, .ty _, .base (.ins g1 WK.cl WK.i1 WK.i2 WK.i3 WK.i4), kS, _, rfl, _, rfl, iteT ?_⟩
      refine ⟨_, rfl, a, dy, _, rfl, g1, lf_none _ _ (by decide +kernel) (by decide +kernel), a, tl, 2, _, rfl, hL5, fun H6 l6 nl6 S6 hR6 => ?_⟩
      refine ⟨_, rfl, _, _, dp_rd hR6, dp_rd (hdue5.same S6), shaped_si okT, shaped_si okT, ?_⟩
      rw [SeqAt.eqv_refl _ (SeqAt.canLay_of_shaped (shaped_si okT))]
      exact q _ fun b u n e => S6 _ _ (f5 _ _ n (S14 _ _ e))
  · refine ⟨_, rfl, v, d, rfl, hv.same S1, fun H2 S2 => ⟨_, rfl, iteNB (fun _ => ?_) (fun k2 => by rw [k] at k2; cases k2)⟩⟩
    refine ⟨_, rfl, _, rfl, rfl, ?_⟩
    show Q (.bl (decide (V.str d.shown = V.str d.shown))) _
    rw [decide_eq_true rfl]
    exact q _ fun b u _ e => S2 _ _ (S1 _ _ e)
end
end My
set_option maxHeartbeats 4000000
namespace My
open PySem L2 PyProof.Rows
/-! ### data of bounded size -/
structure Gd (n w : Nat) (d : PyData) : Prop where
  sh : d.showable = true
  ls : d.leavesShort 13 = true
  dep : d.depth ≤ n
  wt : d.weight ≤ w
structure GdA (n w : Nat) (ds : List PyData) : Prop where
  sh : PyData.showableAll ds = true
  ls : PyData.leavesShortAll 13 ds = true
  dep : PyData.depthAll ds ≤ n
  wt : PyData.weightAll ds ≤ w
theorem Gd.more {n m w u : Nat} {d : PyData} (h : Gd n w d) (a : n ≤ m) (b : w ≤ u) : Gd m u d := ⟨h.sh, h.ls, Nat.le_trans h.dep a, Nat.le_trans h.wt b⟩
theorem GdA.more {n m w u : Nat} {d : List PyData} (h : GdA n w d) (a : n ≤ m) (b : w ≤ u) : GdA m u d := ⟨h.sh, h.ls, Nat.le_trans h.dep a, Nat.le_trans h.wt b⟩
theorem GdA.nil {n w : Nat} : GdA n w [] := ⟨rfl, rfl, Nat.zero_le _, Nat.zero_le _⟩
theorem GdA.cons {n w u : Nat} {d : PyData} {ds : List PyData} (h : Gd n w d) (k : GdA n u ds) : GdA n (w + 1 + u) (d :: ds) := by
  refine ⟨?_, ?_, ?_, ?_⟩
  · show (d.showable && PyData.showableAll ds) = true
    rw [h.sh, k.sh]; rfl
  · show (d.leavesShort 13 && PyData.leavesShortAll 13 ds) = true
    rw [h.ls, k.ls]; rfl
  · show max d.depth (PyData.depthAll ds) ≤ n
    have := h.dep; have := k.dep; omega
  · show d.weight + 1 + PyData.weightAll ds ≤ _
    have := h.wt; have := k.wt; omega
theorem GdA.inv {n w : Nat} {d : PyData} {ds : List PyData} (h : GdA n w (d :: ds)) : ∃ u v, u + 1 + v ≤ w ∧ Gd n u d ∧ GdA n v ds := by
  obtain ⟨h1, h2, h3, h4⟩ := h
  have h1 : (d.showable && PyData.showableAll ds) = true := h1
  have h2 : (d.leavesShort 13 && PyData.leavesShortAll 13 ds) = true := h2
  have h3 : max d.depth (PyData.depthAll ds) ≤ n := h3
  have h4 : d.weight + 1 + PyData.weightAll ds ≤ w := h4
  rw [Bool.and_eq_true] at h1 h2
  exact ⟨_, _, h4, ⟨h1.1, h2.1, by omega, Nat.le_refl _⟩, ⟨h1.2, h2.2, by omega, Nat.le_refl _⟩⟩
theorem GdA.len {n : Nat} : ∀ {ds : List PyData} {w : Nat}, GdA n w ds → ds.length ≤ w
  | [], _, _ => Nat.zero_le _
  | d :: ds, w, h => by
    obtain ⟨u, v, h1, _, h2⟩ := h.inv
    have := GdA.len h2
    simp only [List.length_cons]
    omega
theorem GdA.app {n u : Nat} {es : List PyData} (k : GdA n u es) : ∀ {ds : List PyData} {w : Nat}, GdA n w ds → GdA n (w + u) (ds ++ es)
  | [], w, _ => k.more (Nat.le_refl _) (Nat.le_add_left _ _)
  | d :: ds, w, h => by
    obtain ⟨a, b, h1, h2, h3⟩ := h.inv
    exact (GdA.cons h2 (GdA.app k h3)).more (Nat.le_refl _) (by omega)
theorem GdA.take {n : Nat} : ∀ {ds : List PyData} {w : Nat} (i : Nat), GdA n w ds → GdA n w (ds.take i)
  | [], _, i, h => by rw [List.take_nil]; exact h
  | _ :: _, _, 0, _ => GdA.nil
  | d :: ds, w, i + 1, h => by
    obtain ⟨a, b, h1, h2, h3⟩ := h.inv
    exact (GdA.cons h2 (GdA.take i h3)).more (Nat.le_refl _) (by omega)
/-- a list cut at i -/
theorem GdA.cut {n : Nat} : ∀ {ds : List PyData} {w i : Nat} {e : PyData}, GdA n w ds → ds[i]? = some e → ∃ a b c, a + b + 1 + c ≤ w ∧ GdA n a (ds.take i) ∧ Gd n b e ∧ GdA n c (ds.drop (i + 1))
  | [], _, _, _, _, k => by cases k
  | d :: ds, w, 0, e, h, k => by
    cases k
    obtain ⟨a, b, h1, h2, h3⟩ := h.inv
    exact ⟨0, a, b, by omega, GdA.nil, h2, h3⟩
  | d :: ds, w, i + 1, e, h, k => by
    obtain ⟨a, b, h1, h2, h3⟩ := h.inv
    obtain ⟨x, y, z, k1, k2, k3, k4⟩ := GdA.cut (i := i) h3 k
    exact ⟨a + 1 + x, y, z, by omega, GdA.cons h2 k2, k3, k4⟩
theorem GdA.list {n w : Nat} {ds : List PyData} (h : GdA n w ds) : Gd (n + 1) w (.list ds) := by
  refine ⟨?_, ?_, ?_, ?_⟩
  · unfold PyData.showable; exact h.sh
  · unfold PyData.leavesShort; exact h.ls
  · unfold PyData.depth; have := h.dep; omega
  · unfold PyData.weight; exact h.wt
theorem GdA.tup {n w : Nat} {ds : List PyData} (h : GdA n w ds) : Gd (n + 1) w (.tuple ds) := by
  refine ⟨?_, ?_, ?_, ?_⟩
  · unfold PyData.showable; exact h.sh
  · unfold PyData.leavesShort; exact h.ls
  · unfold PyData.depth; have := h.dep; omega
  · unfold PyData.weight; exact h.wt
theorem Gd.unl {n w : Nat} {ds : List PyData} (h : Gd n w (.list ds)) : ∃ m, n = m + 1 ∧ GdA m w ds := by
  obtain ⟨h1, h2, h3, h4⟩ := h
  unfold PyData.showable at h1
  unfold PyData.leavesShort at h2
  unfold PyData.depth at h3
  unfold PyData.weight at h4
  exact ⟨n - 1, by omega, h1, h2, by omega, h4⟩
theorem Gd.unt {n w : Nat} {ds : List PyData} (h : Gd n w (.tuple ds)) : ∃ m, n = m + 1 ∧ GdA m w ds := by
  obtain ⟨h1, h2, h3, h4⟩ := h
  unfold PyData.showable at h1
  unfold PyData.leavesShort at h2
  unfold PyData.depth at h3
  unfold PyData.weight at h4
  exact ⟨n - 1, by omega, h1, h2, by omega, h4⟩
theorem Gd.fq {n w : Nat} {d : PyData} (h : Gd n w d) (a : n ≤ 60) (b : w ≤ 1048576) : Fq d :=
  ⟨h.sh, Nat.le_trans h.dep a, PyData.shown_fits (B := 13) (by decide) (by decide) h.ls (Nat.le_trans h.wt (by rw [show (2 : Nat) ^ 20 = 1048576 by decide]; exact b))⟩
theorem gd_non {n : Nat} : Gd n 0 .none := ⟨rfl, rfl, Nat.zero_le _, Nat.zero_le _⟩
theorem gd_bool {n : Nat} (b : Bool) : Gd n 0 (.bool b) := ⟨rfl, rfl, Nat.zero_le _, Nat.zero_le _⟩
theorem gd_emp {n : Nat} : Gd (n + 1) 0 (.dict []) := ⟨rfl, rfl, by show 0 + 1 ≤ n + 1; omega, Nat.zero_le _⟩
theorem gd_nat : ∀ i : Fin 22, PyData.showable (.int (i.val : Int)) = true ∧ PyData.leavesShort 13 (.int (i.val : Int)) = true ∧ PyData.weight (.int (i.val : Int)) ≤ 5 := by decide +kernel
theorem gd_int {n : Nat} {i : Int} (h0 : 0 ≤ i) (h1 : i ≤ 21) : Gd n 5 (.int i) := by
  have h := gd_nat ⟨i.toNat, by omega⟩
  have e : ((i.toNat : Nat) : Int) = i := Int.toNat_of_nonneg h0
  simp only [e] at h
  exact ⟨h.1, h.2.1, Nat.zero_le _, h.2.2⟩
/-- a text whose letters may be shown, short -/
structure Tx (w : Nat) (x : Str) : Prop where
  cps : ∀ c ∈ x.cps.toList, c < 16 ^ 8
  len : x.length ≤ w
theorem Tx.gd {n w : Nat} {x : Str} (h : Tx w x) : Gd n w (.str x) := by
  refine ⟨rfl, ?_, Nat.zero_le _, h.len⟩
  unfold PyData.leavesShort
  rw [List.all_eq_true]
  exact fun c hc => decide_eq_true (h.cps c hc)
theorem Gd.tx {n w : Nat} {x : Str} (h : Gd n w (.str x)) : Tx w x := by
  have k := h.ls
  unfold PyData.leavesShort at k
  rw [List.all_eq_true] at k
  exact ⟨fun c hc => of_decide_eq_true (k c hc), h.wt⟩
theorem Tx.app {w u : Nat} {x y : Str} (h : Tx w x) (k : Tx u y) : Tx (w + u) (x ++ y) := by
  refine ⟨fun c hc => ?_, ?_⟩
  · have : c ∈ x.cps.toList ++ y.cps.toList := by
      rw [← Array.toList_append]
      exact hc
    exact (List.mem_append.mp this).elim (h.cps c) (k.cps c)
  · rw [str_app_len]
    have := h.len; have := k.len; omega
theorem Tx.more {w u : Nat} {x : Str} (h : Tx w x) (k : w ≤ u) : Tx u x := ⟨h.cps, Nat.le_trans h.len k⟩
theorem tx_nat : ∀ i : Fin 22, (∀ c ∈ (toString (i.val : Int) : Str).cps.toList, c < 16 ^ 8) ∧ (toString (i.val : Int) : Str).length ≤ 5 := by decide +kernel
theorem tx_bool : ∀ b : Bool, (∀ c ∈ (if b then "True" else "False" : Str).cps.toList, c < 16 ^ 8) ∧ (if b then "True" else "False" : Str).length ≤ 5 := by decide +kernel
/-! ### what may be bent -/
def leafOk : PyData → Bool
  | .int i => decide (0 ≤ i) && decide (i ≤ 21)
  | .bool _ => true
  | .str _ => true
  | _ => false
def pairOk : List PyData → Bool
  | [.str _, e] => leafOk e
  | _ => true
mutual
def ok1 : PyData → Bool
  | .tuple es => pairOk es && ok1All es
  | .list es => ok1All es
  | _ => true
def ok1All : List PyData → Bool
  | [] => true
  | e :: es => ok1 e && ok1All es
end
theorem ok1All_app : ∀ {ds es : List PyData}, ok1All ds = true → ok1All es = true → ok1All (ds ++ es) = true
  | [], _, _, k => k
  | d :: ds, es, h, k => by
    have h : (ok1 d && ok1All ds) = true := h
    rw [Bool.and_eq_true] at h
    show (ok1 d && ok1All (ds ++ es)) = true
    rw [h.1, ok1All_app h.2 k]; rfl
theorem ok1All_cut : ∀ {ds : List PyData} {i : Nat} {e : PyData}, ok1All ds = true → ds[i]? = some e → ok1All (ds.take i) = true ∧ ok1 e = true ∧ ok1All (ds.drop (i + 1)) = true
  | [], _, _, _, k => by cases k
  | d :: ds, 0, e, h, k => by
    cases k
    have h : (ok1 d && ok1All ds) = true := h
    rw [Bool.and_eq_true] at h
    exact ⟨rfl, h.1, h.2⟩
  | d :: ds, i + 1, e, h, k => by
    have h : (ok1 d && ok1All ds) = true := h
    rw [Bool.and_eq_true] at h
    obtain ⟨a, b, c⟩ := ok1All_cut (i := i) h.2 k
    refine ⟨?_, b, c⟩
    show (ok1 d && ok1All (ds.take i)) = true
    rw [h.1, a]; rfl
theorem ok1All_take : ∀ {ds : List PyData} (i : Nat), ok1All ds = true → ok1All (ds.take i) = true
  | [], i, _ => by rw [List.take_nil]; rfl
  | _ :: _, 0, _ => rfl
  | d :: ds, i + 1, h => by
    have h : (ok1 d && ok1All ds) = true := h
    rw [Bool.and_eq_true] at h
    show (ok1 d && ok1All (ds.take i)) = true
    rw [h.1, ok1All_take i h.2]; rfl
/-- a reading, its text any -/
def Rdg (d : PyData) : Prop := ∃ x, ∃ i : Int, d = .tuple [.str x, .int i] ∧ 0 ≤ i ∧ i ≤ 21
/-- what may be bent twice -/
def Rd2 (d : PyData) : Prop := Rdg d ∨ ∃ es, d = .list es ∧ ∀ e ∈ es, Rdg e
theorem Rdg.ok {d : PyData} (h : Rdg d) : ok1 d = true := by
  obtain ⟨x, i, rfl, h0, h1⟩ := h
  show ((decide (0 ≤ i) && decide (i ≤ 21)) && (true && (true && true))) = true
  rw [decide_eq_true h0, decide_eq_true h1]; rfl
theorem rdgs_ok : ∀ {es : List PyData}, (∀ e ∈ es, Rdg e) → ok1All es = true
  | [], _ => rfl
  | e :: es, h => by
    show (ok1 e && ok1All es) = true
    rw [(h e List.mem_cons_self).ok, rdgs_ok fun f hf => h f (List.mem_cons_of_mem _ hf)]; rfl
theorem rdgs_pair {es : List PyData} (h : ∀ e ∈ es, Rdg e) : pairOk es = true := by
  unfold pairOk
  split
  · obtain ⟨_, _, e, _⟩ := h _ List.mem_cons_self
    cases e
  · rfl
theorem Rd2.ok {d : PyData} (h : Rd2 d) : ok1 d = true := by
  rcases h with h | ⟨es, rfl, h⟩
  · exact h.ok
  · exact rdgs_ok h
/-! ### the heap without some -/
open Classical in
noncomputable def wo (N : Addr → Prop) (H : Hp) : Hp := fun b => if N b then none else H b
theorem wo_of {N : Addr → Prop} {H : Hp} {b : Addr} (h : ¬ N b) : wo N H b = H b := if_neg h
theorem wo_in {N : Addr → Prop} {H : Hp} {b : Addr} (h : N b) : wo N H b = none := if_pos h
theorem wo_same {N : Addr → Prop} {H : Hp} : Same (wo N H) H := fun b u e => by
  by_cases c : N b
  · rw [wo_in c] at e; cases e
  · rw [wo_of c] at e; exact e
theorem wo_frame {N : Addr → Prop} {H H' : Hp} (h : ∀ b u, ¬ N b → H b = some u → H' b = some u) : Same (wo N H) (wo N H') := fun b u e => by
  by_cases c : N b
  · rw [wo_in c] at e; cases e
  · rw [wo_of c] at e
    rw [wo_of c]
    exact h b u c e
theorem wo_kept {N : Addr → Prop} {a : Addr} {H H' : Hp} (k : Kept a H H') (ha : N a) : Same (wo N H) (wo N H') := wo_frame fun b u n e => k b u e fun z => n (by rw [z]; exact ha)
theorem VdAll.app {H : Hp} : ∀ {vs us : List V} {ds es : List PyData}, VdAll H vs ds → VdAll H us es → VdAll H (vs ++ us) (ds ++ es)
  | _, _, _, _, .nil, k => k
  | _, _, _, _, .cons h r, k => .cons h (VdAll.app r k)
theorem VdAll.take {H : Hp} : ∀ {vs : List V} {ds : List PyData} (i : Nat), VdAll H vs ds → VdAll H (vs.take i) (ds.take i)
  | _, _, i, .nil => by rw [List.take_nil, List.take_nil]; exact .nil
  | _, _, 0, .cons _ _ => .nil
  | _, _, i + 1, .cons h r => .cons h (VdAll.take i r)
theorem VdAll.drop {H : Hp} : ∀ {vs : List V} {ds : List PyData} (i : Nat), VdAll H vs ds → VdAll H (vs.drop i) (ds.drop i)
  | _, _, i, .nil => by rw [List.drop_nil, List.drop_nil]; exact .nil
  | _, _, 0, .cons h r => .cons h r
  | _, _, i + 1, .cons _ r => VdAll.drop i r
/-- a value whose parts stand without N -/
inductive Tv (N : Addr → Prop) (H : Hp) : V → PyData → Prop
  | non : Tv N H .non .none
  | bl (b : Bool) : Tv N H (.bl b) (.bool b)
  | int (i : Int) : Tv N H (.int i) (.int i)
  | str (x : Str) (h : x.length ≤ 1000) : Tv N H (.str x) (.str x)
  | lst {p : Addr} {vs : List V} {es : List PyData} (h : H p = some (.lst vs)) (k : VdAll (wo N H) vs es) : Tv N H (.ref p) (.list es)
  | tup {p : Addr} {vs : List V} {es : List PyData} (h : H p = some (.tup vs)) (k : VdAll (wo N H) vs es) : Tv N H (.ref p) (.tuple es)
  | emp {p : Addr} (h : H p = some (.dK [])) : Tv N H (.ref p) (.dict [])
theorem Vd.tv {N : Addr → Prop} {H : Hp} {v : V} {d : PyData} (h : Vd (wo N H) v d) : Tv N H v d := by
  cases h with
  | non => exact .non
  | bl b => exact .bl b
  | int i => exact .int i
  | str x h => exact .str x h
  | lst h k => exact .lst (wo_same _ _ h) k
  | tup h k => exact .tup (wo_same _ _ h) k
  | emp h => exact .emp (wo_same _ _ h)
theorem Tv.vd {N : Addr → Prop} {H : Hp} {v : V} {d : PyData} (h : Tv N H v d) : Vd H v d := by
  cases h with
  | non => exact .non
  | bl b => exact .bl b
  | int i => exact .int i
  | str x h => exact .str x h
  | lst h k => exact .lst h (k.same wo_same)
  | tup h k => exact .tup h (k.same wo_same)
  | emp h => exact .emp h
theorem Tv.same {N : Addr → Prop} {H H' : Hp} {v : V} {d : PyData} (h : Tv N H v d) (s : Same H H') : Tv N H' v d := by
  have sw := wo_frame (N := N) fun b u _ e => s b u e
  cases h with
  | non => exact .non
  | bl b => exact .bl b
  | int i => exact .int i
  | str x h => exact .str x h
  | lst h k => exact .lst (s _ _ h) (k.same sw)
  | tup h k => exact .tup (s _ _ h) (k.same sw)
  | emp h => exact .emp (s _ _ h)
section
variable {X : Cx}
/-- str(n), str(b), str(x) -/
theorem call_str3 : CallR X (.type "str") (fun xs H Q => ∃ v, xs = [v] ∧ ((∃ i, v = .int i ∧ i.natAbs.log2 < 1920 ∧ Q (.str (toString i)) H) ∨ (∃ b, v = .bl b ∧ Q (.str (if b then "True" else "False")) H) ∨ ∃ a, v = .str a ∧ Q (.str a) H)) := by
  intro pins s σ H xs us Q I r h
  obtain ⟨v, rfl, ⟨i, rfl, hz, q⟩ | ⟨b, rfl, q⟩ | ⟨a, rfl, q⟩⟩ := h
  · obtain ⟨u, rfl, t, rfl⟩ := vals1 r
    exact PySem.P.str_of_int hz ⟨.str _, H, I.tok _, ⟨_, rfl⟩, q⟩
  · obtain ⟨u, rfl, e⟩ := vals1 r
    cases e
    exact PySem.P.str_of_bool ⟨.str _, H, I.tok _, ⟨_, rfl⟩, q⟩
  · obtain ⟨u, rfl, t, rfl⟩ := vals1 r
    exact PySem.P.str_of_str ⟨.str a, H, I, ⟨t, rfl⟩, q⟩
end
end My
set_option maxHeartbeats 4000000
namespace My
open PySem L2 PyProof.Rows
def NK (N : Addr → Prop) (H : Hp) : Prop := ∀ p, N p → ∃ u, H p = some u
theorem NK.no {N : Addr → Prop} {H : Hp} {p : Addr} (h : NK N H) (n : H p = none) : ¬ N p := fun c => by
  obtain ⟨u, e⟩ := h p c
  rw [n] at e
  cases e
theorem NK.kept {N : Addr → Prop} {H H' : Hp} {a : Addr} (h : NK N H) (k : Kept a H H') (p : PotAt H' a) : NK N H' := fun b c => by
  obtain ⟨u, e⟩ := h b c
  by_cases z : b = a
  · obtain ⟨x, y, e2, _⟩ := p
    exact ⟨_, by rw [z]; exact e2⟩
  · exact ⟨u, k _ _ e z⟩
def spB (n : Nat) : Sp := fun vs H Q _ => ∃ a v d m w N, vs = [.ref a, v] ∧ PotAt H a ∧ N a ∧ NK N H ∧ Tv N H v d ∧ m < n ∧ Gd m w d ∧ w ≤ 400 ∧ ok1 d = true ∧ (∀ p, v = .ref p → p ≠ a) ∧
  ∀ v' d' H', Kept a H H' → PotAt H' a → Vd (wo N H') v' d' → (∀ p, v' = .ref p → H p = none) → Gd (m + 2) (2 * w + 60) d' → (Rd2 d → ok1 d' = true) → Q v' H'
theorem Kept.free {a x : Addr} {H G : Hp} (k : Kept a H G) (p : PotAt G a) (n : G x = none) : H x = none := by
  cases e : H x with
  | none => rfl
  | some u =>
    have z : x ≠ a := p.ne n
    have := k _ _ e z
    rw [n] at this
    cases this
theorem fr_at {N : Addr → Prop} {a x : Addr} {H G Hf H' : Hp} {o : HO} (hK : NK N H) (k : Kept a H G) (p : PotAt G a) (n : G x = none) (s : Same (upd G x o) Hf) (k' : Kept a Hf H') : H x = none ∧ wo N H' x = some o := by
  have h := k.free p n
  refine ⟨h, ?_⟩
  rw [wo_of (hK.no h)]
  exact k' _ _ (s _ _ upd_same) (p.ne n)
theorem ab3 : Gd 0 2 (.str (Str.ofString "ab")) := Tx.gd ⟨by decide +kernel, by decide +kernel⟩
theorem a1 : Gd 0 1 (.str (Str.ofString "a")) := Tx.gd ⟨by decide +kernel, by decide +kernel⟩
theorem gd_two {n w : Nat} {x : Str} {i : Int} (h : Gd 0 w (.str x)) (h0 : 0 ≤ i) (h1 : i ≤ 21) : Gd (n + 1) (w + 8) (.tuple [.str x, .int i]) :=
  ((GdA.cons (h.more (Nat.zero_le n) (Nat.le_refl _)) (GdA.cons (gd_int (n := n) h0 h1) (GdA.nil (w := 0)))).tup).more (Nat.le_refl _) (by omega)
theorem cutV_to {xs : List V} {k : Nat} : cutV xs none (some (k : Int)) = xs.take k := by
  unfold cutV
  rw [HT.sIx_none, HT.sIx_nat]
  show (xs.drop 0).take _ = _
  rw [List.drop_zero]
  by_cases h : k ≤ xs.length
  · rw [Nat.min_eq_left h]; rfl
  · rw [Nat.min_eq_right (by omega), List.take_of_length_le (by omega), List.take_of_length_le (by omega)]
theorem cutV_from {xs : List V} {k : Nat} : cutV xs (some (k : Int)) none = xs.drop k := by
  unfold cutV
  rw [HT.sIx_none, HT.sIx_nat]
  by_cases h : k ≤ xs.length
  · rw [Nat.min_eq_left h, List.take_of_length_le (by rw [List.length_drop]; omega)]
  · rw [Nat.min_eq_right (by omega), List.drop_of_length_le (by omega), List.drop_of_length_le (by omega)]
    simp
theorem kept_refl {a : Addr} {H : Hp} : Kept a H H := fun _ _ e _ => e
theorem kitLT {K : PySem.W.Frag} (d : PyData) : PySem.W.kitAny K (.type (tyD d)) [.type "list", .type "tuple"] = some (isL d || isT d) := by
  refine kitAny_cons (b := isL d) (kit_ty (kit_lst d)) (fun h => ?_) (fun h => ?_)
  · rw [h, Bool.false_or]
    refine kitAny_cons (b := isT d) (kit_ty (kit_tup d)) (fun h2 => ?_) (fun h2 => ?_)
    · rw [h2]; exact kitAny_nil
    · exact h2
  · rw [h]; rfl
theorem ok1_list {es : List PyData} (h : ok1 (.list es) = true) : ok1All es = true := h
theorem ok1_tup {es : List PyData} (h : ok1 (.tuple es) = true) : pairOk es = true ∧ ok1All es = true := by
  have h : (pairOk es && ok1All es) = true := h
  rwa [Bool.and_eq_true] at h
theorem rd2_list {es : List PyData} (h : Rd2 (.list es)) : ∀ e ∈ es, Rdg e := by
  rcases h with ⟨x, i, e, _⟩ | ⟨fs, e, h⟩
  · cases e
  · cases e; exact h
theorem str3 {H : Hp} {u : V} {d : PyData} {n w : Nat} (h : Vd H u d) (k : leafOk d = true) (g : Gd n w d) :
    ∃ st, Tx (w + 5) st ∧ ((∃ i : Int, u = .int i ∧ i.natAbs.log2 < 1920 ∧ Str.ofString (toString i) = st) ∨ (∃ b, u = .bl b ∧ (if b = true then Str.ofString "True" else Str.ofString "False") = st) ∨ u = .str st) := by
  cases h with
  | int i =>
    have k : (decide (0 ≤ i) && decide (i ≤ 21)) = true := k
    simp only [Bool.and_eq_true, decide_eq_true_eq] at k
    have t := tx_nat ⟨i.toNat, by omega⟩
    have e : ((i.toNat : Nat) : Int) = i := Int.toNat_of_nonneg k.1
    simp only [e] at t
    exact ⟨_, ⟨t.1, by have := t.2; omega⟩, .inl ⟨i, rfl, of_decide_eq_true g.sh, rfl⟩⟩
  | bl b =>
    have t := tx_bool b
    exact ⟨_, ⟨t.1, by have := t.2; omega⟩, .inr (.inl ⟨b, rfl, rfl⟩)⟩
  | str x _ => exact ⟨x, g.tx.more (by omega), .inr (.inr rfl)⟩
  | _ => cases k
theorem leaf_ok {d : PyData} (h : leafOk d = true) : ok1 d = true := by
  cases d <;> first | rfl | cases h
theorem pair_ok {d e : PyData} (h : leafOk e = true) (k : leafOk d = true) : ok1 (.tuple [d, e]) = true := by
  have : pairOk [d, e] = true := by
    unfold pairOk
    split
    · rename_i z
      cases z
      exact h
    · rfl
  show (pairOk [d, e] && (ok1 d && (ok1 e && true))) = true
  rw [this, leaf_ok h, leaf_ok k]; rfl
theorem txA : Tx 1 (Str.ofString "A") := ⟨by decide +kernel, by decide +kernel⟩
theorem txB : Tx 1 (Str.ofString " ") := ⟨by decide +kernel, by decide +kernel⟩
theorem txZ : Tx 1 (Str.ofString "z") := ⟨by decide +kernel, by decide +kernel⟩
theorem gd_pair {n w u : Nat} {d e : PyData} (h : Gd n w d) (k : Gd n u e) : Gd (n + 1) (w + u + 2) (.tuple [d, e]) := ((GdA.cons h (GdA.cons k (GdA.nil (w := 0)))).tup).more (Nat.le_refl _) (by omega)
section
variable {P : Program} {w : World} {K : PySem.W.Frag} {mg : Str → Option Value} {base : Heap} {C CE : Addr}
def sp_law_bent (_ : PySem.W.Frag) (_ _ : Addr) : Sp := spB 5
theorem bent_base (D : Def K mg "_law_bent" s_law_bent ["_law_pot_here", "_law_value"]) : Good P w K mg base "_law_bent" s_law_bent ["_law_pot_here", "_law_value"] 3 (spB 0) := by
  refine D.good fun f fd F => ?_
  refine F.ok sc_law_bent (fun vs H Q E h => ?_) (fun cdv A outer s H vs Q E hr h => ?_)
  · obtain ⟨a, v, d, m, w, N, e, _, _, _, _, h, _⟩ := h
    exact absurd h (Nat.not_lt_zero _)
  · obtain ⟨a, v, d, m, w, N, e, _, _, _, _, h, _⟩ := h
    exact absurd h (Nat.not_lt_zero _)
theorem bent_step {n : Nat} (D : Def K mg "_law_bent" s_law_bent ["_law_pot_here", "_law_value"]) (B : Bs mg) (Glb : Glo mg)
    (h_law_pick : Good P w K mg base "_law_pick" s_law_pick ["_law_pot_here", "_law_some"] 2 (sp_law_pick K C CE))
    (h_law_draw : Good P w K mg base "_law_draw" s_law_draw ["_law_pot_here", "_law_size"] 1 (sp_law_draw K C CE))
    (h_law_bent : Good P w K mg base "_law_bent" s_law_bent ["_law_pot_here", "_law_value"] (3 + n) (spB n)) :
    Good P w K mg base "_law_bent" s_law_bent ["_law_pot_here", "_law_value"] (3 + n + 1) (spB (n + 1)) := by
  refine D.good fun f fd F => ?_
  obtain ⟨f_law_pick, d_law_pick, O_law_pick, m_law_pick, k_law_pick, b_law_pick, F_law_pick⟩ := h_law_pick
  obtain ⟨f_law_draw, d_law_draw, O_law_draw, m_law_draw, k_law_draw, b_law_draw, F_law_draw⟩ := h_law_draw
  obtain ⟨f_law_bent, d_law_bent, O_law_bent, m_law_bent, k_law_bent, b_law_bent, F_law_bent⟩ := h_law_bent
  refine F.ok sc_law_bent (fun vs H Q E h => ?_) (fun cdv A outer s H vs Q E hr h => ?_)
  · obtain ⟨a, v, d, m, ww, N, rfl, hp, hN, hK, hv, hm, hG, hw, h1, hva, q⟩ := h
    rfl
  obtain ⟨a, v, d, m, ww, N, rfl, hp, hN, hK, hv, hm, hG, hw, h1, hva, q⟩ := h
  refine ⟨_, (pss_cons (ps_set (i := 2) sc_law_bent.nd rfl (by first | exact Or.inl rfl | exact Or.inr rfl) (pe_and (pe_callB call_isi (by rfl) B.isinstance (by decide +kernel) (pa_cons (pv 1) (pa_cons (pe_bltn (v := .ty "tuple") (by rfl) B.tuple (by decide +kernel) rfl) pa_nil))) (pe_and (pe_cmpR op_eq (pe_callB call_len_seq (by rfl) B.len (by decide +kernel) (pa_cons (pv 1) pa_nil)) pe_int (nomark _)) (pe_one (pe_callB call_isi (by rfl) B.isinstance (by decide +kernel) (pa_cons (pe_ix ix_seq (pv 1) pe_int (fun _ _ => rfl)) (pa_cons (pe_bltn (v := .ty "str") (by rfl) B.str (by decide +kernel) rfl) pa_nil)))))))
  (pss_cons (ps_if (PW.pt (pw_and (pt_val (pe_callB call_isiT (by rfl) B.isinstance (by decide +kernel) (pa_cons (pv 1) (pa_cons (pe_tup (pa_cons (pe_bltn (v := .ty "list") (by rfl) B.list (by decide +kernel) rfl) (pa_cons (pe_bltn (v := .ty "tuple") (by rfl) B.tuple (by decide +kernel) rfl) pa_nil))) pa_nil)))) (pw_and1 (pt_not (pt_val (pv 2))))))
    (pss_cons (ps_par3 (i := 3) (j := 4) (l := 5) (by rfl) sc_law_bent.nd rfl rfl rfl (by decide) (by decide) (by decide) rfl rfl rfl (pa_cons (pe_call O_law_draw (hr.mono (by omega)) rfl m_law_draw k_law_draw b_law_draw .nil pass0 (pa_cons (pv 0) (pa_cons pe_int pa_nil))) (pa_cons (pe_op op_mod (pe_call O_law_draw (hr.mono (by omega)) rfl m_law_draw k_law_draw b_law_draw .nil pass0 (pa_cons (pv 0) (pa_cons pe_int pa_nil))) (pe_callB (call_max2 rfl) (by rfl) B.max (by decide +kernel) (pa_cons pe_int (pa_cons (pe_callB call_len_seq (by rfl) B.len (by decide +kernel) (pa_cons (pv 1) pa_nil)) pa_nil)))) (pa_cons (pe_callTy call_list_of (by rfl) B.list (by decide +kernel) (pa_cons (pv 1) pa_nil)) pa_nil))) (by rfl))
  (pss_cons (ps_if (PW.pt (pw_or (pt_cmpR op_eq (pv 3) pe_int (nomark _)) (pw_or1 (pt_cmpR (op_eqN hr.units) (pv 5) (pe_lst pa_nil) (nomark _)))))
    (pss_one (ps_ret (pe_call O_law_pick (hr.mono (by omega)) rfl m_law_pick k_law_pick b_law_pick .nil pass0 (pa_cons (pv 0) (pa_cons (pe_lst (pa_cons (pe_callTy call_tuple_of (by rfl) B.tuple (by decide +kernel) (pa_cons (pv 5) pa_nil)) (pa_cons (pe_op op_cat (pv 5) (pe_lst (pa_cons pe_non pa_nil))) (pa_cons (pe_op op_cat (pv 5) (pe_lst (pa_cons (pe_tup (pa_cons pe_str (pa_cons pe_int pa_nil))) pa_nil))) (pa_cons pe_dnewK (pa_cons pe_non (pa_cons (pe_tup (pa_cons pe_str (pa_cons pe_int pa_nil))) pa_nil))))))) pa_nil))))) pss_nil)
  (pss_cons (ps_if (pt_cmpR op_eq (pv 3) pe_int (nomark _))
    (pss_one (ps_ret (pe_op op_cat (pv 5) (pe_slice sl_list (pv 5) po_none (po_some pe_int))))) pss_nil)
  (pss_one (ps_ret (pe_op op_cat (pe_op op_cat (pe_slice sl_list (pv 5) po_none (po_some (pv 4))) (pe_lst (pa_cons (pe_call O_law_bent (hr.mono (by omega)) rfl m_law_bent k_law_bent b_law_bent .nil pass0 (pa_cons (pv 0) (pa_cons (pe_ix ix_list (pv 5) (pv 4) (fun _ _ => rfl)) pa_nil))) pa_nil))) (pe_slice sl_list (pv 5) (po_some (pe_op op_add (pv 4) pe_int)) po_none))))))) pss_nil)
  (pss_cons (ps_if (pt_not (pt_val (pv 2)))
    (pss_one (ps_ret pe_non)) pss_nil)
  (pss_cons (ps_asg (pv 1) (pg_tup rfl (pgs_cons (pg_name (i := 6) sc_law_bent.nd rfl (by first | exact Or.inl rfl | exact Or.inr rfl)) (pgs_cons (pg_name (i := 7) sc_law_bent.nd rfl (by first | exact Or.inl rfl | exact Or.inr rfl)) pgs_nil))))
  (pss_cons (ps_set (i := 5) sc_law_bent.nd rfl (by first | exact Or.inl rfl | exact Or.inr rfl) (pe_lst (pa_cons (pe_lst (pa_cons (pv 6) (pa_cons (pv 7) pa_nil))) (pa_cons (pe_tup (pa_cons (pv 6) (pa_cons (pv 7) (pa_cons pe_int pa_nil)))) (pa_cons (pe_tup (pa_cons (pv 6) pa_nil)) (pa_cons (pe_tup (pa_cons (pv 6) (pa_cons pe_int pa_nil))) (pa_cons (pe_tup (pa_cons (pv 6) (pa_cons pe_int pa_nil))) (pa_cons (pe_tup (pa_cons (pv 6) (pa_cons pe_bl pa_nil))) pa_nil))))))))
  (pss_cons (ps_set (i := 5) sc_law_bent.nd rfl (by first | exact Or.inl rfl | exact Or.inr rfl) (pe_op op_cat (pv 5) (pe_lst (pa_cons (pe_tup (pa_cons (pv 6) (pa_cons (pe_callTy call_str3 (by rfl) B.str (by decide +kernel) (pa_cons (pv 7) pa_nil)) pa_nil))) (pa_cons (pe_tup (pa_cons (pe_op op_add_str (pv 6) pe_str) (pa_cons (pv 7) pa_nil))) (pa_cons (pe_tup (pa_cons (pe_op op_add_str (pv 6) pe_str) (pa_cons (pv 7) pa_nil))) (pa_cons (pe_tup (pa_cons (pv 7) (pa_cons (pv 6) pa_nil))) pa_nil)))))))
  (pss_one (ps_ret (pe_call O_law_pick (hr.mono (by omega)) rfl m_law_pick k_law_pick b_law_pick .nil pass0 (pa_cons (pv 0) (pa_cons (pe_op op_cat (pv 5) (pe_lst (pa_cons (pe_tup (pa_cons (pe_op op_add_str (pv 6) pe_str) (pa_cons (pv 7) pa_nil))) (pa_cons (pe_tup (pa_cons (pv 6) (pa_cons pe_int pa_nil))) (pa_cons pe_non pa_nil))))) pa_nil))))))))))), ?_⟩
  have hvd := hv.vd
  have hv0 := hvd
  have hW := Nat.le_of_lt_succ hm
  have hLa : ∀ p, v = .ref p → p ≠ a := hva
  cases hv
  case non =>
    refine ⟨_, rfl, _, _, _, _, _, rfl, .ty _, hvd.ty, kit_ty (kit_tup _), _, rfl, iteF ?_⟩
    refine ⟨_, rfl, (by show 2 ≤ sizeLine; decide), fun tp ntp => ⟨_, tp, [.ty "list", .ty "tuple"], _, [.type "list", .type "tuple"], false, rfl, upd_same, .cons (.ty _) (.cons (.ty _) .nil), (hv0.same (same_new ntp _)).ty, kitLT _, ?_⟩⟩
    refine ⟨_, rfl, iteF ⟨_, rfl, ⟨_, rfl, iteT ?_⟩⟩⟩
    exact q _ .none _ (Same.kept (same_new ntp _)) (hp.same (same_new ntp _)) .non (fun p e => by cases e) (gd_non.more (Nat.le_refl _) (Nat.zero_le _)) (fun _ => rfl)
  case bl =>
    refine ⟨_, rfl, _, _, _, _, _, rfl, .ty _, hvd.ty, kit_ty (kit_tup _), _, rfl, iteF ?_⟩
    refine ⟨_, rfl, (by show 2 ≤ sizeLine; decide), fun tp ntp => ⟨_, tp, [.ty "list", .ty "tuple"], _, [.type "list", .type "tuple"], false, rfl, upd_same, .cons (.ty _) (.cons (.ty _) .nil), (hv0.same (same_new ntp _)).ty, kitLT _, ?_⟩⟩
    refine ⟨_, rfl, iteF ⟨_, rfl, ⟨_, rfl, iteT ?_⟩⟩⟩
    exact q _ .none _ (Same.kept (same_new ntp _)) (hp.same (same_new ntp _)) .non (fun p e => by cases e) (gd_non.more (Nat.le_refl _) (Nat.zero_le _)) (fun _ => rfl)
  case int =>
    refine ⟨_, rfl, _, _, _, _, _, rfl, .ty _, hvd.ty, kit_ty (kit_tup _), _, rfl, iteF ?_⟩
    refine ⟨_, rfl, (by show 2 ≤ sizeLine; decide), fun tp ntp => ⟨_, tp, [.ty "list", .ty "tuple"], _, [.type "list", .type "tuple"], false, rfl, upd_same, .cons (.ty _) (.cons (.ty _) .nil), (hv0.same (same_new ntp _)).ty, kitLT _, ?_⟩⟩
    refine ⟨_, rfl, iteF ⟨_, rfl, ⟨_, rfl, iteT ?_⟩⟩⟩
    exact q _ .none _ (Same.kept (same_new ntp _)) (hp.same (same_new ntp _)) .non (fun p e => by cases e) (gd_non.more (Nat.le_refl _) (Nat.zero_le _)) (fun _ => rfl)
  case str =>
    refine ⟨_, rfl, _, _, _, _, _, rfl, .ty _, hvd.ty, kit_ty (kit_tup _), _, rfl, iteF ?_⟩
    refine ⟨_, rfl, (by show 2 ≤ sizeLine; decide), fun tp ntp => ⟨_, tp, [.ty "list", .ty "tuple"], _, [.type "list", .type "tuple"], false, rfl, upd_same, .cons (.ty _) (.cons (.ty _) .nil), (hv0.same (same_new ntp _)).ty, kitLT _, ?_⟩⟩
    refine ⟨_, rfl, iteF ⟨_, rfl, ⟨_, rfl, iteT ?_⟩⟩⟩
    exact q _ .none _ (Same.kept (same_new ntp _)) (hp.same (same_new ntp _)) .non (fun p e => by cases e) (gd_non.more (Nat.le_refl _) (Nat.zero_le _)) (fun _ => rfl)
  case emp =>
    refine ⟨_, rfl, _, _, _, _, _, rfl, .ty _, hvd.ty, kit_ty (kit_tup _), _, rfl, iteF ?_⟩
    refine ⟨_, rfl, (by show 2 ≤ sizeLine; decide), fun tp ntp => ⟨_, tp, [.ty "list", .ty "tuple"], _, [.type "list", .type "tuple"], false, rfl, upd_same, .cons (.ty _) (.cons (.ty _) .nil), (hv0.same (same_new ntp _)).ty, kitLT _, ?_⟩⟩
    refine ⟨_, rfl, iteF ⟨_, rfl, ⟨_, rfl, iteT ?_⟩⟩⟩
    exact q _ .none _ (Same.kept (same_new ntp _)) (hp.same (same_new ntp _)) .non (fun p e => by cases e) (gd_non.more (Nat.le_refl _) (Nat.zero_le _)) (fun _ => rfl)
  case' tup p vs es hl hA =>
    have hlen := hA.len
    refine ⟨_, rfl, _, _, _, _, _, rfl, .ty _, .base (.tup hl), kit_ty (by decide +kernel : kitB "tuple" "tuple" = some true), _, rfl, iteT ?_⟩
    refine ⟨_, rfl, _, _, rfl, .inr (SqT.of hl), rfl, ?_⟩
    by_cases h2 : vs.length = 2
    case' neg =>
      refine ⟨_, rfl, iteNo (fun z => h2 (by have := int_eq.mp z; omega)) ?_⟩
      have hR : ¬ Rdg (.tuple es) := fun ⟨x, i, e, _⟩ => h2 (by cases e; rw [hlen]; rfl)
    case' pos =>
      refine ⟨_, rfl, iteYes (by rw [h2]; rfl) ?_⟩
      obtain ⟨u0, u1, ev⟩ : ∃ u0 u1, vs = [u0, u1] := by
        match vs, h2 with
        | [a, b], _ => exact ⟨a, b, rfl⟩
      obtain ⟨d0, d1, ed, k0, k1⟩ : ∃ d0 d1, es = [d0, d1] ∧ Vd (wo N H) u0 d0 ∧ Vd (wo N H) u1 d1 := by
        subst ev
        cases hA with
        | cons z0 r => cases r with
          | cons z1 r2 => cases r2 with
            | nil => exact ⟨_, _, rfl, z0, z1⟩
      refine ⟨_, rfl, .inr (.inl ⟨_, _, _, u0, rfl, rfl, SqT.of hl, by rw [ev]; exact atI_nat (j := 0) rfl, ?_⟩)⟩
      refine ⟨_, _, _, _, _, rfl, .ty _, (k0.same wo_same).ty, kit_ty (kit_str d0), ?_⟩
      cases hs : isS d0
      case' true =>
        obtain ⟨x, rfl, rfl, hx⟩ : ∃ x, d0 = .str x ∧ u0 = .str x ∧ x.length ≤ 1000 := by
          cases k0 with
          | str x h => exact ⟨x, rfl, rfl, h⟩
          | _ => cases hs
        have hvl : (hvd.ty (K := K)) = hvd.ty := rfl
        clear hvl
        subst ev
        subst ed
        obtain ⟨hpr, hok⟩ := ok1_tup h1
        have hlf : leafOk d1 = true := hpr
        obtain ⟨m', rfl, hGA⟩ := hG.unt
        obtain ⟨ux, wr, hw1, gx, hr⟩ := hGA.inv
        obtain ⟨ut, wz, hw2, gt, _⟩ := hr.inv
        refine ⟨_, rfl, (by show 2 ≤ sizeLine; decide), fun tp ntp => ⟨_, tp, [.ty "list", .ty "tuple"], _, [.type "list", .type "tuple"], true, rfl, upd_same, .cons (.ty _) (.cons (.ty _) .nil), (hv0.same (same_new ntp _)).ty, kitLT (K := K) _, ?_⟩⟩
        refine ⟨_, rfl, iteT ⟨_, rfl, ⟨_, rfl, iteF ?_⟩⟩⟩
        have S0 := same_new ntp (.tup [.ty "list", .ty "tuple"])
        generalize upd H tp (.tup [.ty "list", .ty "tuple"]) = H1 at S0
        refine ⟨_, rfl, ⟨_, rfl, iteF ?_⟩⟩
        refine ⟨_, rfl, p, _, rfl, SqT.of (S0 _ _ hl), rfl, _, _, rfl, _, _, rfl, rfl, ?_⟩
        have gx0 := gx.tx
        have hxl := gx0.len
        refine ⟨_, rfl, _, rfl, (by show 2 ≤ sizeLine; decide), fun l1 nl1 => ?_⟩
        have S_l1 := same_new nl1 (.lst [V.str x, u1])
        have o_l1 : upd H1 l1 (.lst [V.str x, u1]) l1 = some (.lst [V.str x, u1]) := upd_same
        generalize e_l1 : upd H1 l1 (.lst [V.str x, u1]) = H2 at S_l1 o_l1
        refine ⟨_, rfl, _, rfl, (by show 3 ≤ sizeLine; decide), fun t2 nt2 => ?_⟩
        have S_t2 := same_new nt2 (.tup [V.str x, u1, V.int 1])
        have o_t2 : upd H2 t2 (.tup [V.str x, u1, V.int 1]) t2 = some (.tup [V.str x, u1, V.int 1]) := upd_same
        generalize e_t2 : upd H2 t2 (.tup [V.str x, u1, V.int 1]) = H3 at S_t2 o_t2
        refine ⟨_, rfl, (by show 1 ≤ sizeLine; decide), fun t3 nt3 => ?_⟩
        have S_t3 := same_new nt3 (.tup [V.str x])
        have o_t3 : upd H3 t3 (.tup [V.str x]) t3 = some (.tup [V.str x]) := upd_same
        generalize e_t3 : upd H3 t3 (.tup [V.str x]) = H4 at S_t3 o_t3
        refine ⟨_, rfl, (by show 2 ≤ sizeLine; decide), fun t4 nt4 => ?_⟩
        have S_t4 := same_new nt4 (.tup [V.str x, V.int 0])
        have o_t4 : upd H4 t4 (.tup [V.str x, V.int 0]) t4 = some (.tup [V.str x, V.int 0]) := upd_same
        generalize e_t4 : upd H4 t4 (.tup [V.str x, V.int 0]) = H5 at S_t4 o_t4
        refine ⟨_, rfl, (by show 2 ≤ sizeLine; decide), fun t5 nt5 => ?_⟩
        have S_t5 := same_new nt5 (.tup [V.str x, V.int 21])
        have o_t5 : upd H5 t5 (.tup [V.str x, V.int 21]) t5 = some (.tup [V.str x, V.int 21]) := upd_same
        generalize e_t5 : upd H5 t5 (.tup [V.str x, V.int 21]) = H6 at S_t5 o_t5
        refine ⟨_, rfl, (by show 2 ≤ sizeLine; decide), fun t6 nt6 => ?_⟩
        have S_t6 := same_new nt6 (.tup [V.str x, V.bl true])
        have o_t6 : upd H6 t6 (.tup [V.str x, V.bl true]) t6 = some (.tup [V.str x, V.bl true]) := upd_same
        generalize e_t6 : upd H6 t6 (.tup [V.str x, V.bl true]) = H7 at S_t6 o_t6
        refine ⟨(by show 6 ≤ sizeLine; decide), fun ps nps => ?_⟩
        have S_ps := same_new nps (.lst [V.ref l1, V.ref t2, V.ref t3, V.ref t4, V.ref t5, V.ref t6])
        have o_ps : upd H7 ps (.lst [V.ref l1, V.ref t2, V.ref t3, V.ref t4, V.ref t5, V.ref t6]) ps = some (.lst [V.ref l1, V.ref t2, V.ref t3, V.ref t4, V.ref t5, V.ref t6]) := upd_same
        generalize e_ps : upd H7 ps (.lst [V.ref l1, V.ref t2, V.ref t3, V.ref t4, V.ref t5, V.ref t6]) = H8 at S_ps o_ps
        refine ⟨_, rfl, _, rfl, _, rfl, ?_⟩
        obtain ⟨st, hst, hcs⟩ := str3 k1 hlf gt
        rcases hcs with ⟨i, eu, hl2, e⟩ | ⟨b, eu, e⟩ | eu
        case' inl =>
          refine ⟨_, rfl, .inl ⟨i, eu, hl2, ?_⟩⟩
          rw [e]
        case' inr.inl =>
          refine ⟨_, rfl, .inr (.inl ⟨b, eu, ?_⟩)⟩
          rw [e]
        case' inr.inr => refine ⟨_, rfl, .inr (.inr ⟨st, eu, ?_⟩)⟩
        all_goals
          refine ⟨(by show 2 ≤ sizeLine; decide), fun q1 nq1 => ?_⟩
          have S_q1 := same_new nq1 (.tup [V.str x, V.str st])
          have o_q1 : upd H8 q1 (.tup [V.str x, V.str st]) q1 = some (.tup [V.str x, V.str st]) := upd_same
          generalize e_q1 : upd H8 q1 (.tup [V.str x, V.str st]) = H9 at S_q1 o_q1
          refine ⟨_, rfl, _, _, rfl, rfl, Nat.le_trans (by show x.length + 1 ≤ 401; omega) (by decide : 401 ≤ sizeLine), _, rfl, (by show 2 ≤ sizeLine; decide), fun q2 nq2 => ?_⟩
          have S_q2 := same_new nq2 (.tup [V.str (x ++ Str.ofString "A"), u1])
          have o_q2 : upd H9 q2 (.tup [V.str (x ++ Str.ofString "A"), u1]) q2 = some (.tup [V.str (x ++ Str.ofString "A"), u1]) := upd_same
          generalize e_q2 : upd H9 q2 (.tup [V.str (x ++ Str.ofString "A"), u1]) = H10 at S_q2 o_q2
          refine ⟨_, rfl, _, _, rfl, rfl, Nat.le_trans (by show x.length + 1 ≤ 401; omega) (by decide : 401 ≤ sizeLine), _, rfl, (by show 2 ≤ sizeLine; decide), fun q3 nq3 => ?_⟩
          have S_q3 := same_new nq3 (.tup [V.str (x ++ Str.ofString " "), u1])
          have o_q3 : upd H10 q3 (.tup [V.str (x ++ Str.ofString " "), u1]) q3 = some (.tup [V.str (x ++ Str.ofString " "), u1]) := upd_same
          generalize e_q3 : upd H10 q3 (.tup [V.str (x ++ Str.ofString " "), u1]) = H11 at S_q3 o_q3
          refine ⟨_, rfl, _, rfl, (by show 2 ≤ sizeLine; decide), fun q4 nq4 => ?_⟩
          have S_q4 := same_new nq4 (.tup [u1, V.str x])
          have o_q4 : upd H11 q4 (.tup [u1, V.str x]) q4 = some (.tup [u1, V.str x]) := upd_same
          generalize e_q4 : upd H11 q4 (.tup [u1, V.str x]) = H12 at S_q4 o_q4
          refine ⟨(by show 4 ≤ sizeLine; decide), fun pq npq => ?_⟩
          have S_pq := same_new npq (.lst [V.ref q1, V.ref q2, V.ref q3, V.ref q4])
          have o_pq : upd H12 pq (.lst [V.ref q1, V.ref q2, V.ref q3, V.ref q4]) pq = some (.lst [V.ref q1, V.ref q2, V.ref q3, V.ref q4]) := upd_same
          generalize e_pq : upd H12 pq (.lst [V.ref q1, V.ref q2, V.ref q3, V.ref q4]) = H13 at S_pq o_pq
          refine ⟨ps, pq, _, _, rfl, rfl, (Same.trans (Same.trans (Same.trans (Same.trans S_q1 S_q2) S_q3) S_q4) S_pq) _ _ o_ps, o_pq, (by show 10 ≤ sizeLine; decide), fun ps2 nps2 => ?_⟩
          have S_ps2 := same_new nps2 (.lst ([V.ref l1, V.ref t2, V.ref t3, V.ref t4, V.ref t5, V.ref t6] ++ [V.ref q1, V.ref q2, V.ref q3, V.ref q4]))
          have o_ps2 : upd H13 ps2 (.lst ([V.ref l1, V.ref t2, V.ref t3, V.ref t4, V.ref t5, V.ref t6] ++ [V.ref q1, V.ref q2, V.ref q3, V.ref q4])) ps2 = some (.lst ([V.ref l1, V.ref t2, V.ref t3, V.ref t4, V.ref t5, V.ref t6] ++ [V.ref q1, V.ref q2, V.ref q3, V.ref q4])) := upd_same
          generalize e_ps2 : upd H13 ps2 (.lst ([V.ref l1, V.ref t2, V.ref t3, V.ref t4, V.ref t5, V.ref t6] ++ [V.ref q1, V.ref q2, V.ref q3, V.ref q4])) = H14 at S_ps2 o_ps2
          refine ⟨_, rfl, _, rfl, _, rfl, _, _, rfl, rfl, Nat.le_trans (by show x.length + 1 ≤ 401; omega) (by decide : 401 ≤ sizeLine), _, rfl, (by show 2 ≤ sizeLine; decide), fun c1 nc1 => ?_⟩
          have S_c1 := same_new nc1 (.tup [V.str (x ++ Str.ofString "z"), u1])
          have o_c1 : upd H14 c1 (.tup [V.str (x ++ Str.ofString "z"), u1]) c1 = some (.tup [V.str (x ++ Str.ofString "z"), u1]) := upd_same
          generalize e_c1 : upd H14 c1 (.tup [V.str (x ++ Str.ofString "z"), u1]) = H15 at S_c1 o_c1
          refine ⟨_, rfl, (by show 2 ≤ sizeLine; decide), fun c2 nc2 => ?_⟩
          have S_c2 := same_new nc2 (.tup [V.str x, V.int 20])
          have o_c2 : upd H15 c2 (.tup [V.str x, V.int 20]) c2 = some (.tup [V.str x, V.int 20]) := upd_same
          generalize e_c2 : upd H15 c2 (.tup [V.str x, V.int 20]) = H16 at S_c2 o_c2
          refine ⟨(by show 3 ≤ sizeLine; decide), fun pc npc => ?_⟩
          have S_pc := same_new npc (.lst [V.ref c1, V.ref c2, V.non])
          have o_pc : upd H16 pc (.lst [V.ref c1, V.ref c2, V.non]) pc = some (.lst [V.ref c1, V.ref c2, V.non]) := upd_same
          generalize e_pc : upd H16 pc (.lst [V.ref c1, V.ref c2, V.non]) = H17 at S_pc o_pc
          refine ⟨ps2, pc, _, _, rfl, rfl, (Same.trans (Same.trans S_c1 S_c2) S_pc) _ _ o_ps2, o_pc, (by show 13 ≤ sizeLine; decide), fun pl npl => ?_⟩
          have S_pl := same_new npl (.lst ([V.ref l1, V.ref t2, V.ref t3, V.ref t4, V.ref t5, V.ref t6] ++ [V.ref q1, V.ref q2, V.ref q3, V.ref q4] ++ [V.ref c1, V.ref c2, V.non]))
          have o_pl : upd H17 pl (.lst ([V.ref l1, V.ref t2, V.ref t3, V.ref t4, V.ref t5, V.ref t6] ++ [V.ref q1, V.ref q2, V.ref q3, V.ref q4] ++ [V.ref c1, V.ref c2, V.non])) pl = some (.lst ([V.ref l1, V.ref t2, V.ref t3, V.ref t4, V.ref t5, V.ref t6] ++ [V.ref q1, V.ref q2, V.ref q3, V.ref q4] ++ [V.ref c1, V.ref c2, V.non])) := upd_same
          generalize e_pl : upd H17 pl (.lst ([V.ref l1, V.ref t2, V.ref t3, V.ref t4, V.ref t5, V.ref t6] ++ [V.ref q1, V.ref q2, V.ref q3, V.ref q4] ++ [V.ref c1, V.ref c2, V.non])) = H18 at S_pl o_pl
          have j1 : Kept a H H1 := Same.kept S0
          have p1' : PotAt H1 a := hp.same S0
          have j2 : Kept a H H2 := j1.trans (Same.kept S_l1)
          have p2' : PotAt H2 a := PotAt.same p1' S_l1
          have j3 : Kept a H H3 := j2.trans (Same.kept S_t2)
          have p3' : PotAt H3 a := PotAt.same p2' S_t2
          have j4 : Kept a H H4 := j3.trans (Same.kept S_t3)
          have p4' : PotAt H4 a := PotAt.same p3' S_t3
          have j5 : Kept a H H5 := j4.trans (Same.kept S_t4)
          have p5' : PotAt H5 a := PotAt.same p4' S_t4
          have j6 : Kept a H H6 := j5.trans (Same.kept S_t5)
          have p6' : PotAt H6 a := PotAt.same p5' S_t5
          have j7 : Kept a H H7 := j6.trans (Same.kept S_t6)
          have p7' : PotAt H7 a := PotAt.same p6' S_t6
          have j8 : Kept a H H8 := j7.trans (Same.kept S_ps)
          have p8' : PotAt H8 a := PotAt.same p7' S_ps
          have j9 : Kept a H H9 := j8.trans (Same.kept S_q1)
          have p9' : PotAt H9 a := PotAt.same p8' S_q1
          have j10 : Kept a H H10 := j9.trans (Same.kept S_q2)
          have p10' : PotAt H10 a := PotAt.same p9' S_q2
          have j11 : Kept a H H11 := j10.trans (Same.kept S_q3)
          have p11' : PotAt H11 a := PotAt.same p10' S_q3
          have j12 : Kept a H H12 := j11.trans (Same.kept S_q4)
          have p12' : PotAt H12 a := PotAt.same p11' S_q4
          have j13 : Kept a H H13 := j12.trans (Same.kept S_pq)
          have p13' : PotAt H13 a := PotAt.same p12' S_pq
          have j14 : Kept a H H14 := j13.trans (Same.kept S_ps2)
          have p14' : PotAt H14 a := PotAt.same p13' S_ps2
          have j15 : Kept a H H15 := j14.trans (Same.kept S_c1)
          have p15' : PotAt H15 a := PotAt.same p14' S_c1
          have j16 : Kept a H H16 := j15.trans (Same.kept S_c2)
          have p16' : PotAt H16 a := PotAt.same p15' S_c2
          have j17 : Kept a H H17 := j16.trans (Same.kept S_pc)
          have p17' : PotAt H17 a := PotAt.same p16' S_pc
          have j18 : Kept a H H18 := j17.trans (Same.kept S_pl)
          have p18' : PotAt H18 a := PotAt.same p17' S_pl
          refine ⟨a, pl, _, rfl, o_pl, PotAt.ne p17' npl, by simp, by simp, p18', fun v' H' hv' hk' hp' => ?_⟩
          have hkk := j18.trans hk'
          have u1k : Vd (wo N H') u1 d1 := k1.same (wo_kept hkk hN)
          have xk : ∀ {G : Hp}, Vd G (V.str x) (.str x) := .str x hx
          have gxm : Gd m' ux (.str x) := gx
          have f_l1 := fr_at hK j1 p1' nl1 (by rw [e_l1]; exact (Same.trans (Same.trans (Same.trans (Same.trans (Same.trans (Same.trans (Same.trans (Same.trans (Same.trans (Same.trans (Same.trans (Same.trans (Same.trans (Same.trans (Same.trans S_t2 S_t3) S_t4) S_t5) S_t6) S_ps) S_q1) S_q2) S_q3) S_q4) S_pq) S_ps2) S_c1) S_c2) S_pc) S_pl)) hk'
          have f_t2 := fr_at hK j2 p2' nt2 (by rw [e_t2]; exact (Same.trans (Same.trans (Same.trans (Same.trans (Same.trans (Same.trans (Same.trans (Same.trans (Same.trans (Same.trans (Same.trans (Same.trans (Same.trans (Same.trans S_t3 S_t4) S_t5) S_t6) S_ps) S_q1) S_q2) S_q3) S_q4) S_pq) S_ps2) S_c1) S_c2) S_pc) S_pl)) hk'
          have f_t3 := fr_at hK j3 p3' nt3 (by rw [e_t3]; exact (Same.trans (Same.trans (Same.trans (Same.trans (Same.trans (Same.trans (Same.trans (Same.trans (Same.trans (Same.trans (Same.trans (Same.trans (Same.trans S_t4 S_t5) S_t6) S_ps) S_q1) S_q2) S_q3) S_q4) S_pq) S_ps2) S_c1) S_c2) S_pc) S_pl)) hk'
          have f_t4 := fr_at hK j4 p4' nt4 (by rw [e_t4]; exact (Same.trans (Same.trans (Same.trans (Same.trans (Same.trans (Same.trans (Same.trans (Same.trans (Same.trans (Same.trans (Same.trans (Same.trans S_t5 S_t6) S_ps) S_q1) S_q2) S_q3) S_q4) S_pq) S_ps2) S_c1) S_c2) S_pc) S_pl)) hk'
          have f_t5 := fr_at hK j5 p5' nt5 (by rw [e_t5]; exact (Same.trans (Same.trans (Same.trans (Same.trans (Same.trans (Same.trans (Same.trans (Same.trans (Same.trans (Same.trans (Same.trans S_t6 S_ps) S_q1) S_q2) S_q3) S_q4) S_pq) S_ps2) S_c1) S_c2) S_pc) S_pl)) hk'
          have f_t6 := fr_at hK j6 p6' nt6 (by rw [e_t6]; exact (Same.trans (Same.trans (Same.trans (Same.trans (Same.trans (Same.trans (Same.trans (Same.trans (Same.trans (Same.trans S_ps S_q1) S_q2) S_q3) S_q4) S_pq) S_ps2) S_c1) S_c2) S_pc) S_pl)) hk'
          have f_q1 := fr_at hK j8 p8' nq1 (by rw [e_q1]; exact (Same.trans (Same.trans (Same.trans (Same.trans (Same.trans (Same.trans (Same.trans (Same.trans S_q2 S_q3) S_q4) S_pq) S_ps2) S_c1) S_c2) S_pc) S_pl)) hk'
          have f_q2 := fr_at hK j9 p9' nq2 (by rw [e_q2]; exact (Same.trans (Same.trans (Same.trans (Same.trans (Same.trans (Same.trans (Same.trans S_q3 S_q4) S_pq) S_ps2) S_c1) S_c2) S_pc) S_pl)) hk'
          have f_q3 := fr_at hK j10 p10' nq3 (by rw [e_q3]; exact (Same.trans (Same.trans (Same.trans (Same.trans (Same.trans (Same.trans S_q4 S_pq) S_ps2) S_c1) S_c2) S_pc) S_pl)) hk'
          have f_q4 := fr_at hK j11 p11' nq4 (by rw [e_q4]; exact (Same.trans (Same.trans (Same.trans (Same.trans (Same.trans S_pq S_ps2) S_c1) S_c2) S_pc) S_pl)) hk'
          have f_c1 := fr_at hK j14 p14' nc1 (by rw [e_c1]; exact (Same.trans (Same.trans S_c2 S_pc) S_pl)) hk'
          have f_c2 := fr_at hK j15 p15' nc2 (by rw [e_c2]; exact (Same.trans S_pc S_pl)) hk'
          simp only [List.cons_append, List.nil_append, List.mem_cons, List.not_mem_nil, or_false] at hv'
          rcases hv' with rfl | rfl | rfl | rfl | rfl | rfl | rfl | rfl | rfl | rfl | rfl | rfl | rfl
          · exact q _ (.list [.str x, d1]) H' hkk hp' (.lst f_l1.2 (.cons xk (.cons u1k .nil))) (fun p e => by cases e; exact f_l1.1) ((GdA.list (GdA.cons gxm (GdA.cons gt (GdA.nil (w := 0))))).more (by omega) (by omega)) (fun _ => by show (true && (ok1 d1 && true)) = true; rw [leaf_ok hlf]; rfl)
          · exact q _ (.tuple [.str x, d1, .int 1]) H' hkk hp' (.tup f_t2.2 (.cons xk (.cons u1k (.cons (.int 1) .nil)))) (fun p e => by cases e; exact f_t2.1) ((GdA.tup (GdA.cons gxm (GdA.cons gt (GdA.cons (gd_int (n := m') (i := 1) (by decide) (by decide)) (GdA.nil (w := 0)))))).more (by omega) (by omega)) (fun _ => by show (true && (true && (ok1 d1 && (true && true)))) = true; rw [leaf_ok hlf]; rfl)
          · exact q _ (.tuple [.str x]) H' hkk hp' (.tup f_t3.2 (.cons xk .nil)) (fun p e => by cases e; exact f_t3.1) ((GdA.tup (GdA.cons gxm (GdA.nil (w := 0)))).more (by omega) (by omega)) (fun _ => rfl)
          · exact q _ (.tuple [.str x, .int 0]) H' hkk hp' (.tup f_t4.2 (.cons xk (.cons (.int 0) .nil))) (fun p e => by cases e; exact f_t4.1) ((gd_two (n := m') (gx0.gd) (by decide) (by decide)).more (by omega) (by omega)) (fun _ => pair_ok rfl rfl)
          · exact q _ (.tuple [.str x, .int 21]) H' hkk hp' (.tup f_t5.2 (.cons xk (.cons (.int 21) .nil))) (fun p e => by cases e; exact f_t5.1) ((gd_two (n := m') (gx0.gd) (by decide) (by decide)).more (by omega) (by omega)) (fun _ => pair_ok rfl rfl)
          · exact q _ (.tuple [.str x, .bool true]) H' hkk hp' (.tup f_t6.2 (.cons xk (.cons (.bl true) .nil))) (fun p e => by cases e; exact f_t6.1) ((gd_pair gxm (gd_bool (n := m') true)).more (by omega) (by omega)) (fun _ => pair_ok rfl rfl)
          · exact q _ (.tuple [.str x, .str st]) H' hkk hp' (.tup f_q1.2 (.cons xk (.cons (.str st (by have := hst.len; omega)) .nil))) (fun p e => by cases e; exact f_q1.1) ((gd_pair gxm (hst.gd (n := m'))).more (by omega) (by omega)) (fun _ => pair_ok rfl rfl)
          · exact q _ (.tuple [.str (x ++ Str.ofString "A"), d1]) H' hkk hp' (.tup f_q2.2 (.cons (.str _ (by rw [str_app_len]; show x.length + 1 ≤ 1000; omega)) (.cons u1k .nil))) (fun p e => by cases e; exact f_q2.1) ((gd_pair ((gx0.app txA).gd (n := m')) gt).more (by omega) (by omega)) (fun _ => pair_ok hlf rfl)
          · exact q _ (.tuple [.str (x ++ Str.ofString " "), d1]) H' hkk hp' (.tup f_q3.2 (.cons (.str _ (by rw [str_app_len]; show x.length + 1 ≤ 1000; omega)) (.cons u1k .nil))) (fun p e => by cases e; exact f_q3.1) ((gd_pair ((gx0.app txB).gd (n := m')) gt).more (by omega) (by omega)) (fun _ => pair_ok hlf rfl)
          · exact q _ (.tuple [d1, .str x]) H' hkk hp' (.tup f_q4.2 (.cons u1k (.cons xk .nil))) (fun p e => by cases e; exact f_q4.1) ((gd_pair gt gxm).more (by omega) (by omega)) (fun _ => pair_ok rfl hlf)
          · exact q _ (.tuple [.str (x ++ Str.ofString "z"), d1]) H' hkk hp' (.tup f_c1.2 (.cons (.str _ (by rw [str_app_len]; show x.length + 1 ≤ 1000; omega)) (.cons u1k .nil))) (fun p e => by cases e; exact f_c1.1) ((gd_pair ((gx0.app txZ).gd (n := m')) gt).more (by omega) (by omega)) (fun _ => pair_ok hlf rfl)
          · exact q _ (.tuple [.str x, .int 20]) H' hkk hp' (.tup f_c2.2 (.cons xk (.cons (.int 20) .nil))) (fun p e => by cases e; exact f_c2.1) ((gd_two (n := m') (gx0.gd) (by decide) (by decide)).more (by omega) (by omega)) (fun _ => pair_ok rfl rfl)
          · exact q _ .none H' hkk hp' .non (fun p e => by cases e) (gd_non.more (Nat.le_refl _) (Nat.zero_le _)) (fun _ => rfl)
      case' false => have hR : ¬ Rdg (.tuple es) := fun ⟨x, i, e, _⟩ => by
                      rw [ed] at e
                      cases e
                      cases hs
    all_goals
      have hpot : p ≠ a := fun z => hp.ntup hl z
      have hSk : ∀ H', Kept a H H' → (SqL K H' p vs ∨ SqT K H' p vs) := fun H' k => .inr (SqT.of (k _ _ hl hpot))
      have hd : Rd2 (.tuple es) → ∀ e ∈ es, Rdg e := fun z => by
        rcases z with z | ⟨fs, e, _⟩
        · exact absurd z hR
        · cases e
      have hI := kitLT (K := K) (.tuple es)
      obtain ⟨m', rfl, hGA⟩ := hG.unt
      obtain ⟨hpr, hok⟩ := ok1_tup h1
      have hpL : ∀ q, H q = none → q ≠ p := fun q z y => by rw [y, hl] at z; cases z
  case' lst p vs es hl hA =>
    have hlen := hA.len
    refine ⟨_, rfl, _, _, _, _, _, rfl, .ty _, .base (.lst hl), kit_ty (by decide +kernel : kitB "list" "tuple" = some false), _, rfl, iteF ?_⟩
    have hpot : p ≠ a := hLa p rfl
    have hSk : ∀ H', Kept a H H' → (SqL K H' p vs ∨ SqT K H' p vs) := fun H' k => .inl (SqL.of (k _ _ hl hpot))
    have hd : Rd2 (.list es) → ∀ e ∈ es, Rdg e := rd2_list
    have hI := kitLT (K := K) (.list es)
    obtain ⟨m', rfl, hGA⟩ := hG.unl
    have hok := ok1_list h1
    have hpL : ∀ q, H q = none → q ≠ p := fun q z y => by rw [y, hl] at z; cases z
  all_goals
    replace hI : PySem.W.kitAny K _ [.type "list", .type "tuple"] = some true := hI
    have hty := hvd.ty (K := K)
    clear hG h1 hl
  all_goals
    refine ⟨_, rfl, (by show 2 ≤ sizeLine; decide), fun tp ntp => ⟨_, tp, [.ty "list", .ty "tuple"], _, [.type "list", .type "tuple"], true, rfl, upd_same, .cons (.ty _) (.cons (.ty _) .nil), ?_, hI, ?_⟩⟩
    · exact (hv0.same (same_new ntp _)).ty
    refine ⟨_, rfl, iteT ⟨_, rfl, ⟨_, rfl, iteT ?_⟩⟩⟩
    have S0 := same_new ntp (.tup [.ty "list", .ty "tuple"])
    generalize upd H tp (.tup [.ty "list", .ty "tuple"]) = H1 at S0
    refine ⟨_, rfl, a, 4, rfl, hp.same S0, by decide, by decide, fun way H2 hway hk2 hp2 => ?_⟩
    refine ⟨_, rfl, a, 12, rfl, hp2, by decide, by decide, fun dd H3 hdd hk3 hp3 => ?_⟩
    have hk03 : Kept a H H3 := (Same.kept S0).trans (hk2.trans hk3)
    have hpa : p ≠ a := fun z => hpot z
    have hS3 : SqL K H3 p vs ∨ SqT K H3 p vs := hSk _ hk03
    have hll : vs.length ≤ sizeLine := Nat.le_trans (by have := hGA.len; omega : vs.length ≤ 400) (by decide)
    refine ⟨_, rfl, _, _, rfl, hS3, ?_⟩
    refine ⟨_, _, rfl, _, _, rfl, rfl, by split <;> omega, ?_⟩
    obtain ⟨at_, hat⟩ : ∃ z, (dd : Int) % (if (vs.length : Int) > 1 then (vs.length : Int) else 1) = z := ⟨_, rfl⟩
    have hat0 : 0 ≤ at_ ∧ (0 < vs.length → at_ < vs.length) := by
      rw [← hat]
      refine ⟨Int.emod_nonneg _ (by split <;> omega), fun z => ?_⟩
      have := Int.emod_lt_of_pos (dd : Int) (b := if (vs.length : Int) > 1 then (vs.length : Int) else 1) (by split <;> omega)
      split at this <;> rename_i c
      · rw [if_pos c]; omega
      · rw [if_neg c]; omega
    refine ⟨_, rfl, p, vs, rfl, hS3, fun l nl => ⟨_, _, _, rfl, ?_⟩⟩
    have S4 := same_new nl (.lst vs)
    have hl4 : upd H3 l (.lst vs) l = some (.lst vs) := upd_same
    have hk04 : Kept a H (upd H3 l (.lst vs)) := hk03.trans (Same.kept S4)
    have hp4 := hp3.same S4
    have hla : l ≠ a := hp3.ne nl
    generalize upd H3 l (.lst vs) = H4 at S4 hl4 hk04 hp4
    have S5 : Same H4 H4 := fun _ _ e => e
    by_cases c0 : way = 0
    case' pos => 
      refine ⟨_, rfl, rfl, ⟨_, rfl, iteYes (by rw [c0]; rfl) ?_⟩⟩
      obtain ⟨H5, hH5⟩ : ∃ G, G = H4 := ⟨_, rfl⟩
      replace S5 : Same H4 H5 := by rw [hH5]; exact S5
      rw [← hH5]
    case' neg =>
      refine ⟨_, rfl, rfl, ⟨_, rfl, iteNo (fun z => c0 (by have := int_eq.mp z; omega)) ?_⟩⟩
      refine ⟨_, rfl, Nat.zero_le _, fun en nen => ?_⟩
      have S5 := same_new nen (.lst [])
      have o_en : upd H4 en (.lst []) en = some (.lst []) := upd_same
      generalize e_en : upd H4 en (.lst []) = H5 at S5 o_en
      refine ⟨l, en, vs, rfl, rfl, SqL.of (S5 _ _ hl4), SqL.of o_en, fun hz => ?_, fun hz => ?_⟩
      rotate_left
      · refine ⟨_, rfl, iteF ?_⟩
        refine ⟨_, rfl, rfl, ⟨_, rfl, ite2 (fun c1 => ?_) (fun c1 => ?_)⟩⟩
        · refine ⟨_, rfl, _, rfl, _, rfl, l, vs, rfl, SqL.of (S5 _ _ hl4), fun p1 np1 => ?_⟩
          rw [show cutV vs none (some (1 : Int)) = vs.take 1 from cutV_to (k := 1)]
          have S_p1 := same_new np1 (.lst (vs.take 1))
          have o_p1 : upd H5 p1 (.lst (vs.take 1)) p1 = some (.lst (vs.take 1)) := upd_same
          generalize e_p1 : upd H5 p1 (.lst (vs.take 1)) = H6 at S_p1 o_p1
          have k6 : Kept a H H6 := (hk04.trans (Same.kept S5)).trans (Same.kept S_p1)
          have p6 : PotAt H6 a := PotAt.same (PotAt.same hp4 S5) S_p1
          have hle := hGA.len
          refine ⟨l, p1, _, _, rfl, rfl, S_p1 _ _ (S5 _ _ hl4), o_p1, Nat.le_trans (by rw [List.length_take]; omega : vs.length + (vs.take 1).length ≤ 800) (by decide), fun r nr => ?_⟩
          have f_r := fr_at (o := .lst (vs ++ vs.take 1)) hK k6 p6 nr (fun _ _ e => e) kept_refl
          have hkk := k6.trans (Same.kept (same_new nr (.lst (vs ++ vs.take 1))))
          have hAk : VdAll (wo N (upd H6 r (.lst (vs ++ vs.take 1)))) vs es := hA.same (wo_kept hkk hN)
          exact q _ (.list (es ++ es.take 1)) _ hkk (p6.same (same_new nr _)) (.lst f_r.2 (hAk.app (hAk.take 1))) (fun p e => by cases e; exact f_r.1) (((GdA.app (GdA.take 1 hGA) hGA).list).more (by omega) (by omega)) (fun _ => ok1All_app hok (ok1All_take 1 hok))
        · have hpos : 0 < vs.length := by
            cases vs with
            | nil => exact absurd rfl hz
            | cons x r => exact Nat.succ_pos _
          obtain ⟨j, ej⟩ : ∃ j : Nat, at_ = (j : Int) := ⟨at_.toNat, by rw [Int.toNat_of_nonneg hat0.1]⟩
          have hj : j < vs.length := by have := hat0.2 hpos; omega
          rw [ej] at hat
          obtain ⟨x, hx⟩ : ∃ x, vs[j]? = some x := ⟨_, List.getElem?_eq_getElem hj⟩
          obtain ⟨e, he, hve⟩ := hA.at hx
          obtain ⟨wa, wb, wc, hww, g1, g2, g3⟩ := hGA.cut he
          obtain ⟨b1, b2, b3⟩ := ok1All_cut hok he
          refine ⟨_, rfl, _, rfl, _, rfl, l, vs, rfl, SqL.of (S5 _ _ hl4), fun p1 np1 => ?_⟩
          rw [show cutV vs none (some ((dd : Int) % (if (vs.length : Int) > 1 then (vs.length : Int) else 1))) = vs.take j by rw [hat]; exact cutV_to]
          have S_p1 := same_new np1 (.lst (vs.take j))
          have o_p1 : upd H5 p1 (.lst (vs.take j)) p1 = some (.lst (vs.take j)) := upd_same
          generalize e_p1 : upd H5 p1 (.lst (vs.take j)) = H6 at S_p1 o_p1
          have k6 : Kept a H H6 := (hk04.trans (Same.kept S5)).trans (Same.kept S_p1)
          have p6 : PotAt H6 a := PotAt.same (PotAt.same hp4 S5) S_p1
          have hl6 := S_p1 _ _ (S5 _ _ hl4)
          refine ⟨_, rfl, _, rfl, _, rfl, l, vs, _, x, rfl, rfl, SqL.of hl6, (by show atI vs ((dd : Int) % (if (vs.length : Int) > 1 then (vs.length : Int) else 1)) = some x; rw [hat]; exact atI_nat hx), ?_⟩
          have w6 := wo_kept k6 hN
          refine ⟨a, x, e, _, wb, N, rfl, p6, hN, hK.kept k6 p6, (hve.same w6).tv, by omega, g2, by omega, b2, fun y ey ea => ?_, fun v' d' H7 k7 p7 hv7 hf7 hG7 ho7 => ?_⟩
          · rw [ey, ea] at hve
            cases hve with
            | lst z _ => rw [wo_in hN] at z; cases z
            | tup z _ => rw [wo_in hN] at z; cases z
            | emp z => rw [wo_in hN] at z; cases z
          have k07 := k6.trans k7
          have hp1a : p1 ≠ a := (PotAt.same hp4 S5).ne np1
          have hl7 := k7 _ _ hl6 hla
          have hp17 := k7 _ _ o_p1 hp1a
          refine ⟨(by show 1 ≤ sizeLine; decide), fun p2 np2 => ?_⟩
          have S_p2 := same_new np2 (.lst [v'])
          have o_p2 : upd H7 p2 (.lst [v']) p2 = some (.lst [v']) := upd_same
          generalize e_p2 : upd H7 p2 (.lst [v']) = H8 at S_p2 o_p2
          have hle := hGA.len
          refine ⟨p1, p2, _, _, rfl, rfl, S_p2 _ _ hp17, o_p2, Nat.le_trans (by rw [List.length_take]; show min j vs.length + 1 ≤ 800; omega : (vs.take j).length + [v'].length ≤ 800) (by decide), fun p3 np3 => ?_⟩
          have S_p3 := same_new np3 (.lst (vs.take j ++ [v']))
          have o_p3 : upd H8 p3 (.lst (vs.take j ++ [v'])) p3 = some (.lst (vs.take j ++ [v'])) := upd_same
          generalize e_p3 : upd H8 p3 (.lst (vs.take j ++ [v'])) = H9 at S_p3 o_p3
          refine ⟨_, rfl, _, rfl, _, _, rfl, rfl, _, rfl, l, vs, rfl, SqL.of (S_p3 _ _ (S_p2 _ _ hl7)), fun p4 np4 => ?_⟩
          rw [show cutV vs (some ((dd : Int) % (if (vs.length : Int) > 1 then (vs.length : Int) else 1) + 1)) none = vs.drop (j + 1) by rw [hat]; exact cutV_from (k := j + 1)]
          have S_p4 := same_new np4 (.lst (vs.drop (j + 1)))
          have o_p4 : upd H9 p4 (.lst (vs.drop (j + 1))) p4 = some (.lst (vs.drop (j + 1))) := upd_same
          generalize e_p4 : upd H9 p4 (.lst (vs.drop (j + 1))) = H10 at S_p4 o_p4
          refine ⟨p3, p4, _, _, rfl, rfl, S_p4 _ _ o_p3, o_p4, Nat.le_trans (by rw [List.length_append, List.length_take, List.length_drop]; show min j vs.length + 1 + (vs.length - (j + 1)) ≤ 800; omega : (vs.take j ++ [v']).length + (vs.drop (j + 1)).length ≤ 800) (by decide), fun r nr => ?_⟩
          have S710 : Same H7 H10 := (S_p2.trans S_p3).trans S_p4
          have k010 : Kept a H H10 := k07.trans (Same.kept S710)
          have p10 : PotAt H10 a := p7.same S710
          have f_r := fr_at (o := .lst (vs.take j ++ [v'] ++ vs.drop (j + 1))) hK k010 p10 nr (fun _ _ e => e) kept_refl
          have hkk := k010.trans (Same.kept (same_new nr (.lst (vs.take j ++ [v'] ++ vs.drop (j + 1)))))
          have hAk : VdAll (wo N (upd H10 r (.lst (vs.take j ++ [v'] ++ vs.drop (j + 1))))) vs es := hA.same (wo_kept hkk hN)
          have hvk : Vd (wo N (upd H10 r (.lst (vs.take j ++ [v'] ++ vs.drop (j + 1))))) v' d' := hv7.same (wo_frame fun b u _ z => same_new nr _ _ _ (S710 _ _ z))
          refine q _ (.list (es.take j ++ [d'] ++ es.drop (j + 1))) _ hkk (p10.same (same_new nr _)) (.lst f_r.2 (((hAk.take j).app (.cons hvk .nil)).app (hAk.drop (j + 1)))) (fun p e => by cases e; exact f_r.1) ?_ (fun z => ?_)
          · exact ((GdA.app (g3.more (by omega : m' ≤ m' + 2) (Nat.le_refl _)) (GdA.app (GdA.cons hG7 (GdA.nil (w := 0))) (g1.more (by omega) (Nat.le_refl _)))).list).more (by omega) (by omega)
          · refine ok1All_app (ok1All_app b1 ?_) b3
            show (ok1 d' && true) = true
            rw [ho7 (.inl (hd z e (List.mem_of_getElem? he)))]; rfl
      refine ⟨_, rfl, iteT ?_⟩
  all_goals
    refine ⟨_, rfl, _, rfl, l, vs, rfl, .inl ⟨SqL.of (S5 _ _ hl4), fun t nt => ?_⟩⟩
    have S_t := same_new nt (.tup vs)
    have o_t : upd H5 t (.tup vs) t = some (.tup vs) := upd_same
    generalize e_t : upd H5 t (.tup vs) = H6 at S_t o_t
    refine ⟨_, rfl, (by show 1 ≤ sizeLine; decide), fun p1 np1 => ?_⟩
    have S_p1 := same_new np1 (.lst [V.non])
    have o_p1 : upd H6 p1 (.lst [V.non]) p1 = some (.lst [V.non]) := upd_same
    generalize e_p1 : upd H6 p1 (.lst [V.non]) = H7 at S_p1 o_p1
    have hl7 := S_p1 _ _ (S_t _ _ (S5 _ _ hl4))
    refine ⟨l, p1, vs, _, rfl, rfl, hl7, o_p1, Nat.le_trans (by show vs.length + 1 ≤ 401; have := hGA.len; omega) (by decide : 401 ≤ sizeLine), fun r1 nr1 => ?_⟩
    have S_r1 := same_new nr1 (.lst (vs ++ [V.non]))
    have o_r1 : upd H7 r1 (.lst (vs ++ [V.non])) r1 = some (.lst (vs ++ [V.non])) := upd_same
    generalize e_r1 : upd H7 r1 (.lst (vs ++ [V.non])) = H8 at S_r1 o_r1
    refine ⟨_, rfl, (by show 2 ≤ sizeLine; decide), fun t2 nt2 => ?_⟩
    have S_t2 := same_new nt2 (.tup [V.str (Str.ofString "ab"), V.int 3])
    have o_t2 : upd H8 t2 (.tup [V.str (Str.ofString "ab"), V.int 3]) t2 = some (.tup [V.str (Str.ofString "ab"), V.int 3]) := upd_same
    generalize e_t2 : upd H8 t2 (.tup [V.str (Str.ofString "ab"), V.int 3]) = H9 at S_t2 o_t2
    refine ⟨(by show 1 ≤ sizeLine; decide), fun p2 np2 => ?_⟩
    have S_p2 := same_new np2 (.lst [V.ref t2])
    have o_p2 : upd H9 p2 (.lst [V.ref t2]) p2 = some (.lst [V.ref t2]) := upd_same
    generalize e_p2 : upd H9 p2 (.lst [V.ref t2]) = H10 at S_p2 o_p2
    have hl10 := S_p2 _ _ (S_t2 _ _ (S_r1 _ _ hl7))
    refine ⟨l, p2, vs, _, rfl, rfl, hl10, o_p2, Nat.le_trans (by show vs.length + 1 ≤ 401; have := hGA.len; omega) (by decide : 401 ≤ sizeLine), fun r2 nr2 => ?_⟩
    have S_r2 := same_new nr2 (.lst (vs ++ [V.ref t2]))
    have o_r2 : upd H10 r2 (.lst (vs ++ [V.ref t2])) r2 = some (.lst (vs ++ [V.ref t2])) := upd_same
    generalize e_r2 : upd H10 r2 (.lst (vs ++ [V.ref t2])) = H11 at S_r2 o_r2
    refine fun dk ndk => ?_
    have S_dk := same_new ndk (.dK [])
    have o_dk : upd H11 dk (.dK []) dk = some (.dK []) := upd_same
    generalize e_dk : upd H11 dk (.dK []) = H12 at S_dk o_dk
    refine ⟨(by show 2 ≤ sizeLine; decide), fun t3 nt3 => ?_⟩
    have S_t3 := same_new nt3 (.tup [V.str (Str.ofString "a"), V.int 1])
    have o_t3 : upd H12 t3 (.tup [V.str (Str.ofString "a"), V.int 1]) t3 = some (.tup [V.str (Str.ofString "a"), V.int 1]) := upd_same
    generalize e_t3 : upd H12 t3 (.tup [V.str (Str.ofString "a"), V.int 1]) = H13 at S_t3 o_t3
    refine ⟨(by show 6 ≤ sizeLine; decide), fun pl npl => ?_⟩
    have S_pl := same_new npl (.lst [V.ref t, V.ref r1, V.ref r2, V.ref dk, V.non, V.ref t3])
    have o_pl : upd H13 pl (.lst [V.ref t, V.ref r1, V.ref r2, V.ref dk, V.non, V.ref t3]) pl = some (.lst [V.ref t, V.ref r1, V.ref r2, V.ref dk, V.non, V.ref t3]) := upd_same
    generalize e_pl : upd H13 pl (.lst [V.ref t, V.ref r1, V.ref r2, V.ref dk, V.non, V.ref t3]) = H14 at S_pl o_pl
    have k5 : Kept a H H5 := hk04.trans (Same.kept S5)
    have p5 := hp4.same S5
    have k6 : Kept a H H6 := k5.trans (Same.kept S_t)
    have p6 : PotAt H6 a := PotAt.same p5 S_t
    have k7 : Kept a H H7 := k6.trans (Same.kept S_p1)
    have p7 : PotAt H7 a := PotAt.same p6 S_p1
    have k8 : Kept a H H8 := k7.trans (Same.kept S_r1)
    have p8 : PotAt H8 a := PotAt.same p7 S_r1
    have k9 : Kept a H H9 := k8.trans (Same.kept S_t2)
    have p9 : PotAt H9 a := PotAt.same p8 S_t2
    have k10 : Kept a H H10 := k9.trans (Same.kept S_p2)
    have p10 : PotAt H10 a := PotAt.same p9 S_p2
    have k11 : Kept a H H11 := k10.trans (Same.kept S_r2)
    have p11 : PotAt H11 a := PotAt.same p10 S_r2
    have k12 : Kept a H H12 := k11.trans (Same.kept S_dk)
    have p12 : PotAt H12 a := PotAt.same p11 S_dk
    have k13 : Kept a H H13 := k12.trans (Same.kept S_t3)
    have p13 : PotAt H13 a := PotAt.same p12 S_t3
    have k14 : Kept a H H14 := k13.trans (Same.kept S_pl)
    have p14 : PotAt H14 a := PotAt.same p13 S_pl
    refine ⟨a, pl, _, rfl, o_pl, p13.ne npl, by simp, by simp, p14, fun v' H' hv' hk' hp' => ?_⟩
    have f_t := fr_at hK k5 p5 nt (by rw [e_t]; exact (((((((S_p1).trans S_r1).trans S_t2).trans S_p2).trans S_r2).trans S_dk).trans S_t3).trans S_pl) hk'
    have f_p1 := fr_at hK k6 p6 np1 (by rw [e_p1]; exact ((((((S_r1).trans S_t2).trans S_p2).trans S_r2).trans S_dk).trans S_t3).trans S_pl) hk'
    have f_r1 := fr_at hK k7 p7 nr1 (by rw [e_r1]; exact (((((S_t2).trans S_p2).trans S_r2).trans S_dk).trans S_t3).trans S_pl) hk'
    have f_t2 := fr_at hK k8 p8 nt2 (by rw [e_t2]; exact ((((S_p2).trans S_r2).trans S_dk).trans S_t3).trans S_pl) hk'
    have f_p2 := fr_at hK k9 p9 np2 (by rw [e_p2]; exact (((S_r2).trans S_dk).trans S_t3).trans S_pl) hk'
    have f_r2 := fr_at hK k10 p10 nr2 (by rw [e_r2]; exact ((S_dk).trans S_t3).trans S_pl) hk'
    have f_dk := fr_at hK k11 p11 ndk (by rw [e_dk]; exact (S_t3).trans S_pl) hk'
    have f_t3 := fr_at hK k12 p12 nt3 (by rw [e_t3]; exact S_pl) hk'
    have hAk : VdAll (wo N H') vs es := hA.same (wo_kept (k14.trans hk') hN)
    have hkk := k14.trans hk'
    have v_t2 : Vd (wo N H') (V.ref t2) (.tuple [.str (Str.ofString "ab"), .int 3]) := .tup f_t2.2 (.cons (.str _ (by decide +kernel)) (.cons (.int 3) .nil))
    have g_t2 : Gd 1 10 (.tuple [.str (Str.ofString "ab"), .int 3]) := gd_two ab3 (by decide) (by decide)
    have hle := hGA.len
    simp only [List.mem_cons, List.not_mem_nil, or_false] at hv'
    rcases hv' with rfl | rfl | rfl | rfl | rfl | rfl
    · exact q _ (.tuple es) H' hkk hp' (.tup f_t.2 hAk) (fun p e => by cases e; exact f_t.1) (hGA.tup.more (by omega) (by omega)) (fun z => by show (pairOk es && ok1All es) = true; rw [rdgs_pair (hd z), hok]; rfl)
    · exact q _ (.list (es ++ [.none])) H' hkk hp' (.lst f_r1.2 (hAk.app (.cons .non .nil))) (fun p e => by cases e; exact f_r1.1) (((GdA.app (GdA.cons gd_non (GdA.nil (w := 0))) hGA).list).more (by omega) (by omega)) (fun _ => ok1All_app hok rfl)
    · exact q _ (.list (es ++ [.tuple [.str (Str.ofString "ab"), .int 3]])) H' hkk hp' (.lst f_r2.2 (hAk.app (.cons v_t2 .nil))) (fun p e => by cases e; exact f_r2.1) (((GdA.app (GdA.cons (g_t2.more (by omega : 1 ≤ m' + 1) (Nat.le_refl _)) (GdA.nil (w := 0))) (hGA.more (by omega) (Nat.le_refl _))).list).more (by omega) (by omega)) (fun _ => ok1All_app hok rfl)
    · exact q _ (.dict []) H' hkk hp' (.emp f_dk.2) (fun p e => by cases e; exact f_dk.1) (gd_emp.more (by omega : 1 ≤ _) (Nat.zero_le _)) (fun _ => rfl)
    · exact q _ .none H' hkk hp' .non (fun p e => by cases e) (gd_non.more (Nat.le_refl _) (Nat.zero_le _)) (fun _ => rfl)
    · exact q _ (.tuple [.str (Str.ofString "a"), .int 1]) H' hkk hp' (.tup f_t3.2 (.cons (.str _ (by decide +kernel)) (.cons (.int 1) .nil))) (fun p e => by cases e; exact f_t3.1) ((gd_two (n := 0) a1 (by decide) (by decide)).more (by omega) (by omega)) (fun _ => by decide +kernel)
theorem ok_law_bent (D : Def K mg "_law_bent" s_law_bent ["_law_pot_here", "_law_value"]) (B : Bs mg) (Glb : Glo mg) (WK : WebK K mg C) (EXInvalidReadings : ExcV P w K mg base "InvalidReadings" CE) (EXe : PySem.W.exmOne K (.ref CE) (.ref CE) = some true) (kS : PySem.W.kitOne K (.ref C) (.type "str") = some false)
    (h_law_pick : Good P w K mg base "_law_pick" s_law_pick ["_law_pot_here", "_law_some"] 2 (sp_law_pick K C CE))
    (h_law_draw : Good P w K mg base "_law_draw" s_law_draw ["_law_pot_here", "_law_size"] 1 (sp_law_draw K C CE)) :
    Good P w K mg base "_law_bent" s_law_bent ["_law_pot_here", "_law_value"] 8 (sp_law_bent K C CE) :=
  bent_step (n := 4) D B Glb h_law_pick h_law_draw (bent_step (n := 3) D B Glb h_law_pick h_law_draw (bent_step (n := 2) D B Glb h_law_pick h_law_draw (bent_step (n := 1) D B Glb h_law_pick h_law_draw (bent_step (n := 0) D B Glb h_law_pick h_law_draw (bent_base D)))))
end
end My
set_option maxHeartbeats 4000000
namespace My
open PySem L2 PyProof.Rows
def Wt (a lv : Addr) (vs : List V) (i : Nat) : Addr → Prop := fun p => p = a ∨ p = lv ∨ ∃ k, i < k ∧ vs[k]? = some (.ref p)
def WtN (a lv : Addr) : Addr → Prop := fun p => p = a ∨ p = lv
/-- values, each apart from the tops of those behind it -/
def VsA (H : Hp) (a lv : Addr) (vs : List V) : Prop := ∀ (i : Nat) (v : V), vs[i]? = some v → ∃ d, Fq d ∧ Vd (wo (Wt a lv vs i) H) v d
theorem VsA.nil {H : Hp} {a lv : Addr} : VsA H a lv [] := fun i v h => by simp at h
theorem VsA.push {H H' : Hp} {a lv : Addr} {vs : List V} {v : V} {d : PyData} (h : VsA H a lv vs) (hf : Fq d) (hv : Vd (wo (WtN a lv) H') v d) (hn : ∀ p, v = .ref p → H p = none) (fr : ∀ b u, b ≠ a → b ≠ lv → H b = some u → H' b = some u) : VsA H' a lv (vs ++ [v]) := fun i x hx => by
  rcases Nat.lt_or_ge i vs.length with c | c
  · rw [List.getElem?_append_left c] at hx
    obtain ⟨e, h1, h2⟩ := h i x hx
    refine ⟨e, h1, h2.same fun b u z => ?_⟩
    by_cases nb : Wt a lv vs i b
    · rw [wo_in nb] at z; cases z
    · rw [wo_of nb] at z
      rw [wo_of]
      · exact fr b u (fun y => nb (.inl y)) (fun y => nb (.inr (.inl y))) z
      · rintro (y | y | ⟨k, hk, y⟩)
        · exact nb (.inl y)
        · exact nb (.inr (.inl y))
        · rcases Nat.lt_or_ge k vs.length with ck | ck
          · rw [List.getElem?_append_left ck] at y
            exact nb (.inr (.inr ⟨k, hk, y⟩))
          · rw [List.getElem?_append_right ck] at y
            have e0 : k - vs.length = 0 := by
              cases ez : k - vs.length with
              | zero => rfl
              | succ m => rw [ez] at y; simp at y
            rw [e0] at y
            have := hn b (Option.some.inj y)
            rw [z] at this
            cases this
  · rw [List.getElem?_append_right c] at hx
    have e0 : i - vs.length = 0 := by
      cases ez : i - vs.length with
      | zero => rfl
      | succ m => rw [ez] at hx; simp at hx
    rw [e0] at hx
    cases Option.some.inj hx
    refine ⟨d, hf, hv.same fun b u z => ?_⟩
    by_cases nb : WtN a lv b
    · rw [wo_in nb] at z; cases z
    · rw [wo_of nb] at z
      rw [wo_of]
      · exact z
      · rintro (y | y | ⟨k, hk, y⟩)
        · exact nb (.inl y)
        · exact nb (.inr y)
        · have : k < (vs ++ [v]).length := by
            rcases Nat.lt_or_ge k (vs ++ [v]).length with z | z
            · exact z
            · rw [List.getElem?_eq_none z] at y; cases y
          simp at this
          omega
theorem VsA.frame {H H' : Hp} {a lv : Addr} {vs : List V} (h : VsA H a lv vs) (fr : ∀ b u, b ≠ a → b ≠ lv → H b = some u → H' b = some u) : VsA H' a lv vs := fun i v hv => by
  obtain ⟨d, h1, h2⟩ := h i v hv
  exact ⟨d, h1, h2.same (wo_frame fun b u nb z => fr b u (fun y => nb (.inl y)) (fun y => nb (.inr (.inl y))) z)⟩
abbrev rdD (L : List (Str × Int)) : List PyData := L.map fun e => .tuple [.str e.1, .int e.2]
theorem rd_vds {H : Hp} {N : Addr → Prop} : ∀ {ts : List Addr} {L : List (Str × Int)}, Paired (SIAt H) ts L → (∀ e ∈ L, e.1.length ≤ 1000) → (∀ p, N p → ∀ xs, H p ≠ some (.tup xs)) → VdAll (wo N H) (ts.map V.ref) (rdD L)
  | _, _, .nil, _, _ => .nil
  | _, _, .cons (b := e) h r, hl, hN => by
    have h' : H _ = some (HO.tup [.str e.1, .int e.2]) := h
    refine .cons (.tup (by rw [wo_of (fun c => hN _ c _ h')]; exact h') (.cons (.str _ (hl e List.mem_cons_self)) (.cons (.int _) .nil))) (rd_vds r (fun f hf => hl f (List.mem_cons_of_mem _ hf)) hN)
theorem atI_back {α : Type} {xs : List α} {v : α} (h : xs[xs.length - 1]? = some v) : atI xs (-1) = some v := by
  have h0 := (List.getElem?_eq_some_iff.mp h).1
  unfold atI ixN
  rw [if_neg (by decide), if_pos (by omega)]
  show xs[((-1 : Int) + (xs.length : Int)).toNat]? = _
  rw [show ((-1 : Int) + (xs.length : Int)).toNat = xs.length - 1 by omega]
  exact h
theorem okL_tx {x : Str} (h : OkL x) (hl : x.length ≤ 5) : Tx 5 x := ⟨fun c hc => Nat.lt_of_le_of_lt (h.few c hc) (by decide), hl⟩
theorem rd_gd : ∀ {L : List (Str × Int)}, (∀ e ∈ L, OkL e.1 ∧ e.1.length ≤ 5 ∧ 1 ≤ e.2 ∧ e.2 ≤ 20) → GdA 1 (14 * L.length) (rdD L)
  | [], _ => GdA.nil
  | e :: L, h => by
    obtain ⟨h1, h2, h3, h4⟩ := h e List.mem_cons_self
    refine (GdA.cons (gd_two (n := 0) ((okL_tx h1 h2).gd) (by omega) (by omega)) (rd_gd fun f hf => h f (List.mem_cons_of_mem _ hf))).more (Nat.le_refl _) ?_
    simp only [List.length_cons]
    omega
theorem rd_rdg {L : List (Str × Int)} (h : ∀ e ∈ L, OkL e.1 ∧ e.1.length ≤ 5 ∧ 1 ≤ e.2 ∧ e.2 ≤ 20) : ∀ d ∈ rdD L, Rdg d := fun d hd => by
  obtain ⟨e, he, rfl⟩ := List.mem_map.mp hd
  obtain ⟨_, _, h3, h4⟩ := h e he
  exact ⟨e.1, e.2, rfl, by omega, by omega⟩
theorem tx_rep (n : Nat) (h : n ≤ 401) : Tx 401 ⟨(List.replicate n [97]).flatten.toArray⟩ := by
  refine ⟨fun c hc => ?_, ?_⟩
  · have h1 : c ∈ (List.replicate n [97]).flatten := by simpa using hc
    obtain ⟨l, hl, hcl⟩ := List.mem_flatten.mp h1
    rw [List.eq_of_mem_replicate hl] at hcl
    rw [List.mem_singleton.mp hcl]
    decide
  · show ((List.replicate n [97]).flatten.toArray).size ≤ 401
    simp
    exact h
theorem wo_at {H : Hp} {a lv p : Addr} {o : HO} (h : H p = some o) (na : p ≠ a) (nl : H lv = none) : wo (WtN a lv) H p = some o := by
  rw [wo_of]
  · exact h
  · rintro (z | z)
    · exact na z
    · rw [z, nl] at h
      cases h
theorem same_fr {H H' : Hp} {a lv : Addr} (s : Same H H') : ∀ b u, b ≠ a → b ≠ lv → H b = some u → H' b = some u := fun b u _ _ e => s b u e
theorem not_ref {v : V} {H : Hp} (h : ∀ p, v ≠ .ref p) : ∀ p, v = .ref p → H p = none := fun p e => absurd e (h p)
theorem gd_txt {x : Str} {i : Int} (h : Tx 401 x) (h0 : 0 ≤ i) (h1 : i ≤ 21) : Gd 2 500 (.list [.tuple [.str x, .int i]]) :=
  ((GdA.cons (gd_two (n := 0) h.gd h0 h1) (GdA.nil (w := 0))).list).more (by omega) (by omega)
section
variable {P : Program} {w : World} {K : PySem.W.Frag} {mg : Str → Option Value} {base : Heap} {C CE : Addr}
def splaw (K : PySem.W.Frag) (_ _ : Addr) : Sp := fun vs H Q _ => ∃ a, ∃ ns : List Int, vs = [.ref a] ∧ SqL K H a (ns.map V.int) ∧ ns.length ≤ 63 ∧ ∀ H', Q (.bl true) H'
theorem oklaw (D : Def K mg "law" slaw ["_law_script"]) (B : Bs mg) (Glb : Glo mg) (WK : WebK K mg C) (EXInvalidReadings : ExcV P w K mg base "InvalidReadings" CE) (EXe : PySem.W.exmOne K (.ref CE) (.ref CE) = some true) (kS : PySem.W.kitOne K (.ref C) (.type "str") = some false)
    (h_law_pot : Good P w K mg base "_law_pot" s_law_pot ["_law_script", "_law_k"] 1 (sp_law_pot K C CE))
    (h_law_readings : Good P w K mg base "_law_readings" s_law_readings ["_law_pot_here", "_law_many"] 4 (sp_law_readings K C CE))
    (h_law_draw : Good P w K mg base "_law_draw" s_law_draw ["_law_pot_here", "_law_size"] 1 (sp_law_draw K C CE))
    (h_law_bent : Good P w K mg base "_law_bent" s_law_bent ["_law_pot_here", "_law_value"] 8 (sp_law_bent K C CE))
    (h_law_right : GoodG P w K mg base "_law_right" s_law_right ["_law_value"] 8 (sp_law_right K C CE)) :
    GoodG P w K mg base "law" slaw ["_law_script"] 9 (splaw K C CE) := by
  refine D.goodG fun f fd F => ?_
  obtain ⟨f_law_pot, d_law_pot, O_law_pot, m_law_pot, k_law_pot, b_law_pot, F_law_pot⟩ := h_law_pot
  obtain ⟨f_law_readings, d_law_readings, O_law_readings, m_law_readings, k_law_readings, b_law_readings, F_law_readings⟩ := h_law_readings
  obtain ⟨f_law_draw, d_law_draw, O_law_draw, m_law_draw, k_law_draw, b_law_draw, F_law_draw⟩ := h_law_draw
  obtain ⟨f_law_bent, d_law_bent, O_law_bent, m_law_bent, k_law_bent, b_law_bent, F_law_bent⟩ := h_law_bent
  obtain ⟨f_law_right, d_law_right, O_law_right, m_law_right, k_law_right, b_law_right, F_law_right⟩ := h_law_right
  refine FnG.ofBody F sclaw (fun vs H Q E h => ?_) (fun cdv A outer s H vs Q E hr quiet h => ?_)
  · obtain ⟨sa, ns, rfl, hs, h63, q⟩ := h
    first | rfl | (rcases h with ⟨_, _, rfl, _⟩ | ⟨_, rfl, _⟩ <;> rfl)
  obtain ⟨sa, ns, rfl, hs, h63, q⟩ := h
  have hur := hu70 hr
  refine ⟨_, (pss_cons (ps_set (i := 1) sclaw.nd rfl (by first | exact Or.inl rfl | exact Or.inr rfl) (pe_call O_law_pot (hr.mono (by decide)) rfl m_law_pot k_law_pot b_law_pot .nil pass0 (pa_cons (pv 0) (pa_cons pe_int pa_nil))))
  (pss_cons (ps_set (i := 2) sclaw.nd rfl (by first | exact Or.inl rfl | exact Or.inr rfl) (pe_call O_law_readings (hr.mono (by decide)) rfl m_law_readings k_law_readings b_law_readings .nil pass0 (pa_cons (pv 1) (pa_cons (pe_call O_law_draw (hr.mono (by decide)) rfl m_law_draw k_law_draw b_law_draw .nil pass0 (pa_cons (pv 1) (pa_cons pe_int pa_nil))) pa_nil))))
  (pss_cons (ps_set (i := 3) sclaw.nd rfl (by first | exact Or.inl rfl | exact Or.inr rfl) (pe_lst (pa_cons (pv 2) (pa_cons (pe_callTy call_tuple_of (by rfl) B.tuple (by decide +kernel) (pa_cons (pv 2) pa_nil)) (pa_cons pe_non (pa_cons pe_int (pa_cons pe_bl (pa_cons pe_str (pa_cons pe_str (pa_cons pe_dnewK (pa_cons (pe_tup pa_nil) (pa_cons (pe_lst pa_nil) (pa_cons (pe_lst (pa_cons (pe_tup (pa_cons (pe_op op_mul_str pe_str pe_int) (pa_cons pe_int pa_nil))) pa_nil)) (pa_cons (pe_lst (pa_cons (pe_tup (pa_cons (pe_op op_mul_str pe_str pe_int) (pa_cons pe_int pa_nil))) pa_nil)) pa_nil))))))))))))))
  (pss_cons (ps_for PassesOwn.never rfl (pi_range1 (by rfl) B.range (pa_cons pe_int pa_nil)) (pg_name (i := 4) sclaw.nd rfl (by first | exact Or.inl rfl | exact Or.inr rfl))
    (pss_cons (ps_expr (pe_bm PySem.F.plainAttrs_list PySem.F.slot_list_append PySem.F.type_list_append mt_append (pv 3) (pa_cons (pe_call O_law_bent hr rfl m_law_bent k_law_bent b_law_bent .nil pass0 (pa_cons (pv 1) (pa_cons (pe_callTy call_list_of (by rfl) B.list (by decide +kernel) (pa_cons (pv 2) pa_nil)) pa_nil))) pa_nil)))
  (pss_one (ps_expr (pe_bm PySem.F.plainAttrs_list PySem.F.slot_list_append PySem.F.type_list_append mt_append (pv 3) (pa_cons (pe_call O_law_bent hr rfl m_law_bent k_law_bent b_law_bent .nil pass0 (pa_cons (pv 1) (pa_cons (pe_ix ix_list (pv 3) (pe_un un_neg pe_int) (fun _ _ => rfl)) pa_nil))) pa_nil))))))
  (pss_one (ps_ret (pe_cmpR (op_eqD hr.units) (pe_lc (own := [("_law_value", 5)]) (g := gName 5) (by rfl) sclaw.nd (pi_list (pe_revL (pv 3))) (blkOk_by (own := [("_law_value", 5)]) (N := ["_law_script", "_law_pot_here", "_law_readings_here", "_law_values", "_law_turn", "_law_value"]) (sc := defScope slaw) (by decide +kernel)) (fun _ _ _ _ _ => (pg_name (i := 5) sclaw.nd rfl (by first | exact Or.inl rfl | exact Or.inr rfl))) (fun _ _ _ _ _ => (pts_one (pt_not (pt_val (pe_callG O_law_right hr quiet rfl m_law_right k_law_right b_law_right (pa_cons (pv 5) pa_nil)))))) (fun _ _ _ _ _ => pe_int)) (pe_lst pa_nil) (nomark _)))))))), ?_⟩
  refine ⟨_, rfl, sa, ns, rfl, hs, fun a H1 hp1 hS1 na => ?_⟩
  refine ⟨_, rfl, _, rfl, a, 5, rfl, hp1, by decide, by decide, fun d H2 hd hk2 hp2 => ?_⟩
  refine ⟨a, d, rfl, hp2, by omega, fun l L H3 hL hok hk3 hp3 nl hR => ?_⟩
  obtain ⟨ts, hl3, hP3⟩ := id hR
  have hla : l ≠ a := fun z => by
    obtain ⟨x, y, e, _⟩ := hp2
    rw [← z, nl] at e
    cases e
  refine ⟨_, rfl, _, rfl, l, _, rfl, .inl ⟨SqL.of hl3, fun t nt => ?_⟩⟩
  have S_t := same_new nt (.tup (ts.map V.ref))
  have o_t : upd H3 t (.tup (ts.map V.ref)) t = some (.tup (ts.map V.ref)) := upd_same
  generalize e_t : upd H3 t (.tup (ts.map V.ref)) = H4 at S_t o_t
  refine fun dk ndk => ?_
  have S_dk := same_new ndk (.dK [])
  have o_dk : upd H4 dk (.dK []) dk = some (.dK []) := upd_same
  generalize e_dk : upd H4 dk (.dK []) = H5 at S_dk o_dk
  refine ⟨(by show 0 ≤ sizeLine; exact Nat.zero_le _), fun t0 nt0 => ?_⟩
  have S_t0 := same_new nt0 (.tup [])
  have o_t0 : upd H5 t0 (.tup []) t0 = some (.tup []) := upd_same
  generalize e_t0 : upd H5 t0 (.tup []) = H6 at S_t0 o_t0
  refine ⟨(by show 0 ≤ sizeLine; exact Nat.zero_le _), fun l0 nl0 => ?_⟩
  have S_l0 := same_new nl0 (.lst [])
  have o_l0 : upd H6 l0 (.lst []) l0 = some (.lst []) := upd_same
  generalize e_l0 : upd H6 l0 (.lst []) = H7 at S_l0 o_l0
  refine ⟨[97], 400, rfl, rfl, by decide, by decide, by decide, (by show 2 ≤ sizeLine; decide), fun t4 nt4 => ?_⟩
  have S_t4 := same_new nt4 (.tup [T ((List.replicate 400 [97]).flatten), V.int 20])
  have o_t4 : upd H7 t4 (.tup [T ((List.replicate 400 [97]).flatten), V.int 20]) t4 = some (.tup [T ((List.replicate 400 [97]).flatten), V.int 20]) := upd_same
  generalize e_t4 : upd H7 t4 (.tup [T ((List.replicate 400 [97]).flatten), V.int 20]) = H8 at S_t4 o_t4
  refine ⟨(by show 1 ≤ sizeLine; decide), fun l4 nl4 => ?_⟩
  have S_l4 := same_new nl4 (.lst [V.ref t4])
  have o_l4 : upd H8 l4 (.lst [V.ref t4]) l4 = some (.lst [V.ref t4]) := upd_same
  generalize e_l4 : upd H8 l4 (.lst [V.ref t4]) = H9 at S_l4 o_l4
  refine ⟨[97], 401, rfl, rfl, by decide, by decide, by decide, (by show 2 ≤ sizeLine; decide), fun t5 nt5 => ?_⟩
  have S_t5 := same_new nt5 (.tup [T ((List.replicate 401 [97]).flatten), V.int 1])
  have o_t5 : upd H9 t5 (.tup [T ((List.replicate 401 [97]).flatten), V.int 1]) t5 = some (.tup [T ((List.replicate 401 [97]).flatten), V.int 1]) := upd_same
  generalize e_t5 : upd H9 t5 (.tup [T ((List.replicate 401 [97]).flatten), V.int 1]) = H10 at S_t5 o_t5
  refine ⟨(by show 1 ≤ sizeLine; decide), fun l5 nl5 => ?_⟩
  have S_l5 := same_new nl5 (.lst [V.ref t5])
  have o_l5 : upd H10 l5 (.lst [V.ref t5]) l5 = some (.lst [V.ref t5]) := upd_same
  generalize e_l5 : upd H10 l5 (.lst [V.ref t5]) = H11 at S_l5 o_l5
  refine ⟨(by show 12 ≤ sizeLine; decide), fun lv nlv => ?_⟩
  have z3 : H3 lv = none := Same.free (H := H3) (Same.trans (Same.trans (Same.trans (Same.trans (Same.trans (Same.trans (Same.trans S_t S_dk) S_t0) S_l0) S_t4) S_l4) S_t5) S_l5) nlv
  have z4 : H4 lv = none := Same.free (H := H4) (Same.trans (Same.trans (Same.trans (Same.trans (Same.trans (Same.trans S_dk S_t0) S_l0) S_t4) S_l4) S_t5) S_l5) nlv
  have z5 : H5 lv = none := Same.free (H := H5) (Same.trans (Same.trans (Same.trans (Same.trans (Same.trans S_t0 S_l0) S_t4) S_l4) S_t5) S_l5) nlv
  have z6 : H6 lv = none := Same.free (H := H6) (Same.trans (Same.trans (Same.trans (Same.trans S_l0 S_t4) S_l4) S_t5) S_l5) nlv
  have z7 : H7 lv = none := Same.free (H := H7) (Same.trans (Same.trans (Same.trans S_t4 S_l4) S_t5) S_l5) nlv
  have z8 : H8 lv = none := Same.free (H := H8) (Same.trans (Same.trans S_l4 S_t5) S_l5) nlv
  have z9 : H9 lv = none := Same.free (H := H9) (Same.trans S_t5 S_l5) nlv
  have z10 : H10 lv = none := Same.free (H := H10) S_l5 nlv
  have z11 : H11 lv = none := Same.free (H := H11) (fun _ _ e => e) nlv
  have hp4 : PotAt H4 a := PotAt.same hp3 S_t
  have hp5 : PotAt H5 a := PotAt.same hp4 S_dk
  have hp6 : PotAt H6 a := PotAt.same hp5 S_t0
  have hp7 : PotAt H7 a := PotAt.same hp6 S_l0
  have hp8 : PotAt H8 a := PotAt.same hp7 S_t4
  have hp9 : PotAt H9 a := PotAt.same hp8 S_l4
  have hp10 : PotAt H10 a := PotAt.same hp9 S_t5
  have hp11 : PotAt H11 a := PotAt.same hp10 S_l5
  have hts : VdAll (wo (WtN a lv) H3) (ts.map V.ref) (rdD L) := rd_vds hP3 (fun e he => by have := (hok e he).2.1; omega) (fun p hp xs e => by
    rcases hp with hp | hp
    · obtain ⟨x, y, e2, _⟩ := hp3
      rw [hp, e2] at e
      cases e
    · rw [hp, z3] at e
      cases e)
  have gL : GdA 1 60 (rdD L) := (rd_gd hok).more (Nat.le_refl _) (by omega)
  have ksw : ∀ {G G' : Hp}, Same G G' → Same (wo (WtN a lv) G) (wo (WtN a lv) G') := fun s => wo_frame fun b u _ e => s b u e
  have f3 : VsA H3 a lv [V.ref l] := (VsA.nil (H := H2) (a := a) (lv := lv)).push (gL.list.fq (by decide) (by decide)) (.lst (wo_at hl3 hla z3) hts) (fun p e => by cases e; exact nl) (fun b u nb _ e => hk3 b u e nb)
  have f4 := f3.push (v := V.ref t) (gL.tup.fq (by decide) (by decide)) (.tup (wo_at o_t (hp3.ne nt) z4) (hts.same (ksw S_t))) (fun p e => by cases e; exact nt) (same_fr S_t)
  have f4a := f4.push (gd_non.fq (n := 0) (by decide) (by decide)) .non (fun p e => by cases e) (same_fr (fun _ _ e => e))
  have f4b := f4a.push (Gd.fq (n := 0) (gd_int (i := 5) (by decide) (by decide)) (by decide) (by decide)) (.int 5) (fun p e => by cases e) (same_fr (fun _ _ e => e))
  have f4c := f4b.push (Gd.fq (n := 0) (gd_bool true) (by decide) (by decide)) (.bl true) (fun p e => by cases e) (same_fr (fun _ _ e => e))
  have f4d := f4c.push (Gd.fq (n := 0) (Tx.gd (w := 0) (x := Str.ofString "") ⟨by decide +kernel, by decide +kernel⟩) (by decide) (by decide)) (.str _ (by decide +kernel)) (fun p e => by cases e) (same_fr (fun _ _ e => e))
  have f4e := f4d.push (Gd.fq ab3 (by decide) (by decide)) (.str _ (by decide +kernel)) (fun p e => by cases e) (same_fr (fun _ _ e => e))
  have f5 := f4e.push (v := V.ref dk) (gd_emp.fq (n := 1) (by decide) (by decide)) (.emp (wo_at o_dk (hp4.ne ndk) z5)) (fun p e => by cases e; exact ndk) (same_fr S_dk)
  have f6 := f5.push (v := V.ref t0) ((GdA.nil (n := 0) (w := 0)).tup.fq (by decide) (by decide)) (.tup (wo_at o_t0 (hp5.ne nt0) z6) .nil) (fun p e => by cases e; exact nt0) (same_fr S_t0)
  have f7 := f6.push (v := V.ref l0) ((GdA.nil (n := 0) (w := 0)).list.fq (by decide) (by decide)) (.lst (wo_at o_l0 (hp6.ne nl0) z7) .nil) (fun p e => by cases e; exact nl0) (same_fr S_l0)
  have f8 := f7.frame (same_fr S_t4)
  have f9 := f8.push (v := V.ref l4) ((gd_txt (i := 20) (tx_rep 400 (by decide)) (by decide) (by decide)).fq (by decide) (by decide)) (.lst (wo_at o_l4 (hp8.ne nl4) z9) (.cons (.tup (wo_at (S_l4 _ _ o_t4) (hp7.ne nt4) z9) (.cons (.str _ (Nat.le_trans (tx_rep 400 (by decide)).len (by decide))) (.cons (.int 20) .nil))) .nil)) (fun p e => by cases e; exact nl4) (same_fr S_l4)
  have f10 := f9.frame (same_fr S_t5)
  have f11 := f10.push (v := V.ref l5) ((gd_txt (i := 1) (tx_rep 401 (by decide)) (by decide) (by decide)).fq (by decide) (by decide)) (.lst (wo_at o_l5 (hp10.ne nl5) z11) (.cons (.tup (wo_at (S_l5 _ _ o_t5) (hp9.ne nt5) z11) (.cons (.str _ (Nat.le_trans (tx_rep 401 (by decide)).len (by decide))) (.cons (.int 1) .nil))) .nil)) (fun p e => by cases e; exact nl5) (same_fr S_l5)
  have hva : lv ≠ a := hp11.ne nlv
  have S_lv := same_new nlv (.lst [V.ref l, V.ref t, V.non, V.int 5, V.bl true, V.str (Str.ofString ""), V.str (Str.ofString "ab"), V.ref dk, V.ref t0, V.ref l0, V.ref l4, V.ref l5])
  have o_lv : upd H11 lv (.lst [V.ref l, V.ref t, V.non, V.int 5, V.bl true, V.str (Str.ofString ""), V.str (Str.ofString "ab"), V.ref dk, V.ref t0, V.ref l0, V.ref l4, V.ref l5]) lv = some (.lst [V.ref l, V.ref t, V.non, V.int 5, V.bl true, V.str (Str.ofString ""), V.str (Str.ofString "ab"), V.ref dk, V.ref t0, V.ref l0, V.ref l4, V.ref l5]) := upd_same
  generalize e_lv : upd H11 lv (.lst [V.ref l, V.ref t, V.non, V.int 5, V.bl true, V.str (Str.ofString ""), V.str (Str.ofString "ab"), V.ref dk, V.ref t0, V.ref l0, V.ref l4, V.ref l5]) = H12 at S_lv o_lv
  have f12 := f11.frame (same_fr S_lv)
  simp only [List.cons_append, List.nil_append] at f12
  have hp12 := hp11.same S_lv
  have hR12 : RdAt H12 l L := hR.same (Same.trans (Same.trans (Same.trans (Same.trans (Same.trans (Same.trans (Same.trans (Same.trans S_t S_dk) S_t0) S_l0) S_t4) S_l4) S_t5) S_l5) S_lv)
  have hlv : l ≠ lv := fun z => by rw [z, z3] at hl3; cases hl3
  refine ⟨_, rfl, by decide, by decide, ?_⟩
  refine for_range (lo := 0) (n := 8) (fun i σ H' => ∃ (v4 : Option V) (vs : List V), σ = [some (.ref sa), some (.ref a), some (.ref l), some (.ref lv), v4, none] ∧ vs.length = 12 + 2 * i ∧ H' lv = some (.lst vs) ∧ VsA H' a lv vs ∧ PotAt H' a ∧ RdAt H' l L) ?_ ?_ ?_
  · exact ⟨none, _, rfl, rfl, o_lv, f12, hp12, hR12⟩
  · rintro i σ H5' hi ⟨v4, vs, rfl, hlen, hlv5, hV, hpp, hRR⟩
    obtain ⟨us, hl5, hP5⟩ := id hRR
    refine ⟨_, rfl, .inl ⟨rfl, _, SqL.of hlv5⟩, _, rfl, _, rfl, l, _, rfl, .inl (SqL.of hl5), fun nl nnl => ?_⟩
    have S_nl := same_new nnl (.lst (us.map V.ref))
    have o_nl : upd H5' nl (.lst (us.map V.ref)) nl = some (.lst (us.map V.ref)) := upd_same
    generalize e_nl : upd H5' nl (.lst (us.map V.ref)) = G1 at S_nl o_nl
    have pG1 := hpp.same S_nl
    have hlvG1 := S_nl _ _ hlv5
    have hNK : ∀ {G : Hp}, PotAt G a → (∃ u, G lv = some u) → NK (WtN a lv) G := fun hq hw p hp => by
      rcases hp with rfl | rfl
      · obtain ⟨x, y, e, _⟩ := hq
        exact ⟨_, e⟩
      · exact hw
    have hvds : VdAll (wo (WtN a lv) G1) (us.map V.ref) (rdD L) := (rd_vds (N := WtN a lv) hP5 (fun e he => by have := (hok e he).2.1; omega) (fun p hp xs e => by
      rcases hp with hp | hp
      · obtain ⟨x, y, e2, _⟩ := hpp
        rw [hp, e2] at e
        cases e
      · rw [hp, hlv5] at e
        cases e)).same (wo_frame fun b u _ e => S_nl b u e)
    have hnla : nl ≠ a := hpp.ne nnl
    refine ⟨a, .ref nl, _, 2, 60, WtN a lv, rfl, pG1, .inl rfl, hNK pG1 ⟨_, hlvG1⟩, .lst o_nl hvds, by decide, gL.list, by decide, Rd2.ok (.inr ⟨_, rfl, rd_rdg hok⟩), fun p e => by cases e; exact hnla, fun v1 d1 G2 kG2 pG2 hv1 hf1 hG1 ho1 => ?_⟩
    have hlvG2 := kG2 _ _ hlvG1 hva
    refine ⟨lv, vs, _, rfl, rfl, hlvG2, Nat.lt_of_le_of_lt (by omega : vs.length ≤ 100) (by decide), ?_⟩
    have o3 : upd G2 lv (.lst (vs ++ [v1])) lv = some (.lst (vs ++ [v1])) := upd_same
    have fr23 : ∀ b u, b ≠ lv → G2 b = some u → upd G2 lv (.lst (vs ++ [v1])) b = some u := fun b u n e => by rw [upd_ne n]; exact e
    generalize upd G2 lv (.lst (vs ++ [v1])) = G3 at o3 fr23
    have pG3 : PotAt G3 a := by
      obtain ⟨x, y, e, h⟩ := pG2
      exact ⟨x, y, fr23 _ _ hva.symm e, h⟩
    have hv13 : Vd (wo (WtN a lv) G3) v1 d1 := hv1.same (wo_frame fun b u nb e => fr23 b u (fun z => nb (.inr z)) e)
    have n1 : ∀ p, v1 = .ref p → H5' p = none := fun p e => S_nl.free (hf1 p e)
    have V3 : VsA G3 a lv (vs ++ [v1]) := hV.push (hG1.fq (by decide) (by decide)) hv13 n1 fun b u na nl e => fr23 b u nl (kG2 b u (S_nl b u e) na)
    have e1 : (vs ++ [v1])[(vs ++ [v1]).length - 1]? = some v1 := by
      rw [List.length_append, List.length_singleton, Nat.add_sub_cancel, List.getElem?_append_right (Nat.le_refl _), Nat.sub_self]
      rfl
    refine ⟨_, rfl, .inl ⟨rfl, _, SqL.of o3⟩, _, rfl, _, rfl, _, rfl, lv, _, _, v1, rfl, rfl, SqL.of o3, atI_back e1, ?_⟩
    refine ⟨a, v1, d1, _, _, WtN a lv, rfl, pG3, .inl rfl, hNK pG3 ⟨_, o3⟩, hv13.tv, (by decide : 2 + 2 < 5), hG1, by decide, ho1 (.inr ⟨_, rfl, rd_rdg hok⟩), fun p e => hpp.ne (n1 p e), fun v2 d2 G4 kG4 pG4 hv2 hf2 hG2 _ => ?_⟩
    have hlvG4 := kG4 _ _ o3 hva
    refine ⟨lv, vs ++ [v1], _, rfl, rfl, hlvG4, Nat.lt_of_le_of_lt (by rw [List.length_append, List.length_singleton]; omega : (vs ++ [v1]).length ≤ 100) (by decide), ?_⟩
    have o5 : upd G4 lv (.lst (vs ++ [v1] ++ [v2])) lv = some (.lst (vs ++ [v1] ++ [v2])) := upd_same
    have fr45 : ∀ b u, b ≠ lv → G4 b = some u → upd G4 lv (.lst (vs ++ [v1] ++ [v2])) b = some u := fun b u n e => by rw [upd_ne n]; exact e
    generalize upd G4 lv (.lst (vs ++ [v1] ++ [v2])) = G5 at o5 fr45
    have pG5 : PotAt G5 a := by
      obtain ⟨x, y, e, h⟩ := pG4
      exact ⟨x, y, fr45 _ _ hva.symm e, h⟩
    have hv25 : Vd (wo (WtN a lv) G5) v2 d2 := hv2.same (wo_frame fun b u nb e => fr45 b u (fun z => nb (.inr z)) e)
    have V5 : VsA G5 a lv (vs ++ [v1] ++ [v2]) := V3.push (hG2.fq (by decide) (by decide)) hv25 hf2 fun b u na nl e => fr45 b u nl (kG4 b u e na)
    have fr05 : ∀ b u, b ≠ a → b ≠ lv → H5' b = some u → G5 b = some u := fun b u na nl e => fr45 b u nl (kG4 b u (fr23 b u nl (kG2 b u (S_nl b u e) na)) na)
    refine ⟨_, _, rfl, by simp only [List.length_append, List.length_singleton]; omega, o5, V5, pG5, us, fr05 _ _ hla hlv hl5, paired_mono (fun p e hp => ?_) hP5⟩
    exact fr05 _ _ (hpp.ntup hp) (fun z => by rw [z] at hp; have : H5' lv = some (HO.tup _) := hp; rw [hlv5] at this; cases this) hp
  · rintro σ H5' ⟨v4, vs, rfl, hlen, hlv5, hV, hpp, hRR⟩
    refine ⟨_, rfl, lv, vs, rfl, SqL.of hlv5, fun lr nlr => ?_⟩
    have S_r := same_new nlr (.lst vs.reverse)
    have o_r : upd H5' lr (.lst vs.reverse) lr = some (.lst vs.reverse) := upd_same
    generalize upd H5' lr (.lst vs.reverse) = G1 at S_r o_r
    have V1 : VsA G1 a lv vs := hV.frame fun b u _ _ e => S_r b u e
    have top : ∀ k p, vs[k]? = some (V.ref p) → ∃ u, H5' p = some u := fun k p h => by
      obtain ⟨d, _, hd⟩ := hV k _ h
      cases hd with
      | lst h _ => exact ⟨_, wo_same _ _ h⟩
      | tup h _ => exact ⟨_, wo_same _ _ h⟩
      | emp h => exact ⟨_, wo_same _ _ h⟩
    refine ⟨lr, rfl, ⟨_, SqL.of o_r⟩, fun D nD => ?_⟩
    have S_D := same_new nD (.lst [])
    have nlrD : lr ≠ D := ne_of_none o_r nD
    refine lc_list (K := K) (a := lr) (xs := vs.reverse) (fun i H' => H' D = some (.lst []) ∧ H' lr = some (.lst vs.reverse) ∧ ∀ (j : Nat) (v : V), j + i < vs.length → vs[j]? = some v → ∃ d, Fq d ∧ Vd (wo (Wt a lv vs j) H') v d) ⟨upd_same, S_D _ _ o_r, fun j v _ hj => ?_⟩ (fun i H' _ hI => SqL.of hI.2.1) (fun i x H' hx hI => ?_) ?_
    · obtain ⟨d, h1, h2⟩ := V1 j v hj
      exact ⟨d, h1, h2.same (wo_frame fun b u _ e => S_D b u e)⟩
    · obtain ⟨hD, hlr, hI⟩ := hI
      have hil : i < vs.length := by
        have := (List.getElem?_eq_some_iff.mp hx).1
        rwa [List.length_reverse] at this
      rw [List.getElem?_reverse hil] at hx
      obtain ⟨d, h1, h2⟩ := hI (vs.length - 1 - i) x (by omega) hx
      refine ⟨rfl, _, rfl, x, d, rfl, h2.same wo_same, h1, fun H2 fr => ⟨_, rfl, ?_⟩⟩
      refine iteF ⟨?_, ?_, fun j v hj hv => ?_⟩
      · exact fr _ _ (fun z => by obtain ⟨u, e⟩ := top _ _ (by rw [← z]; exact hx); rw [S_r _ _ e] at nD; cases nD) hD
      · exact fr _ _ (fun z => by obtain ⟨u, e⟩ := top _ _ (by rw [← z]; exact hx); rw [nlr] at e; cases e) hlr
      · obtain ⟨e, k1, k2⟩ := hI j v (by omega) hv
        refine ⟨e, k1, k2.same (wo_frame fun b u nb z => fr b u (fun y => nb (.inr (.inr ⟨vs.length - 1 - i, by omega, ?_⟩))) z)⟩
        rw [← y]
        exact hx
    rintro H2 ⟨hD, _, _⟩
    refine ⟨(by show 0 ≤ sizeLine; exact Nat.zero_le _), fun en nen => ⟨_, _, .lst (SqL.of (same_new nen _ _ _ hD)) .nil, .lst (SqL.of upd_same) .nil, by decide, by decide, ?_⟩⟩
    exact q _
end
end My
namespace My
open PySem L2 PyProof.Rows
/-! ### the end -/
abbrev sInvalidReadings___init__ : Stmt := inClass (topS 4) 0
theorem sc_exc : FnScope ["self", "value"] ["self", "value"] (defScope sInvalidReadings___init__) := ⟨rfl, rfl, rfl, by decide +kernel, rfl, by decide +kernel, by decide +kernel⟩
theorem kit_no {K : PySem.W.Frag} {C : Addr} (h1 : PySem.W.isClsIn K C = true) (h2 : PySem.W.typeIn K (.ref C) = some (.type "type")) (h3 : PySem.W.subIn K (.type "dict") (.ref C) = some false) : PySem.W.kitOne K (.type "dict") (.ref C) = some false := by
  unfold PySem.W.kitOne
  rw [if_neg (by simp)]
  show (if ((PySem.W.clsIn K C).isSome && PySem.W.typeIn K (.ref C) == some (.type "type")) = true then PySem.W.subIn K (.type "dict") (.ref C) else none) = some false
  have h1' : (PySem.W.clsIn K C).isSome = true := h1
  rw [h1', h2, if_pos (by simp)]
  exact h3
theorem fd_is {K : PySem.W.Frag} {x : Str} {st : Stmt} {f : Addr} {fd fe : FuncData} {oc : Value} {od : Option Addr} {sl : Array (Option Value)} (F : Fun K x x st f fd) (l : K.lookup f = some ⟨oc, od, .func fe, sl⟩) : fd = fe := by
  obtain ⟨oc2, od2, kV, doc, pm, an, cdv, ct, osl, e, lk, c⟩ := F.ex
  rw [lk] at l
  have := Option.some.inj l
  injection this with _ _ h3 _
  injection h3
set_option maxHeartbeats 4000000 in
theorem all_mk {l : PySem.W.OpenLaw} {w : World} {K : PySem.W.Frag} {h : Heap} {mg : Str → Option Value} {fa C : Addr} (X : K.In h) (G : h.Ns mainGlobals mg) (hfa : mg "law" = some (.ref fa))
    {fM0 : Addr} {odM0 anM0 : Option Addr} {slM0 : Array (Option Value)} {ocM0 kVM0 dcM0 pmM0 cdM0 ctM0 : Value} {fM1 : Addr} {odM1 anM1 : Option Addr} {slM1 : Array (Option Value)} {ocM1 kVM1 dcM1 pmM1 cdM1 ctM1 : Value} {f0 : Addr} {od0 an0 : Option Addr} {sl0 : Array (Option Value)} {oc0 kV0 dc0 pm0 cd0 ct0 : Value} {f1 : Addr} {od1 an1 : Option Addr} {sl1 : Array (Option Value)} {oc1 kV1 dc1 pm1 cd1 ct1 : Value} {f2 : Addr} {od2 an2 : Option Addr} {sl2 : Array (Option Value)} {oc2 kV2 dc2 pm2 cd2 ct2 : Value} {f3 : Addr} {od3 an3 : Option Addr} {sl3 : Array (Option Value)} {oc3 kV3 dc3 pm3 cd3 ct3 : Value} {f4 : Addr} {od4 an4 : Option Addr} {sl4 : Array (Option Value)} {oc4 kV4 dc4 pm4 cd4 ct4 : Value} {f5 : Addr} {od5 an5 : Option Addr} {sl5 : Array (Option Value)} {oc5 kV5 dc5 pm5 cd5 ct5 : Value} {f6 : Addr} {od6 an6 : Option Addr} {sl6 : Array (Option Value)} {oc6 kV6 dc6 pm6 cd6 ct6 : Value} {f7 : Addr} {od7 an7 : Option Addr} {sl7 : Array (Option Value)} {oc7 kV7 dc7 pm7 cd7 ct7 : Value} {f8 : Addr} {od8 an8 : Option Addr} {sl8 : Array (Option Value)} {oc8 kV8 dc8 pm8 cd8 ct8 : Value} {f9 : Addr} {od9 an9 : Option Addr} {sl9 : Array (Option Value)} {oc9 kV9 dc9 pm9 cd9 ct9 : Value} {f10 : Addr} {od10 an10 : Option Addr} {sl10 : Array (Option Value)} {oc10 kV10 dc10 pm10 cd10 ct10 : Value} {f11 : Addr} {od11 an11 : Option Addr} {sl11 : Array (Option Value)} {oc11 kV11 dc11 pm11 cd11 ct11 : Value} {f12 : Addr} {od12 an12 : Option Addr} {sl12 : Array (Option Value)} {oc12 kV12 dc12 pm12 cd12 ct12 : Value} {f13 : Addr} {od13 an13 : Option Addr} {sl13 : Array (Option Value)} {oc13 kV13 dc13 pm13 cd13 ct13 : Value} {f14 : Addr} {od14 an14 : Option Addr} {sl14 : Array (Option Value)} {oc14 kV14 dc14 pm14 cd14 ct14 : Value} {f15 : Addr} {od15 an15 : Option Addr} {sl15 : Array (Option Value)} {oc15 kV15 dc15 pm15 cd15 ct15 : Value} {f16 : Addr} {od16 an16 : Option Addr} {sl16 : Array (Option Value)} {oc16 kV16 dc16 pm16 cd16 ct16 : Value} {f17 : Addr} {od17 an17 : Option Addr} {sl17 : Array (Option Value)} {oc17 kV17 dc17 pm17 cd17 ct17 : Value} {f18 : Addr} {od18 an18 : Option Addr} {sl18 : Array (Option Value)} {oc18 kV18 dc18 pm18 cd18 ct18 : Value} {f19 : Addr} {od19 an19 : Option Addr} {sl19 : Array (Option Value)} {oc19 kV19 dc19 pm19 cd19 ct19 : Value} {f20 : Addr} {od20 an20 : Option Addr} {sl20 : Array (Option Value)} {oc20 kV20 dc20 pm20 cd20 ct20 : Value} {f21 : Addr} {od21 an21 : Option Addr} {sl21 : Array (Option Value)} {oc21 kV21 dc21 pm21 cd21 ct21 : Value} {f22 : Addr} {od22 an22 : Option Addr} {sl22 : Array (Option Value)} {oc22 kV22 dc22 pm22 cd22 ct22 : Value} {f23 : Addr} {od23 an23 : Option Addr} {sl23 : Array (Option Value)} {oc23 kV23 dc23 pm23 cd23 ct23 : Value} {CE : Addr} {fE : Addr} {odE anE : Option Addr} {slE : Array (Option Value)} {ocE kVE dcE pmE cdE ctE : Value} {nmE qnE : Str} {NE : Addr} {bsE bmE : List Value} {snE : List Str} {subE : List Value} {abE : Bool} {colE : Option Bool} {ddE : Option Addr} {kE0 kE1 kE2 kE3 kE5 : Option Value} {t0 : Tok} {t1 : Tok}
    (aC : PySem.W.nsIn K mainGlobals "Lot" = some (some (.ref C)))
    (aM0 : PySem.W.findIn K (.ref C) "__init__" = some (some (.ref fM0))) (iM0 : PySem.W.isFn K (.ref fM0) = true) (lM0 : K.lookup fM0 = some ⟨ocM0, odM0, .func (PySem.W.fnOf "__init__" "Lot.__init__" (defArgs sLot___init__) (defBody sLot___init__) (defScope sLot___init__) .none kVM0 dcM0 pmM0 anM0 cdM0 ctM0), slM0⟩) (cM0 : PySem.W.codeIn K cdM0 "Lot.__init__" = true) (kM0 : PySem.W.keepIn K (.ref fM0) = true)
    (aM1 : PySem.W.findIn K (.ref C) "readings" = some (some (.ref fM1))) (iM1 : PySem.W.isFn K (.ref fM1) = true) (lM1 : K.lookup fM1 = some ⟨ocM1, odM1, .func (PySem.W.fnOf "readings" "Lot.readings" (defArgs sLot_readings) (defBody sLot_readings) (defScope sLot_readings) .none kVM1 dcM1 pmM1 anM1 cdM1 ctM1), slM1⟩) (cM1 : PySem.W.codeIn K cdM1 "Lot.readings" = true) (kM1 : PySem.W.keepIn K (.ref fM1) = true)
    (a0 : PySem.W.nsIn K mainGlobals "is_integer" = some (some (.ref f0))) (l0 : K.lookup f0 = some ⟨oc0, od0, .func (PySem.W.fnOf "is_integer" "is_integer" (defArgs sis_integer) (defBody sis_integer) (defScope sis_integer) .none kV0 dc0 pm0 an0 cd0 ct0), sl0⟩) (c0 : PySem.W.codeIn K cd0 "is_integer" = true) (k0 : PySem.W.keepIn K (.ref f0) = true)
    (a1 : PySem.W.nsIn K mainGlobals "is_between" = some (some (.ref f1))) (l1 : K.lookup f1 = some ⟨oc1, od1, .func (PySem.W.fnOf "is_between" "is_between" (defArgs sis_between) (defBody sis_between) (defScope sis_between) .none kV1 dc1 pm1 an1 cd1 ct1), sl1⟩) (c1 : PySem.W.codeIn K cd1 "is_between" = true) (k1 : PySem.W.keepIn K (.ref f1) = true)
    (a2 : PySem.W.nsIn K mainGlobals "is_size" = some (some (.ref f2))) (l2 : K.lookup f2 = some ⟨oc2, od2, .func (PySem.W.fnOf "is_size" "is_size" (defArgs sis_size) (defBody sis_size) (defScope sis_size) .none kV2 dc2 pm2 an2 cd2 ct2), sl2⟩) (c2 : PySem.W.codeIn K cd2 "is_size" = true) (k2 : PySem.W.keepIn K (.ref f2) = true)
    (a3 : PySem.W.nsIn K mainGlobals "is_listed" = some (some (.ref f3))) (l3 : K.lookup f3 = some ⟨oc3, od3, .func (PySem.W.fnOf "is_listed" "is_listed" (defArgs sis_listed) (defBody sis_listed) (defScope sis_listed) .none kV3 dc3 pm3 an3 cd3 ct3), sl3⟩) (c3 : PySem.W.codeIn K cd3 "is_listed" = true) (k3 : PySem.W.keepIn K (.ref f3) = true)
    (a4 : PySem.W.nsIn K mainGlobals "is_letter" = some (some (.ref f4))) (l4 : K.lookup f4 = some ⟨oc4, od4, .func (PySem.W.fnOf "is_letter" "is_letter" (defArgs sis_letter) (defBody sis_letter) (defScope sis_letter) .none kV4 dc4 pm4 an4 cd4 ct4), sl4⟩) (c4 : PySem.W.codeIn K cd4 "is_letter" = true) (k4 : PySem.W.keepIn K (.ref f4) = true)
    (a5 : PySem.W.nsIn K mainGlobals "need_size" = some (some (.ref f5))) (l5 : K.lookup f5 = some ⟨oc5, od5, .func (PySem.W.fnOf "need_size" "need_size" (defArgs sneed_size) (defBody sneed_size) (defScope sneed_size) .none kV5 dc5 pm5 an5 cd5 ct5), sl5⟩) (c5 : PySem.W.codeIn K cd5 "need_size" = true) (k5 : PySem.W.keepIn K (.ref f5) = true)
    (a6 : PySem.W.nsIn K mainGlobals "is_text" = some (some (.ref f6))) (l6 : K.lookup f6 = some ⟨oc6, od6, .func (PySem.W.fnOf "is_text" "is_text" (defArgs sis_text) (defBody sis_text) (defScope sis_text) .none kV6 dc6 pm6 an6 cd6 ct6), sl6⟩) (c6 : PySem.W.codeIn K cd6 "is_text" = true) (k6 : PySem.W.keepIn K (.ref f6) = true)
    (a7 : PySem.W.nsIn K mainGlobals "is_times" = some (some (.ref f7))) (l7 : K.lookup f7 = some ⟨oc7, od7, .func (PySem.W.fnOf "is_times" "is_times" (defArgs sis_times) (defBody sis_times) (defScope sis_times) .none kV7 dc7 pm7 an7 cd7 ct7), sl7⟩) (c7 : PySem.W.codeIn K cd7 "is_times" = true) (k7 : PySem.W.keepIn K (.ref f7) = true)
    (a8 : PySem.W.nsIn K mainGlobals "are_readings" = some (some (.ref f8))) (l8 : K.lookup f8 = some ⟨oc8, od8, .func (PySem.W.fnOf "are_readings" "are_readings" (defArgs sare_readings) (defBody sare_readings) (defScope sare_readings) .none kV8 dc8 pm8 an8 cd8 ct8), sl8⟩) (c8 : PySem.W.codeIn K cd8 "are_readings" = true) (k8 : PySem.W.keepIn K (.ref f8) = true)
    (a9 : PySem.W.nsIn K mainGlobals "_times_together" = some (some (.ref f9))) (l9 : K.lookup f9 = some ⟨oc9, od9, .func (PySem.W.fnOf "_times_together" "_times_together" (defArgs s_times_together) (defBody s_times_together) (defScope s_times_together) .none kV9 dc9 pm9 an9 cd9 ct9), sl9⟩) (c9 : PySem.W.codeIn K cd9 "_times_together" = true) (k9 : PySem.W.keepIn K (.ref f9) = true)
    (a10 : PySem.W.nsIn K mainGlobals "_law_pot" = some (some (.ref f10))) (l10 : K.lookup f10 = some ⟨oc10, od10, .func (PySem.W.fnOf "_law_pot" "_law_pot" (defArgs s_law_pot) (defBody s_law_pot) (defScope s_law_pot) .none kV10 dc10 pm10 an10 cd10 ct10), sl10⟩) (c10 : PySem.W.codeIn K cd10 "_law_pot" = true) (k10 : PySem.W.keepIn K (.ref f10) = true)
    (a11 : PySem.W.nsIn K mainGlobals "_law_draw" = some (some (.ref f11))) (l11 : K.lookup f11 = some ⟨oc11, od11, .func (PySem.W.fnOf "_law_draw" "_law_draw" (defArgs s_law_draw) (defBody s_law_draw) (defScope s_law_draw) .none kV11 dc11 pm11 an11 cd11 ct11), sl11⟩) (c11 : PySem.W.codeIn K cd11 "_law_draw" = true) (k11 : PySem.W.keepIn K (.ref f11) = true)
    (a12 : PySem.W.nsIn K mainGlobals "_law_pick" = some (some (.ref f12))) (l12 : K.lookup f12 = some ⟨oc12, od12, .func (PySem.W.fnOf "_law_pick" "_law_pick" (defArgs s_law_pick) (defBody s_law_pick) (defScope s_law_pick) .none kV12 dc12 pm12 an12 cd12 ct12), sl12⟩) (c12 : PySem.W.codeIn K cd12 "_law_pick" = true) (k12 : PySem.W.keepIn K (.ref f12) = true)
    (a13 : PySem.W.nsIn K mainGlobals "_law_text" = some (some (.ref f13))) (l13 : K.lookup f13 = some ⟨oc13, od13, .func (PySem.W.fnOf "_law_text" "_law_text" (defArgs s_law_text) (defBody s_law_text) (defScope s_law_text) .none kV13 dc13 pm13 an13 cd13 ct13), sl13⟩) (c13 : PySem.W.codeIn K cd13 "_law_text" = true) (k13 : PySem.W.keepIn K (.ref f13) = true)
    (a14 : PySem.W.nsIn K mainGlobals "_law_readings" = some (some (.ref f14))) (l14 : K.lookup f14 = some ⟨oc14, od14, .func (PySem.W.fnOf "_law_readings" "_law_readings" (defArgs s_law_readings) (defBody s_law_readings) (defScope s_law_readings) .none kV14 dc14 pm14 an14 cd14 ct14), sl14⟩) (c14 : PySem.W.codeIn K cd14 "_law_readings" = true) (k14 : PySem.W.keepIn K (.ref f14) = true)
    (a15 : PySem.W.nsIn K mainGlobals "_law_times" = some (some (.ref f15))) (l15 : K.lookup f15 = some ⟨oc15, od15, .func (PySem.W.fnOf "_law_times" "_law_times" (defArgs s_law_times) (defBody s_law_times) (defScope s_law_times) .none kV15 dc15 pm15 an15 cd15 ct15), sl15⟩) (c15 : PySem.W.codeIn K cd15 "_law_times" = true) (k15 : PySem.W.keepIn K (.ref f15) = true)
    (a16 : PySem.W.nsIn K mainGlobals "_law_sorted" = some (some (.ref f16))) (l16 : K.lookup f16 = some ⟨oc16, od16, .func (PySem.W.fnOf "_law_sorted" "_law_sorted" (defArgs s_law_sorted) (defBody s_law_sorted) (defScope s_law_sorted) .none kV16 dc16 pm16 an16 cd16 ct16), sl16⟩) (c16 : PySem.W.codeIn K cd16 "_law_sorted" = true) (k16 : PySem.W.keepIn K (.ref f16) = true)
    (a17 : PySem.W.nsIn K mainGlobals "_law_letters" = some (some (.ref f17))) (l17 : K.lookup f17 = some ⟨oc17, od17, .func (PySem.W.fnOf "_law_letters" "_law_letters" (defArgs s_law_letters) (defBody s_law_letters) (defScope s_law_letters) .none kV17 dc17 pm17 an17 cd17 ct17), sl17⟩) (c17 : PySem.W.codeIn K cd17 "_law_letters" = true) (k17 : PySem.W.keepIn K (.ref f17) = true)
    (a18 : PySem.W.nsIn K mainGlobals "_law_is_one" = some (some (.ref f18))) (l18 : K.lookup f18 = some ⟨oc18, od18, .func (PySem.W.fnOf "_law_is_one" "_law_is_one" (defArgs s_law_is_one) (defBody s_law_is_one) (defScope s_law_is_one) .none kV18 dc18 pm18 an18 cd18 ct18), sl18⟩) (c18 : PySem.W.codeIn K cd18 "_law_is_one" = true) (k18 : PySem.W.keepIn K (.ref f18) = true)
    (a19 : PySem.W.nsIn K mainGlobals "_law_are_ones" = some (some (.ref f19))) (l19 : K.lookup f19 = some ⟨oc19, od19, .func (PySem.W.fnOf "_law_are_ones" "_law_are_ones" (defArgs s_law_are_ones) (defBody s_law_are_ones) (defScope s_law_are_ones) .none kV19 dc19 pm19 an19 cd19 ct19), sl19⟩) (c19 : PySem.W.codeIn K cd19 "_law_are_ones" = true) (k19 : PySem.W.keepIn K (.ref f19) = true)
    (a20 : PySem.W.nsIn K mainGlobals "_law_bent" = some (some (.ref f20))) (l20 : K.lookup f20 = some ⟨oc20, od20, .func (PySem.W.fnOf "_law_bent" "_law_bent" (defArgs s_law_bent) (defBody s_law_bent) (defScope s_law_bent) .none kV20 dc20 pm20 an20 cd20 ct20), sl20⟩) (c20 : PySem.W.codeIn K cd20 "_law_bent" = true) (k20 : PySem.W.keepIn K (.ref f20) = true)
    (a21 : PySem.W.nsIn K mainGlobals "_law_heard" = some (some (.ref f21))) (l21 : K.lookup f21 = some ⟨oc21, od21, .func (PySem.W.fnOf "_law_heard" "_law_heard" (defArgs s_law_heard) (defBody s_law_heard) (defScope s_law_heard) .none kV21 dc21 pm21 an21 cd21 ct21), sl21⟩) (c21 : PySem.W.codeIn K cd21 "_law_heard" = true) (k21 : PySem.W.keepIn K (.ref f21) = true)
    (a22 : PySem.W.nsIn K mainGlobals "_law_right" = some (some (.ref f22))) (l22 : K.lookup f22 = some ⟨oc22, od22, .func (PySem.W.fnOf "_law_right" "_law_right" (defArgs s_law_right) (defBody s_law_right) (defScope s_law_right) .none kV22 dc22 pm22 an22 cd22 ct22), sl22⟩) (c22 : PySem.W.codeIn K cd22 "_law_right" = true) (k22 : PySem.W.keepIn K (.ref f22) = true)
    (a23 : PySem.W.nsIn K mainGlobals "law" = some (some (.ref f23))) (l23 : K.lookup f23 = some ⟨oc23, od23, .func (PySem.W.fnOf "law" "law" (defArgs slaw) (defBody slaw) (defScope slaw) .none kV23 dc23 pm23 an23 cd23 ct23), sl23⟩) (c23 : PySem.W.codeIn K cd23 "law" = true) (k23 : PySem.W.keepIn K (.ref f23) = true)
    (pg : PySem.W.plainGet K C Str.empty = true) (hd : PySem.W.hasDictIn K C = true) (po : PySem.W.plainOver K C = true) (sa : PySem.W.findIn K (.ref C) "__setattr__" = some (some (.builtin "object.__setattr__"))) (mk : PySem.W.makesIn K C = true) (kc : PySem.W.keepIn K (.ref C) = true)
    (n0 : PySem.W.findIn K (.ref C) "_size" = some none)
    (n1 : PySem.W.findIn K (.ref C) "_told" = some none)
    (q1 : PySem.W.findIn K (.ref C) "__class__" = some (some (.builtin "object.__class__"))) (q2 : PySem.W.specialIn K (.builtin "object.__class__") "__get__" = some (some (.builtin "getset_descriptor.__get__"))) (q3 : PySem.W.takesIn K (.builtin "object.__class__") = some true) (q4 : PySem.W.mroIn K C (.type "object") = some true)
    (xC : PySem.W.nsIn K mainGlobals "InvalidReadings" = some (some (.ref CE))) (xO : K.lookup CE = some (excClassObj nmE qnE CE NE bsE bmE true snE subE abE colE ddE kE0 kE1 kE2 kE3 kE5 "ValueError.__new__")) (xR : PySem.HandSPX.refsVE bmE = true) (xsa : PySem.W.findIn K (.ref CE) "__setattr__" = some (some (.builtin "object.__setattr__"))) (xb : PySem.W.subIn K (.ref CE) (.type "BaseException") = some true) (xt : PySem.W.typeIn K (.ref CE) = some (.type "type")) (xk : PySem.W.keepIn K (.ref CE) = true) (xi : PySem.W.findIn K (.ref CE) "__init__" = some (some (.ref fE))) (xf : PySem.W.typeIn K (.ref fE) = some (.type "function")) (lE : K.lookup fE = some ⟨ocE, odE, .func (PySem.W.fnOf "__init__" "InvalidReadings.__init__" (defArgs sInvalidReadings___init__) (defBody sInvalidReadings___init__) (defScope sInvalidReadings___init__) .none kVE dcE pmE anE cdE ctE), slE⟩) (cE : PySem.W.codeIn K cdE "InvalidReadings.__init__" = true) (kE : PySem.W.keepIn K (.ref fE) = true)
    (xga : PySem.W.findIn K (.ref CE) "__getattribute__" = some (some (.builtin "BaseException.__getattribute__"))) (xgg : PySem.W.findIn K (.ref CE) "__getattr__" = some none) (xhd : PySem.W.hasDictIn K CE = true) (xno : PySem.W.findIn K (.ref CE) "value" = some none) (xss : PySem.W.subIn K (.ref CE) (.ref CE) = some true) (ks : PySem.W.subIn K (.ref C) (.type "str") = some false)
    (z0 : PySem.W.nsIn K mainGlobals "isinstance" = some none)
    (z1 : PySem.W.nsIn K mainGlobals "int" = some none)
    (z2 : PySem.W.nsIn K mainGlobals "bool" = some none)
    (z3 : PySem.W.nsIn K mainGlobals "str" = some none)
    (z4 : PySem.W.nsIn K mainGlobals "list" = some none)
    (z5 : PySem.W.nsIn K mainGlobals "tuple" = some none)
    (z6 : PySem.W.nsIn K mainGlobals "len" = some none)
    (z7 : PySem.W.nsIn K mainGlobals "range" = some none)
    (z8 : PySem.W.nsIn K mainGlobals "abs" = some none)
    (z9 : PySem.W.nsIn K mainGlobals "max" = some none)
    (z10 : PySem.W.nsIn K mainGlobals "divmod" = some none)
    (z11 : PySem.W.nsIn K mainGlobals "sorted" = some none)
    (z12 : PySem.W.nsIn K mainGlobals "dict" = some none)
    (z13 : PySem.W.nsIn K mainGlobals "all" = some none)
    (z14 : PySem.W.nsIn K mainGlobals "repr" = some none)
    (y0 : PySem.W.nsIn K mainGlobals "MOST_READINGS" = some (some (.int 60 t0)))
    (y1 : PySem.W.nsIn K mainGlobals "MOST_LETTERS" = some (some (.int 400 t1)))
    : ∃ fd : FuncData, (∀ (s : Shared) (v : Value), BindsTo s fd ⟨[v], []⟩ [("_law_script", v)]) ∧ ∀ base : Heap, K.In base → base.Ns mainGlobals mg → FnG l.prog w K mg base 9 fa fd ["_law_script"] (splaw K 0 0) := by
  have e := hfa.symm.trans (PySem.W.mg_of X G a23)
  cases e
  have B : Bs mg := ⟨PySem.W.mg_none_of X G z0, PySem.W.mg_none_of X G z1, PySem.W.mg_none_of X G z2, PySem.W.mg_none_of X G z3, PySem.W.mg_none_of X G z4, PySem.W.mg_none_of X G z5, PySem.W.mg_none_of X G z6, PySem.W.mg_none_of X G z7, PySem.W.mg_none_of X G z8, PySem.W.mg_none_of X G z9, PySem.W.mg_none_of X G z10, PySem.W.mg_none_of X G z11, PySem.W.mg_none_of X G z12, PySem.W.mg_none_of X G z13, PySem.W.mg_none_of X G z14⟩
  have Glb : Glo mg := ⟨⟨t0, PySem.W.mg_of X G y0⟩, ⟨t1, PySem.W.mg_of X G y1⟩⟩
  have WK : WebK K mg C := ⟨⟨pg, hd, po, sa⟩, n0, n1, PySem.W.mg_of X G aC, q1, q2, q3, q4⟩
  have DLot___init__ : DefI K C "__init__" "Lot.__init__" sLot___init__ ["self", "size", "readings"] := ⟨fM0, _, fun_mk (st := sLot___init__) lM0 cM0 kM0, ⟨mk, aM0, iM0, kc⟩, (fun_mk (st := sLot___init__) lM0 cM0 kM0).binds (ps := ["self", "size", "readings"]) fun _ _ _ _ _ _ us hl => match us, hl with | [_, _, _], _ => rfl⟩
  have DLot_readings : DefM K C "readings" "Lot.readings" sLot_readings ["self"] := ⟨fM1, _, fun_mk (st := sLot_readings) lM1 cM1 kM1, ⟨aM1, iM1, kM1⟩, (fun_mk (st := sLot_readings) lM1 cM1 kM1).binds (ps := ["self"]) fun _ _ _ _ _ _ us hl => match us, hl with | [_], _ => rfl⟩
  have Dis_integer : Def K mg "is_integer" sis_integer ["value"] := def_mk X G a0 l0 c0 k0 fun _ _ _ _ _ _ us hl => match us, hl with | [_], _ => rfl
  have Dis_between : Def K mg "is_between" sis_between ["value", "least", "most"] := def_mk X G a1 l1 c1 k1 fun _ _ _ _ _ _ us hl => match us, hl with | [_, _, _], _ => rfl
  have Dis_size : Def K mg "is_size" sis_size ["value"] := def_mk X G a2 l2 c2 k2 fun _ _ _ _ _ _ us hl => match us, hl with | [_], _ => rfl
  have Dis_listed : Def K mg "is_listed" sis_listed ["value"] := def_mk X G a3 l3 c3 k3 fun _ _ _ _ _ _ us hl => match us, hl with | [_], _ => rfl
  have Dis_letter : Def K mg "is_letter" sis_letter ["sign"] := def_mk X G a4 l4 c4 k4 fun _ _ _ _ _ _ us hl => match us, hl with | [_], _ => rfl
  have Dneed_size : Def K mg "need_size" sneed_size ["size"] := def_mk X G a5 l5 c5 k5 fun _ _ _ _ _ _ us hl => match us, hl with | [_], _ => rfl
  have Dis_text : Def K mg "is_text" sis_text ["value"] := def_mk X G a6 l6 c6 k6 fun _ _ _ _ _ _ us hl => match us, hl with | [_], _ => rfl
  have Dis_times : Def K mg "is_times" sis_times ["value"] := def_mk X G a7 l7 c7 k7 fun _ _ _ _ _ _ us hl => match us, hl with | [_], _ => rfl
  have Dare_readings : Def K mg "are_readings" sare_readings ["value"] := def_mk X G a8 l8 c8 k8 fun _ _ _ _ _ _ us hl => match us, hl with | [_], _ => rfl
  have D_times_together : Def K mg "_times_together" s_times_together ["readings"] := def_mk X G a9 l9 c9 k9 fun _ _ _ _ _ _ us hl => match us, hl with | [_], _ => rfl
  have D_law_pot : Def K mg "_law_pot" s_law_pot ["_law_script", "_law_k"] := def_mk X G a10 l10 c10 k10 fun _ _ _ _ _ _ us hl => match us, hl with | [_, _], _ => rfl
  have D_law_draw : Def K mg "_law_draw" s_law_draw ["_law_pot_here", "_law_size"] := def_mk X G a11 l11 c11 k11 fun _ _ _ _ _ _ us hl => match us, hl with | [_, _], _ => rfl
  have D_law_pick : Def K mg "_law_pick" s_law_pick ["_law_pot_here", "_law_some"] := def_mk X G a12 l12 c12 k12 fun _ _ _ _ _ _ us hl => match us, hl with | [_, _], _ => rfl
  have D_law_text : Def K mg "_law_text" s_law_text ["_law_pot_here", "_law_most"] := def_mk X G a13 l13 c13 k13 fun _ _ _ _ _ _ us hl => match us, hl with | [_, _], _ => rfl
  have D_law_readings : Def K mg "_law_readings" s_law_readings ["_law_pot_here", "_law_many"] := def_mk X G a14 l14 c14 k14 fun _ _ _ _ _ _ us hl => match us, hl with | [_, _], _ => rfl
  have D_law_times : Def K mg "_law_times" s_law_times ["_law_readings_here"] := def_mk X G a15 l15 c15 k15 fun _ _ _ _ _ _ us hl => match us, hl with | [_], _ => rfl
  have D_law_sorted : Def K mg "_law_sorted" s_law_sorted ["_law_told"] := def_mk X G a16 l16 c16 k16 fun _ _ _ _ _ _ us hl => match us, hl with | [_], _ => rfl
  have D_law_letters : Def K mg "_law_letters" s_law_letters ["_law_word"] := def_mk X G a17 l17 c17 k17 fun _ _ _ _ _ _ us hl => match us, hl with | [_], _ => rfl
  have D_law_is_one : Def K mg "_law_is_one" s_law_is_one ["_law_value"] := def_mk X G a18 l18 c18 k18 fun _ _ _ _ _ _ us hl => match us, hl with | [_], _ => rfl
  have D_law_are_ones : Def K mg "_law_are_ones" s_law_are_ones ["_law_value"] := def_mk X G a19 l19 c19 k19 fun _ _ _ _ _ _ us hl => match us, hl with | [_], _ => rfl
  have D_law_bent : Def K mg "_law_bent" s_law_bent ["_law_pot_here", "_law_value"] := def_mk X G a20 l20 c20 k20 fun _ _ _ _ _ _ us hl => match us, hl with | [_, _], _ => rfl
  have D_law_heard : Def K mg "_law_heard" s_law_heard ["_law_value"] := def_mk X G a21 l21 c21 k21 fun _ _ _ _ _ _ us hl => match us, hl with | [_], _ => rfl
  have D_law_right : Def K mg "_law_right" s_law_right ["_law_value"] := def_mk X G a22 l22 c22 k22 fun _ _ _ _ _ _ us hl => match us, hl with | [_], _ => rfl
  have Dlaw : Def K mg "law" slaw ["_law_script"] := def_mk X G a23 l23 c23 k23 fun _ _ _ _ _ _ us hl => match us, hl with | [_], _ => rfl
  refine ⟨PySem.W.fnOf "law" "law" (defArgs slaw) (defBody slaw) (defScope slaw) .none kV23 dc23 pm23 an23 cd23 ct23, fun s v => .of_eq rfl, fun base _ _ => ?_⟩
  have FE := fun_mk (st := sInvalidReadings___init__) lE cE kE
  have EX : ExcV l.prog w K mg base "InvalidReadings" CE := excV_mk (st := sInvalidReadings___init__) ⟨⟨_, _, _, _, _, _, _, _, _, _, _, _, _, _, _, xO, xR⟩, xsa, xb, xt, xk⟩ (PySem.W.mg_of X G xC) xi xf FE (FE.binds (ps := ["self", "value"]) (fun _ _ _ _ _ _ us hl => match us, hl with | [_, _], _ => rfl)) sc_exc rfl ⟨xga, xgg, xb, xhd⟩ xno
  have EXe : PySem.W.exmOne K (.ref CE) (.ref CE) = some true := PySem.W.exm_ref xb xhd xt xss
  have kS : PySem.W.kitOne K (.ref C) (.type "str") = some false := by
    unfold PySem.W.kitOne
    rw [if_neg (by simp)]
    show (if PySem.W.kitMeta "str" = true then PySem.W.subIn K (.ref C) (.type "str") else none) = some false
    rw [if_pos (by decide +kernel)]
    exact ks
  have H_law_pot := ok_law_pot (P := l.prog) (w := w) (base := base) D_law_pot B Glb WK EX EXe kS
  have H_law_draw := ok_law_draw (P := l.prog) (w := w) (base := base) D_law_draw B Glb WK EX EXe kS
  have H_law_pick := ok_law_pick (P := l.prog) (w := w) (base := base) D_law_pick B Glb WK EX EXe kS H_law_draw
  have H_law_text := ok_law_text (P := l.prog) (w := w) (base := base) D_law_text B Glb WK EX EXe kS H_law_draw H_law_pick
  have H_law_readings := ok_law_readings (P := l.prog) (w := w) (base := base) D_law_readings B Glb WK EX EXe kS H_law_text H_law_draw
  have H_law_bent := ok_law_bent (P := l.prog) (w := w) (base := base) D_law_bent B Glb WK EX EXe kS H_law_pick H_law_draw
  have His_integer := okis_integer (P := l.prog) (w := w) (base := base) Dis_integer B Glb WK EX EXe kS
  have His_between := okis_between (P := l.prog) (w := w) (base := base) Dis_between B Glb WK EX EXe kS His_integer
  have His_size := okis_size (P := l.prog) (w := w) (base := base) Dis_size B Glb WK EX EXe kS His_between
  have Hneed_size := okneed_size (P := l.prog) (w := w) (base := base) Dneed_size B Glb WK EX EXe kS His_size
  have His_listed := okis_listed (P := l.prog) (w := w) (base := base) Dis_listed B Glb WK EX EXe kS
  have His_letter := okis_letter (P := l.prog) (w := w) (base := base) Dis_letter B Glb WK EX EXe kS
  have His_text := okis_text (P := l.prog) (w := w) (base := base) Dis_text B Glb WK EX EXe kS His_letter
  have His_times := okis_times (P := l.prog) (w := w) (base := base) Dis_times B Glb WK EX EXe kS His_between
  have Hare_readings := okare_readings (P := l.prog) (w := w) (base := base) Dare_readings B Glb WK EX EXe kS His_listed His_text His_times
  have H_times_together := ok_times_together (P := l.prog) (w := w) (base := base) D_times_together B Glb WK EX EXe kS
  have HLot___init__ := okLot___init__ (P := l.prog) (w := w) (base := base) DLot___init__ B Glb WK EX EXe kS Hneed_size Hare_readings H_times_together
  have H_law_heard := ok_law_heard (P := l.prog) (w := w) (base := base) D_law_heard B Glb WK EX EXe kS HLot___init__
  have H_law_sorted := ok_law_sorted (P := l.prog) (w := w) (base := base) D_law_sorted B Glb WK EX EXe kS
  have H_law_letters := ok_law_letters (P := l.prog) (w := w) (base := base) D_law_letters B Glb WK EX EXe kS
  have H_law_is_one := ok_law_is_one (P := l.prog) (w := w) (base := base) D_law_is_one B Glb WK EX EXe kS H_law_letters
  have H_law_are_ones := ok_law_are_ones (P := l.prog) (w := w) (base := base) D_law_are_ones B Glb WK EX EXe kS H_law_is_one
  have H_law_times := ok_law_times (P := l.prog) (w := w) (base := base) D_law_times B Glb WK EX EXe kS
  have HLot_readings := okLot_readings (P := l.prog) (w := w) (base := base) DLot_readings B Glb WK EX EXe kS
  have H_law_right := ok_law_right (P := l.prog) (w := w) (base := base) D_law_right B Glb WK EX EXe kS H_law_heard H_law_sorted H_law_are_ones H_law_times HLot_readings
  have Hlaw := oklaw (P := l.prog) (w := w) (base := base) Dlaw B Glb WK EX EXe kS H_law_pot H_law_readings H_law_draw H_law_bent H_law_right
  obtain ⟨f, fd, O, m, k, b, F⟩ := Hlaw
  have e2 := m.symm.trans hfa
  cases e2
  rw [fd_is F l23] at O
  exact O
theorem walk {l : PySem.W.OpenLaw} {q : Program} {loose : List Str} {XP : (Str → Option Value) → Heap → Prop} {YP : World → Heap → Prop} {d : DefRec} {K : Params → PySem.W.Frag} (hn : l.most = some 63) (hdf : d.params.defaults = [])
    (hY : ∀ (w : World) (h : Heap), YP w h → (K w.params).In h)
    (F : ∀ (w : World) (mg : Str → Option Value) (fa : Addr) (h : Heap), (K w.params).In h → h.Ns mainGlobals mg → mg d.name = some (.ref fa) →
      ∃ fd : FuncData, (∀ (s : Shared) (u : Value), BindsTo s fd ⟨[u], []⟩ [("_law_script", u)]) ∧ ∀ base : Heap, (K w.params).In base → base.Ns mainGlobals mg → FnG l.prog w (K w.params) mg base 9 fa fd ["_law_script"] (splaw (K w.params) 0 0)) :
    PySem.W.WalkO q loose XP YP l.row.toRowW d [] (fun f vs => PySem.call f vs) :=
  walk_ofG (n := 63) (k := 9) (x := "_law_script") (sp := fun w => splaw (K w.params) 0 0) hn (by decide) hdf ⟨rfl, by decide, by decide⟩ hY F (fun _ _ a ns hl _ hS => ⟨a, ns, rfl, hS, hl, fun _ => rfl⟩)
end My
open PySem PySem.W PyProof.Rows
set_option maxRecDepth 100000 in
set_option maxHeartbeats 0 in
theorem PySem.Challenge.cw_suretexts_k17_any_value_as_readings_holds : PySem.Challenge.rw_suretexts_k17_any_value_as_readings.Holds := by
  w_on; o_law; k_head; (case hw => w_witness2)
  k_fill
  refine My.walk (l := PySem.Challenge.rw_suretexts_k17_any_value_as_readings) rfl rfl (fun w h Y => PySem.W.kIn_of Y) ?F
  case F =>
    intro w mg fa h KX G hmg
    refine' My.all_mk KX G hmg ?aC ?aM0 ?iM0 ?lM0 ?cM0 ?kM0 ?aM1 ?iM1 ?lM1 ?cM1 ?kM1 ?a0 ?l0 ?c0 ?k0 ?a1 ?l1 ?c1 ?k1 ?a2 ?l2 ?c2 ?k2 ?a3 ?l3 ?c3 ?k3 ?a4 ?l4 ?c4 ?k4 ?a5 ?l5 ?c5 ?k5 ?a6 ?l6 ?c6 ?k6 ?a7 ?l7 ?c7 ?k7 ?a8 ?l8 ?c8 ?k8 ?a9 ?l9 ?c9 ?k9 ?a10 ?l10 ?c10 ?k10 ?a11 ?l11 ?c11 ?k11 ?a12 ?l12 ?c12 ?k12 ?a13 ?l13 ?c13 ?k13 ?a14 ?l14 ?c14 ?k14 ?a15 ?l15 ?c15 ?k15 ?a16 ?l16 ?c16 ?k16 ?a17 ?l17 ?c17 ?k17 ?a18 ?l18 ?c18 ?k18 ?a19 ?l19 ?c19 ?k19 ?a20 ?l20 ?c20 ?k20 ?a21 ?l21 ?c21 ?k21 ?a22 ?l22 ?c22 ?k22 ?a23 ?l23 ?c23 ?k23 ?pg ?hd ?po ?sa ?mk ?kc ?n0 ?n1 ?q1 ?q2 ?q3 ?q4 ?xC ?xO ?xR ?xsa ?xb ?xt ?xk ?xi ?xf ?lE ?cE ?kE ?xga ?xgg ?xhd ?xno ?xss ?ks ?z0 ?z1 ?z2 ?z3 ?z4 ?z5 ?z6 ?z7 ?z8 ?z9 ?z10 ?z11 ?z12 ?z13 ?z14 ?y0 ?y1
    (case aC => k_is)
    (case aM0 => k_is)
    (case iM0 => k_is)
    (case lM0 => k_is)
    (case cM0 => k_is)
    (case kM0 => k_is)
    (case aM1 => k_is)
    (case iM1 => k_is)
    (case lM1 => k_is)
    (case cM1 => k_is)
    (case kM1 => k_is)
    (case a0 => k_is)
    (case l0 => k_is)
    (case c0 => k_is)
    (case k0 => k_is)
    (case a1 => k_is)
    (case l1 => k_is)
    (case c1 => k_is)
    (case k1 => k_is)
    (case a2 => k_is)
    (case l2 => k_is)
    (case c2 => k_is)
    (case k2 => k_is)
    (case a3 => k_is)
    (case l3 => k_is)
    (case c3 => k_is)
    (case k3 => k_is)
    (case a4 => k_is)
    (case l4 => k_is)
    (case c4 => k_is)
    (case k4 => k_is)
    (case a5 => k_is)
    (case l5 => k_is)
    (case c5 => k_is)
    (case k5 => k_is)
    (case a6 => k_is)
    (case l6 => k_is)
    (case c6 => k_is)
    (case k6 => k_is)
    (case a7 => k_is)
    (case l7 => k_is)
    (case c7 => k_is)
    (case k7 => k_is)
    (case a8 => k_is)
    (case l8 => k_is)
    (case c8 => k_is)
    (case k8 => k_is)
    (case a9 => k_is)
    (case l9 => k_is)
    (case c9 => k_is)
    (case k9 => k_is)
    (case a10 => k_is)
    (case l10 => k_is)
    (case c10 => k_is)
    (case k10 => k_is)
    (case a11 => k_is)
    (case l11 => k_is)
    (case c11 => k_is)
    (case k11 => k_is)
    (case a12 => k_is)
    (case l12 => k_is)
    (case c12 => k_is)
    (case k12 => k_is)
    (case a13 => k_is)
    (case l13 => k_is)
    (case c13 => k_is)
    (case k13 => k_is)
    (case a14 => k_is)
    (case l14 => k_is)
    (case c14 => k_is)
    (case k14 => k_is)
    (case a15 => k_is)
    (case l15 => k_is)
    (case c15 => k_is)
    (case k15 => k_is)
    (case a16 => k_is)
    (case l16 => k_is)
    (case c16 => k_is)
    (case k16 => k_is)
    (case a17 => k_is)
    (case l17 => k_is)
    (case c17 => k_is)
    (case k17 => k_is)
    (case a18 => k_is)
    (case l18 => k_is)
    (case c18 => k_is)
    (case k18 => k_is)
    (case a19 => k_is)
    (case l19 => k_is)
    (case c19 => k_is)
    (case k19 => k_is)
    (case a20 => k_is)
    (case l20 => k_is)
    (case c20 => k_is)
    (case k20 => k_is)
    (case a21 => k_is)
    (case l21 => k_is)
    (case c21 => k_is)
    (case k21 => k_is)
    (case a22 => k_is)
    (case l22 => k_is)
    (case c22 => k_is)
    (case k22 => k_is)
    (case a23 => k_is)
    (case l23 => k_is)
    (case c23 => k_is)
    (case k23 => k_is)
    (case pg => k_is)
    (case hd => k_is)
    (case po => k_is)
    (case sa => k_is)
    (case mk => k_is)
    (case kc => k_is)
    (case n0 => k_is)
    (case n1 => k_is)
    (case q1 => k_is)
    (case q2 => k_is)
    (case q3 => k_is)
    (case q4 => k_is)
    (case xC => k_is)
    (case xO => k_is)
    (case xR => rfl)
    (case xsa => k_is)
    (case xb => k_is)
    (case xt => k_is)
    (case xk => k_is)
    (case xi => k_is)
    (case xf => k_is)
    (case lE => k_is)
    (case cE => k_is)
    (case kE => k_is)
    (case xga => k_is)
    (case xgg => k_is)
    (case xhd => k_is)
    (case xno => k_is)
    (case xss => k_is)
    (case ks => k_is)
    (case z0 => k_is)
    (case z1 => k_is)
    (case z2 => k_is)
    (case z3 => k_is)
    (case z4 => k_is)
    (case z5 => k_is)
    (case z6 => k_is)
    (case z7 => k_is)
    (case z8 => k_is)
    (case z9 => k_is)
    (case z10 => k_is)
    (case z11 => k_is)
    (case z12 => k_is)
    (case z13 => k_is)
    (case z14 => k_is)
    (case y0 => k_is)
    (case y1 => k_is)
