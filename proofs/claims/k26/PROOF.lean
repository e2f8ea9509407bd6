import PyProof.Rows.All
import Wide.All
import OpenK.AllK
import Wide.FinOn
import HandS.ForMost
import HandS.IsInst
import HandS.SortInts
import HandS.Walk
import HandS.Property
import HandS.Style
import HandS.DictTup
import KE.SortData
import KE.KDictWalk
import HandS.OwnEq
import PyProof.InstNe
import PyProof.ListRange
import HandS.Conv
import KE.DataMinMax
import PyProof.Rows.StrStep
import HandS.Deep
import KE.GoesMore
import KE.GoesEnum
import HandS.Iter
import HandS.Set
import HandS.Strs
import PyProof.TupleOfSeq
import HandS.More
import HandS.DictComp
import PySem.Challenge.RW_suretexts_k26_whole_piece_webs
set_option Elab.async false
set_option maxRecDepth 100000
set_option linter.all false
namespace My
/-! ### reading round and round -/
def rd (l : List Nat) (p n : Nat) : List Nat := (List.range n).map fun k => l.getD ((p + k) % l.length) 0
theorem rd_len (l : List Nat) (p n : Nat) : (rd l p n).length = n := by simp [rd]
theorem rd_zero (l : List Nat) (p : Nat) : rd l p 0 = [] := rfl
theorem rd_succ (l : List Nat) (p n : Nat) : rd l p (n + 1) = rd l p n ++ [l.getD ((p + n) % l.length) 0] := by
  simp [rd, List.range_succ]
theorem rd_get (l : List Nat) (p n k : Nat) (h : k < n) : (rd l p n)[k]? = some (l.getD ((p + k) % l.length) 0) := by
  simp [rd, h]
theorem rd_drop (l : List Nat) (p n k : Nat) : (rd l p n).drop k = rd l (p + k) (n - k) := by
  apply List.ext_getElem?
  intro i
  rw [List.getElem?_drop]
  by_cases h : k + i < n
  · rw [rd_get _ _ _ _ h, rd_get _ _ _ _ (by omega), Nat.add_assoc]
  · rw [List.getElem?_eq_none (by rw [rd_len]; omega), List.getElem?_eq_none (by rw [rd_len]; omega)]
theorem rd_mod (l : List Nat) (p n : Nat) : rd l (p % l.length) n = rd l p n := by
  unfold rd
  apply List.map_congr_left
  intro k _
  rw [Nat.mod_add_mod]
theorem rd_self (l : List Nat) : rd l 0 l.length = l := by
  apply List.ext_getElem?
  intro i
  by_cases h : i < l.length
  · rw [rd_get _ _ _ _ h, Nat.zero_add, Nat.mod_eq_of_lt h, List.getElem?_eq_getElem h, List.getD_eq_getElem?_getD, List.getElem?_eq_getElem h]
    rfl
  · rw [List.getElem?_eq_none (by rw [rd_len]; omega), List.getElem?_eq_none (by omega)]
/-- turned -/
theorem rd_turn (l : List Nat) (p : Nat) (h : p < l.length) : rd l p l.length = l.drop p ++ l.take p := by
  apply List.ext_getElem?
  intro i
  by_cases hi : i < l.length
  · rw [rd_get _ _ _ _ hi]
    by_cases h2 : i < l.length - p
    · rw [List.getElem?_append_left (by rw [List.length_drop]; exact h2), List.getElem?_drop, Nat.mod_eq_of_lt (by omega), List.getElem?_eq_getElem (by omega), List.getD_eq_getElem?_getD, List.getElem?_eq_getElem (by omega)]
      rfl
    · rw [List.getElem?_append_right (by rw [List.length_drop]; omega), List.length_drop, List.getElem?_take_of_lt (by omega)]
      have e : (p + i) % l.length = i - (l.length - p) := by
        rw [Nat.mod_eq_sub_mod (by omega), Nat.mod_eq_of_lt (by omega)]
        omega
      rw [e, List.getElem?_eq_getElem (by omega), List.getD_eq_getElem?_getD, List.getElem?_eq_getElem (by omega)]
      rfl
  · rw [List.getElem?_eq_none (by rw [rd_len]; omega), List.getElem?_eq_none (by rw [List.length_append, List.length_drop, List.length_take]; omega)]
/-- reading from a turned ring -/
theorem rd_turned (l : List Nat) (b p n : Nat) (hl : 0 < l.length) : rd (rd l b l.length) p n = rd l (b + p) n := by
  unfold rd
  apply List.map_congr_left
  intro k _
  have e : ((List.range l.length).map fun k => l.getD ((b + k) % l.length) 0).length = l.length := by simp
  rw [e]
  have h2 : (p + k) % l.length < l.length := Nat.mod_lt _ hl
  rw [List.getD_eq_getElem?_getD, List.getElem?_map, List.getElem?_range h2]
  show l.getD ((b + (p + k) % l.length) % l.length) 0 = _
  rw [Nat.add_mod_mod, Nat.add_assoc]

/-! ### beginnings that are endings -/
def Pre (w t : List Nat) (k : Nat) : Prop := k ≤ w.length ∧ w.take k <:+ t
def Longest (w t : List Nat) (k : Nat) : Prop := Pre w t k ∧ ∀ k', Pre w t k' → k' ≤ k
def IsLB (p : List Nat) (b : Nat) : Prop := b < p.length ∧ p.take b <:+ p ∧ ∀ b', b' < p.length → p.take b' <:+ p → b' ≤ b
def At (w t : List Nat) (c k : Nat) : Prop := Pre w t k ∧ ∀ k', Pre w t k' → w[k']? = some c → k' ≤ k
theorem suff_one {a t : List Nat} {x c : Nat} : a ++ [x] <:+ t ++ [c] ↔ a <:+ t ∧ x = c := by
  constructor
  · rintro ⟨u, hu⟩
    rw [← List.append_assoc] at hu
    have h := List.append_inj' hu rfl
    exact ⟨⟨u, h.1⟩, by simpa using h.2⟩
  · rintro ⟨⟨u, hu⟩, rfl⟩
    exact ⟨u, by rw [← hu, List.append_assoc]⟩
theorem pre_succ {w t : List Nat} {c k : Nat} : Pre w (t ++ [c]) (k + 1) ↔ Pre w t k ∧ w[k]? = some c := by
  unfold Pre
  constructor
  · rintro ⟨h1, h2⟩
    have hk : k < w.length := by omega
    rw [List.take_succ_eq_append_getElem hk, suff_one] at h2
    exact ⟨⟨by omega, h2.1⟩, by rw [List.getElem?_eq_getElem hk, h2.2]⟩
  · rintro ⟨⟨h1, h2⟩, h3⟩
    have hk : k < w.length := by
      rw [List.getElem?_eq_some_iff] at h3
      exact h3.1
    rw [List.take_succ_eq_append_getElem hk, suff_one]
    rw [List.getElem?_eq_getElem hk] at h3
    exact ⟨by omega, h2, Option.some.inj h3⟩
theorem pre_zero (w t : List Nat) : Pre w t 0 := ⟨Nat.zero_le _, by simp⟩
theorem at_start {w t : List Nat} {c k : Nat} (h : Longest w t k) : At w t c k := ⟨h.1, fun k' h' _ => h.2 k' h'⟩
theorem at_fall {w t : List Nat} {c k b : Nat} (h : At w t c k) (hne : w[k]? ≠ some c) (hb : IsLB (w.take k) b) : At w t c b := by
  obtain ⟨h1, h2⟩ := h
  obtain ⟨b1, b2, b3⟩ := hb
  have lk : (w.take k).length = k := by rw [List.length_take]; have := h1.1; omega
  rw [lk] at b1 b3
  have tk : ∀ j, j ≤ k → (w.take k).take j = w.take j := fun j hj => by rw [List.take_take, Nat.min_eq_left hj]
  refine ⟨⟨by have := h1.1; omega, ?_⟩, fun k' p' e' => ?_⟩
  · rw [← tk b (by omega)]
    exact b2.trans h1.2
  · have l1 := h2 k' p' e'
    have l2 : k' ≠ k := by rintro rfl; exact hne e'
    have l3 : k' < k := by omega
    refine b3 k' l3 ?_
    rw [tk k' (by omega)]
    refine List.suffix_of_suffix_length_le p'.2 h1.2 ?_
    rw [List.length_take, List.length_take]
    have := h1.1
    omega
theorem at_hit {w t : List Nat} {c k : Nat} (h : At w t c k) (he : w[k]? = some c) : Longest w (t ++ [c]) (k + 1) := by
  refine ⟨pre_succ.mpr ⟨h.1, he⟩, fun k' p' => ?_⟩
  cases k' with
  | zero => omega
  | succ j =>
    have q := pre_succ.mp p'
    have := h.2 j q.1 q.2
    omega
theorem at_miss {w t : List Nat} {c : Nat} (h : At w t c 0) (he : w[0]? ≠ some c) : Longest w (t ++ [c]) 0 := by
  refine ⟨pre_zero _ _, fun k' p' => ?_⟩
  cases k' with
  | zero => omega
  | succ j =>
    have q := pre_succ.mp p'
    have l := h.2 j q.1 q.2
    have e : j = 0 := by omega
    subst e
    exact absurd q.2 he
theorem longest_nil (w : List Nat) : Longest w [] 0 := by
  refine ⟨pre_zero _ _, fun k' p' => ?_⟩
  have h := List.suffix_nil.mp p'.2
  have h2 : (w.take k').length = 0 := by rw [h]; rfl
  rw [List.length_take] at h2
  have := p'.1
  omega
theorem longest_le {w t : List Nat} {k : Nat} (h : Longest w t k) : k ≤ t.length := by
  have h1 := h.1.2.length_le
  rw [List.length_take] at h1
  have := h.1.1
  omega
/-- the longest beginning that ends the letters behind the first one is the longest border -/
theorem lb_of_longest {w : List Nat} {i k : Nat} (hi : i < w.length) (h : Longest w ((w.drop 1).take i) k) : IsLB (w.take (i + 1)) k := by
  have hk := longest_le h
  have ht : ((w.drop 1).take i).length = i := by rw [List.length_take, List.length_drop]; omega
  rw [ht] at hk
  have hl : (w.take (i + 1)).length = i + 1 := by rw [List.length_take]; omega
  have tk : ∀ j, j ≤ i + 1 → (w.take (i + 1)).take j = w.take j := fun j hj => by rw [List.take_take, Nat.min_eq_left hj]
  obtain ⟨a, r, rfl⟩ : ∃ a r, w = a :: r := by
    cases w with
    | nil => simp at hi
    | cons a r => exact ⟨a, r, rfl⟩
  have e : (a :: r).take (i + 1) = a :: ((a :: r).drop 1).take i := by simp
  refine ⟨by omega, ?_, fun b' hb' hs => ?_⟩
  · rw [tk k (by omega), e]
    exact h.1.2.trans (List.suffix_cons _ _)
  · rw [hl] at hb'
    refine h.2 b' ⟨by omega, ?_⟩
    rw [tk b' (by omega), e, List.suffix_cons_iff] at hs
    rcases hs with hs | hs
    · have hq := congrArg List.length hs
      rw [List.length_take, ← e, hl] at hq
      omega
    · exact hs
theorem lb_one {w : List Nat} (h : 0 < w.length) : IsLB (w.take 1) 0 := lb_of_longest h (by simpa using longest_nil w)
theorem lb_unique {p : List Nat} {a b : Nat} (h1 : IsLB p a) (h2 : IsLB p b) : a = b := by
  have := h1.2.2 b h2.1 h2.2.1
  have := h2.2.2 a h1.1 h1.2.1
  omega
/-- the list of the longest borders -/
def Bords (w : List Nat) (L : List Nat) : Prop := L.length = w.length ∧ ∀ j, j < w.length → ∃ b, L[j]? = some b ∧ IsLB (w.take (j + 1)) b
theorem bords_unique {w A B : List Nat} (h1 : Bords w A) (h2 : Bords w B) : A = B := by
  apply List.ext_getElem?
  intro i
  by_cases h : i < w.length
  · obtain ⟨a, ea, la⟩ := h1.2 i h
    obtain ⟨b, eb, lb⟩ := h2.2 i h
    rw [ea, eb, lb_unique la lb]
  · rw [List.getElem?_eq_none (by rw [h1.1]; omega), List.getElem?_eq_none (by rw [h2.1]; omega)]
/-- some first ones of them -/
def BordsTo (w : List Nat) (n : Nat) (L : List Nat) : Prop := L.length = n ∧ ∀ j, j < n → ∃ b, L[j]? = some b ∧ IsLB (w.take (j + 1)) b
theorem bordsTo_one {w : List Nat} (h : 0 < w.length) : BordsTo w 1 [0] := by
  refine ⟨rfl, fun j hj => ?_⟩
  have e : j = 0 := by omega
  subst e
  exact ⟨0, rfl, lb_one h⟩
theorem bordsTo_succ {w L : List Nat} {i k : Nat} (hi : i < w.length) (hB : BordsTo w i L) (h : Longest w ((w.drop 1).take i) k) : BordsTo w (i + 1) (L ++ [k]) := by
  refine ⟨by rw [List.length_append, hB.1]; rfl, fun j hj => ?_⟩
  by_cases hji : j < i
  · obtain ⟨b, e, l⟩ := hB.2 j hji
    exact ⟨b, by rw [List.getElem?_append_left (by rw [hB.1]; exact hji)]; exact e, l⟩
  · have e : j = i := by omega
    subst e
    refine ⟨k, ?_, lb_of_longest hi h⟩
    rw [List.getElem?_append_right (by rw [hB.1]; omega), hB.1, Nat.sub_self]
    rfl
theorem bordsTo_at {w L : List Nat} {n k : Nat} (hB : BordsTo w n L) (h0 : 0 < k) (hk : k ≤ n) : ∃ b, L[k - 1]? = some b ∧ IsLB (w.take k) b ∧ b < k := by
  obtain ⟨b, e, l⟩ := hB.2 (k - 1) (by omega)
  rw [show k - 1 + 1 = k by omega] at l
  refine ⟨b, e, l, ?_⟩
  have := l.1
  rw [List.length_take] at this
  omega
theorem bords_of {w L : List Nat} : BordsTo w w.length L ↔ Bords w L := Iff.rfl

/-! ### a word begins at a place -/
def due (l w : List Nat) : List Nat := (List.range l.length).filter fun p => rd l p w.length == w
theorem mem_due {l w : List Nat} {p : Nat} : p ∈ due l w ↔ p < l.length ∧ rd l p w.length = w := by
  simp [due]
/-- of the first n letters read -/
def dueTo (l w : List Nat) (n : Nat) : List Nat := (List.range n).filter fun p => rd l p w.length == w
theorem dueTo_all (l w : List Nat) : dueTo l w l.length = due l w := rfl
theorem dueTo_succ_yes {l w : List Nat} {n : Nat} (h : rd l n w.length = w) : dueTo l w (n + 1) = dueTo l w n ++ [n] := by
  simp [dueTo, List.range_succ, List.filter_append, h]
theorem dueTo_succ_no {l w : List Nat} {n : Nat} (h : ¬ rd l n w.length = w) : dueTo l w (n + 1) = dueTo l w n := by
  simp [dueTo, List.range_succ, List.filter_append, h]
/-- the whole word was just read -/
theorem longest_full {l w : List Nat} {n k : Nat} (h : Longest w (rd l 0 n) k) : k = w.length ↔ w.length ≤ n ∧ rd l (n - w.length) w.length = w := by
  have key : w <:+ rd l 0 n ↔ w.length ≤ n ∧ rd l (n - w.length) w.length = w := by
    constructor
    · intro hs
      have hl := hs.length_le
      rw [rd_len] at hl
      refine ⟨hl, ?_⟩
      have e := List.suffix_iff_eq_drop.mp hs
      rw [rd_len, rd_drop, Nat.zero_add, show n - (n - w.length) = w.length by omega] at e
      exact e.symm
    · rintro ⟨hl, e⟩
      rw [List.suffix_iff_eq_drop, rd_len, rd_drop, Nat.zero_add, show n - (n - w.length) = w.length by omega]
      exact e.symm
  rw [← key]
  constructor
  · rintro rfl
    have := h.1.2
    rw [List.take_length] at this
    exact this
  · intro hs
    have h1 := h.1.1
    have h2 := h.2 w.length ⟨Nat.le_refl _, by rw [List.take_length]; exact hs⟩
    omega

/-! ### the period -/
theorem getD_lt {l : List Nat} {i : Nat} (h : i < l.length) : l[i]? = some (l.getD i 0) := by
  rw [List.getD_eq_getElem?_getD, List.getElem?_eq_getElem h]
  rfl
theorem line_period {l : List Nat} {b : Nat} (h : IsLB l b) (i : Nat) (hi : i + (l.length - b) < l.length) : l.getD (i + (l.length - b)) 0 = l.getD i 0 := by
  have hb := h.1
  have e := List.suffix_iff_eq_drop.mp h.2.1
  have hl : (l.take b).length = b := by rw [List.length_take]; omega
  rw [hl] at e
  have e2 := congrArg (fun z : List Nat => z[i]?) e
  simp only [List.getElem?_take, List.getElem?_drop] at e2
  rw [if_pos (by omega)] at e2
  rw [List.getD_eq_getElem?_getD, List.getD_eq_getElem?_getD, e2, Nat.add_comm]
theorem line_mult {l : List Nat} {s : Nat} (h : ∀ i, i + s < l.length → l.getD (i + s) 0 = l.getD i 0) : ∀ (m i : Nat), i + m * s < l.length → l.getD (i + m * s) 0 = l.getD i 0
  | 0, i, _ => by simp
  | m + 1, i, hi => by
    have e : i + (m + 1) * s = (i + m * s) + s := by rw [Nat.succ_mul]; omega
    rw [e] at hi ⊢
    rw [h _ hi]
    exact line_mult h m i (by omega)
theorem round_period {l : List Nat} {s : Nat} (_hs : 0 < s) (hsl : s ≤ l.length) (hd : l.length % s = 0) (h : ∀ i, i + s < l.length → l.getD (i + s) 0 = l.getD i 0) (i : Nat) (hi : i < l.length) : l.getD ((i + s) % l.length) 0 = l.getD i 0 := by
  by_cases hlt : i + s < l.length
  · rw [Nat.mod_eq_of_lt hlt]
    exact h i hlt
  · have e1 : (i + s) % l.length = i + s - l.length := by
      rw [Nat.mod_eq_sub_mod (by omega), Nat.mod_eq_of_lt (by omega)]
    rw [e1]
    obtain ⟨q, hq⟩ : ∃ q, l.length = s * q := ⟨l.length / s, by rw [Nat.mul_div_cancel' (Nat.dvd_of_mod_eq_zero hd)]⟩
    have hq0 : 0 < q := by
      rcases Nat.eq_zero_or_pos q with z | z
      · subst z; omega
      · exact z
    obtain ⟨r, rfl⟩ : ∃ r, q = r + 1 := ⟨q - 1, by omega⟩
    have e2 : l.length = r * s + s := by rw [hq, Nat.mul_succ, Nat.mul_comm]
    have e3 : i = (i + s - l.length) + r * s := by omega
    have := line_mult h r (i + s - l.length) (by omega)
    rw [← e3] at this
    exact this.symm
/-- the told period -/
def per (l : List Nat) (b : Nat) : Nat := if l.length % (l.length - b) = 0 then l.length - b else l.length
theorem per_turns {l : List Nat} {b : Nat} (h : IsLB l b) (i : Nat) (hi : i < l.length) : l.getD ((i + per l b) % l.length) 0 = l.getD i 0 := by
  have hb := h.1
  unfold per
  split
  · exact round_period (by omega) (by omega) (by assumption) (fun j hj => line_period h j hj) i hi
  · rw [Nat.add_mod_right, Nat.mod_eq_of_lt hi]
theorem rd_per {l : List Nat} {b : Nat} (h : IsLB l b) (p n : Nat) : rd l (p + per l b) n = rd l p n := by
  have hb := h.1
  unfold rd
  apply List.map_congr_left
  intro k _
  rw [show p + per l b + k = (p + k) + per l b by omega, ← Nat.mod_add_mod]
  rw [per_turns h ((p + k) % l.length) (Nat.mod_lt _ (by omega))]
theorem per_pos {l : List Nat} {b : Nat} (h : IsLB l b) : 0 < per l b ∧ per l b ≤ l.length := by
  have hb := h.1
  unfold per
  split <;> omega

/-! ### rising lists of the same numbers are one list -/
theorem rising_ext : ∀ {a b : List Int}, a.Pairwise (· < ·) → b.Pairwise (· < ·) → (∀ x, x ∈ a ↔ x ∈ b) → a = b
  | [], [], _, _, _ => rfl
  | [], y :: ys, _, _, h => by have := (h y).mpr (by simp); simp at this
  | x :: xs, [], _, _, h => by have := (h x).mp (by simp); simp at this
  | x :: xs, y :: ys, ha, hb, h => by
    rw [List.pairwise_cons] at ha hb
    have e : x = y := by
      have h1 := (h x).mp (by simp)
      have h2 := (h y).mpr (by simp)
      rw [List.mem_cons] at h1 h2
      rcases h1 with h1 | h1
      · exact h1
      · rcases h2 with h2 | h2
        · exact h2.symm
        · have := ha.1 y h2
          have := hb.1 x h1
          omega
    subst e
    congr 1
    refine rising_ext ha.2 hb.2 fun z => ?_
    constructor
    · intro hz
      have := (h z).mp (List.mem_cons_of_mem _ hz)
      rw [List.mem_cons] at this
      rcases this with rfl | this
      · have := ha.1 _ hz; omega
      · exact this
    · intro hz
      have := (h z).mpr (List.mem_cons_of_mem _ hz)
      rw [List.mem_cons] at this
      rcases this with rfl | this
      · have := hb.1 _ hz; omega
      · exact this
theorem rising_of {s : List Int} (h : s.Pairwise (· ≤ ·)) (n : s.Nodup) : s.Pairwise (· < ·) := by
  have := h.and n
  exact this.imp fun ⟨h1, h2⟩ => by omega
/-- sorted, and the same numbers, none twice: that is it -/
theorem sorted_is {s m d : List Int} (hp : List.Perm s m) (hs : s.Pairwise (· ≤ ·)) (hn : m.Nodup) (hd : d.Pairwise (· < ·)) (h : ∀ x, x ∈ m ↔ x ∈ d) : s = d := by
  refine rising_ext (rising_of hs (hp.nodup_iff.mpr hn)) hd fun x => ?_
  rw [hp.mem_iff]
  exact h x
theorem due_rising (l w : List Nat) : ((due l w).map fun n : Nat => (n : Int)).Pairwise (· < ·) := by
  rw [List.pairwise_map]
  refine List.Pairwise.imp (fun {a b} (h : a < b) => by omega) ?_
  exact List.Pairwise.filter _ List.pairwise_lt_range
end My
namespace My
open PySem L2 PyProof.Rows
/-- a text by its letters -/
abbrev T (l : List Nat) : V := .str ⟨l.toArray⟩
section
variable {X : Cx}
theorem mul_flat (l : List Nat) (n : Nat) : ((List.replicate n l.toArray).foldl (· ++ ·) (#[] : Array Nat)) = (List.replicate n l).flatten.toArray := by
  have h : ∀ (m : Nat) (acc : List Nat), (List.replicate m l.toArray).foldl (· ++ ·) acc.toArray = (acc ++ (List.replicate m l).flatten).toArray := by
    intro m
    induction m with
    | zero => intro acc; simp
    | succ m ih =>
      intro acc
      rw [List.replicate_succ, List.foldl_cons]
      have e : acc.toArray ++ l.toArray = (acc ++ l).toArray := by simp
      rw [e, ih, List.replicate_succ, List.flatten_cons, List.append_assoc]
  have := h n []
  simpa using this
theorem op_mul_str : OpR X (binaryOp .Mult) (fun x y H Q => ∃ l n, x = T l ∧ y = .int (n : Nat) ∧ 1 ≤ n ∧ n ≤ 1000 ∧ l.length ≤ 1000 ∧ Q (T (List.replicate n l).flatten) H) := by
  intro pins s σ H x y v u Q I rx ry h
  obtain ⟨l, n, rfl, rfl, h1, h2, h3, q⟩ := h
  obtain ⟨t, rfl⟩ := rx
  obtain ⟨t', rfl⟩ := ry
  have hlen : (⟨l.toArray⟩ : Str).length = l.length := by simp [Str.length]
  have ok : MulOk ⟨l.toArray⟩ (n : Int) := by
    refine ⟨?_, fun _ _ => ?_, fun _ _ => ?_⟩
    · have a1 : decide ((n : Int) < -(2 ^ 63 : Int)) = false := decide_eq_false (by omega)
      have a2 : decide ((n : Int) ≥ 2 ^ 63) = false := decide_eq_false (by omega)
      rw [a1, a2]
      rfl
    · rw [hlen]
      have : (1000000 : Int) ≤ (2 ^ 63 - 1) / (n : Int) := by
        rw [Int.le_ediv_iff_mul_le (by omega)]
        omega
      omega
    · rw [hlen]
      have e : (n : Int).toNat = n := by omega
      rw [e]
      have : l.length * n ≤ 1000 * 1000 := Nat.mul_le_mul h3 h2
      have z : (1000000 : Nat) ≤ sizeLine := by decide
      simp [Builtin.Str.tooLong]
      omega
  refine SB.mul ok fun t'' k => ?_
  have em : Txt.mul ⟨l.toArray⟩ (n : Int) = ⟨(List.replicate n l).flatten.toArray⟩ := by
    unfold Txt.mul
    rw [if_neg (by omega)]
    split
    · rename_i c
      rw [hlen] at c
      simp at c
      rcases c with c | c
      · have : n = 1 := by omega
        subst this
        simp
      · subst c
        simp
    · have e : (n : Int).toNat = n := by omega
      rw [e]
      exact congrArg Str.mk (mul_flat l n)
  rw [em]
  exact ⟨.str _, H, I.tok _, ⟨_, rfl⟩, q⟩
theorem call_repr_bl : CallR X (.builtin "repr") (fun xs H Q => ∃ b, xs = [.bl b] ∧ Q (.str (if b then "True" else "False")) H) := by
  intro pins s σ H xs us Q I r h
  obtain ⟨b, rfl, q⟩ := h
  obtain ⟨u, rfl, e⟩ := vals1 r
  cases e
  exact PySem.P.repr_of_bool ⟨.str _, H, I.tok _, ⟨_, rfl⟩, q⟩
/-- a module's constant that is an int -/
theorem pe_globI {x : Str} {n : Int} {pos : Pos} (h : ∃ t, X.mg x = some (.int n t)) (hg : Gl X x := by rfl) (hd : (x == ("__debug__" : Str)) = false := by decide) : PE X (.Name x pos) (tC (.int n)) := by
  obtain ⟨t, e⟩ := h
  exact pe_glob (v := .int n) hg e ⟨t, rfl⟩ hd
variable {CX : CXT} {k : Nat} {f : Addr} {fd : FuncData} {ps ks : List Str} {sp : Sp} {E : XK} {x : Str} {p pos : Pos} {kws : List Keyword} {tk : TA} {g : List Value → List Value → List Value} {gV : List V → List V → List V}
/-- f(a=.., b=..) -/
theorem pe_callKK (F : FnOk X.prog X.w X.K X.mg X.base CX k f fd ps sp) (hr : Room k X.A) (hg : Gl X x) (hm : X.mg x = some (.ref f)) (hk : PySem.W.keepIn X.K (.ref f) = true) (hb : KBinds X.K fd ps ks g gV) (hx : Passes CX X E)
    (hkw : PK X kws tk) (hall : (backToKw pos (keywordEach kws X.env)).all (·.1.isSome) = true := by rfl) (hks : (backToKw pos (keywordEach kws X.env)).filterMap (·.1) = ks := by rfl)
    (hdb : (x == ("__debug__" : Str)) = false := by decide)
    (hpl : ((backTo pos (starEach [] X.env)).any (·.1) || (backToKw pos (keywordEach kws X.env)).any (·.1.isNone)) = false := by rfl) :
    PE X (.Call (.Name x p) [] kws pos) (tCallK sp gV E tNil tk) := by
  refine ⟨fun pins s σ H Q I h => ?_⟩
  refine wpAny_Call_Name_kw (ld_glob I hg hm ?_ hdb)
  refine PySem.W.callWith_KW0 (h₀ := X.base) I.ok.mod.kin hk hall (thn (hkw.run pos pins s σ H _ I h) fun ws s2 ⟨zs, H2, I2, rz, q2⟩ => ⟨I2.kIn, ?_⟩) hpl
  rw [hks]
  exact run_fnk F hr hb hx I2 .nil rz q2
end
/-! ### a def that stands, and one that keeps a promise -/
def Def (K : PySem.W.Frag) (mg : Str → Option Value) (x : Str) (st : Stmt) (ps : List Str) : Prop := ∃ (f : Addr) (fd : FuncData), Fun K x x st f fd ∧ mg x = some (.ref f) ∧ Binds K fd ps []
section
variable {P : Program} {w : World} {K : PySem.W.Frag} {mg : Str → Option Value} {base : Heap}
def Good (P : Program) (w : World) (K : PySem.W.Frag) (mg : Str → Option Value) (base : Heap) (x : Str) (st : Stmt) (ps : List Str) (k : Nat) (sp : Sp) : Prop := ∃ (f : Addr) (fd : FuncData), FnOk P w K mg base CX0 k f fd ps sp ∧ mg x = some (.ref f) ∧ PySem.W.keepIn K (.ref f) = true ∧ Binds K fd ps [] ∧ Fun K x x st f fd
theorem Def.good {x : Str} {st : Stmt} {ps : List Str} {k : Nat} {sp : Sp} (D : Def K mg x st ps) (h : ∀ f fd, Fun K x x st f fd → FnOk P w K mg base CX0 k f fd ps sp) : Good P w K mg base x st ps k sp := by
  obtain ⟨f, fd, F, m, b⟩ := D
  exact ⟨f, fd, h f fd F, m, F.kp, b, F⟩
theorem def_mk {h : Heap} (X : K.In h) (G : h.Ns mainGlobals mg) {x : Str} {st : Stmt} {ps : List Str} {f : Addr} {oc : Value} {od an : Option Addr} {osl : Array (Option Value)} {kV doc pm cdv ct : Value} (a : PySem.W.nsIn K mainGlobals x = some (some (.ref f)))
    (l : K.lookup f = some ⟨oc, od, .func (PySem.W.fnOf x x (defArgs st) (defBody st) (defScope st) .none kV doc pm an cdv ct), osl⟩) (c : PySem.W.codeIn K cdv x = true) (k : PySem.W.keepIn K (.ref f) = true)
    (hb : ∀ (kV doc pm : Value) (an : Option Addr) (cdv ct : Value) (us : List Value), us.length = ps.length → bindArgs (PySem.W.fnOf x x (defArgs st) (defBody st) (defScope st) .none kV doc pm an cdv ct) ⟨us, []⟩ = pure (ps.zip us)) : Def K mg x st ps :=
  ⟨f, _, fun_mk l c k, PySem.W.mg_of X G a, (fun_mk l c k).binds hb⟩
theorem fun_kbinds {x qual : Str} {st : Stmt} {f : Addr} {fd : FuncData} {ps ks : List Str} (F : Fun K x qual st f fd) (g : List Value → List Value → List Value) (gV : List V → List V → List V)
    (hrel : ∀ {vs : List V} {us : List Value} {zs : List V} {ws : List Value}, Vals vs us → Vals zs ws → Vals (gV vs zs) (g us ws))
    (h : ∀ (kV doc pm : Value) (an : Option Addr) (cdv ct : Value) (us ws : List Value), (g us ws).length = ps.length → bindArgs (PySem.W.fnOf x qual (defArgs st) (defBody st) (defScope st) .none kV doc pm an cdv ct) ⟨us, ks.zip ws⟩ = pure (ps.zip (g us ws))) : KBinds K fd ps ks g gV := by
  obtain ⟨oc, od, kV, doc, pm, an, cdv, ct, osl, rfl, lk, hcd⟩ := F.ex
  exact ⟨fun s us ws X hl => .of_eq (h kV doc pm an cdv ct us ws hl), hrel⟩
/-- two keywords, in the parameters' order, or turned; one -/
def g12 {α : Type} : List α → List α → List α | [], [a, b] => [a, b] | _, _ => []
def g21 {α : Type} : List α → List α → List α | [], [a, b] => [b, a] | _, _ => []
def g1 {α : Type} : List α → List α → List α | [], [a] => [a] | _, _ => []
theorem g12_inv {α : Type} {us ws : List α} (h : (g12 us ws).length = 2) : us = [] ∧ ∃ a b, ws = [a, b] := by
  match us, ws, h with
  | [], [a, b], _ => exact ⟨rfl, a, b, rfl⟩
  | [], [], h => exact absurd h (by simp [g12, g21, g1])
  | [], [_], h => exact absurd h (by simp [g12])
  | [], _ :: _ :: _ :: _, h => exact absurd h (by simp [g12])
  | _ :: _, _, h => exact absurd h (by simp [g12])
theorem g21_inv {α : Type} {us ws : List α} (h : (g21 us ws).length = 2) : us = [] ∧ ∃ a b, ws = [a, b] := by
  match us, ws, h with
  | [], [a, b], _ => exact ⟨rfl, a, b, rfl⟩
  | [], [], h => exact absurd h (by simp [g12, g21, g1])
  | [], [_], h => exact absurd h (by simp [g21])
  | [], _ :: _ :: _ :: _, h => exact absurd h (by simp [g21])
  | _ :: _, _, h => exact absurd h (by simp [g21])
theorem g1_inv {α : Type} {us ws : List α} (h : (g1 us ws).length = 1) : us = [] ∧ ∃ a, ws = [a] := by
  match us, ws, h with
  | [], [a], _ => exact ⟨rfl, a, rfl⟩
  | [], [], h => exact absurd h (by simp [g12, g21, g1])
  | [], _ :: _ :: _, h => exact absurd h (by simp [g1])
  | _ :: _, _, h => exact absurd h (by simp [g1])
theorem rel12 {vs : List V} {us : List Value} {zs : List V} {ws : List Value} (a : Vals vs us) (b : Vals zs ws) : Vals (g12 vs zs) (g12 us ws) := by
  cases a with
  | nil =>
    cases b with
    | nil => exact .nil
    | cons r b =>
      cases b with
      | nil => exact .nil
      | cons r2 b =>
        cases b with
        | nil => exact .cons r (.cons r2 .nil)
        | cons r3 b => exact .nil
  | cons r a => exact .nil
theorem rel21 {vs : List V} {us : List Value} {zs : List V} {ws : List Value} (a : Vals vs us) (b : Vals zs ws) : Vals (g21 vs zs) (g21 us ws) := by
  cases a with
  | nil =>
    cases b with
    | nil => exact .nil
    | cons r b =>
      cases b with
      | nil => exact .nil
      | cons r2 b =>
        cases b with
        | nil => exact .cons r2 (.cons r .nil)
        | cons r3 b => exact .nil
  | cons r a => exact .nil
theorem rel1 {vs : List V} {us : List Value} {zs : List V} {ws : List Value} (a : Vals vs us) (b : Vals zs ws) : Vals (g1 vs zs) (g1 us ws) := by
  cases a with
  | nil =>
    cases b with
    | nil => exact .nil
    | cons r b =>
      cases b with
      | nil => exact .cons r .nil
      | cons r3 b => exact .nil
  | cons r a => exact .nil
end
end My
namespace My
open PySem L2 PyProof.Rows
/-! ### methods, properties, __init__ of a class at C -/
section
variable {P : Program} {w : World} {K : PySem.W.Frag} {mg : Str → Option Value} {base : Heap} {C : Addr}
def DefM (K : PySem.W.Frag) (C : Addr) (x qual : Str) (st : Stmt) (ps : List Str) : Prop := ∃ (f : Addr) (fd : FuncData), Fun K x qual st f fd ∧ Meth K C x f ∧ Binds K fd ps []
def DefP (K : PySem.W.Frag) (C : Addr) (x qual : Str) (st : Stmt) (ps : List Str) : Prop := ∃ (p f : Addr) (fd : FuncData), Fun K x qual st f fd ∧ PropOf K C x p f ∧ Binds K fd ps []
def DefI (K : PySem.W.Frag) (C : Addr) (x qual : Str) (st : Stmt) (ps : List Str) : Prop := ∃ (f : Addr) (fd : FuncData), Fun K x qual st f fd ∧ Mk K C f ∧ Binds K fd ps []
def GoodM (P : Program) (w : World) (K : PySem.W.Frag) (mg : Str → Option Value) (base : Heap) (C : Addr) (x qual : Str) (st : Stmt) (ps : List Str) (k : Nat) (sp : Sp) : Prop := ∃ (f : Addr) (fd : FuncData), FnOk P w K mg base CX0 k f fd ps sp ∧ Meth K C x f ∧ Binds K fd ps [] ∧ Fun K x qual st f fd
def GoodP (P : Program) (w : World) (K : PySem.W.Frag) (mg : Str → Option Value) (base : Heap) (C : Addr) (x _qual : Str) (_st : Stmt) (ps : List Str) (k : Nat) (sp : Sp) : Prop := ∃ (p f : Addr) (fd : FuncData), FnOk P w K mg base CX0 k f fd ps sp ∧ PropOf K C x p f ∧ Binds K fd ps []
def GoodI (P : Program) (w : World) (K : PySem.W.Frag) (mg : Str → Option Value) (base : Heap) (C : Addr) (x _qual : Str) (_st : Stmt) (ps : List Str) (k : Nat) (sp : Sp) : Prop := ∃ (f : Addr) (fd : FuncData), FnOk P w K mg base CX0 k f fd ps sp ∧ Mk K C f ∧ Binds K fd ps []
theorem DefM.good {x qual : Str} {st : Stmt} {ps : List Str} {k : Nat} {sp : Sp} (D : DefM K C x qual st ps) (h : ∀ f fd, Fun K x qual st f fd → FnOk P w K mg base CX0 k f fd ps sp) : GoodM P w K mg base C x qual st ps k sp := by
  obtain ⟨f, fd, F, m, b⟩ := D
  exact ⟨f, fd, h f fd F, m, b, F⟩
theorem DefP.good {x qual : Str} {st : Stmt} {ps : List Str} {k : Nat} {sp : Sp} (D : DefP K C x qual st ps) (h : ∀ f fd, Fun K x qual st f fd → FnOk P w K mg base CX0 k f fd ps sp) : GoodP P w K mg base C x qual st ps k sp := by
  obtain ⟨p, f, fd, F, m, b⟩ := D
  exact ⟨p, f, fd, h f fd F, m, b⟩
theorem DefI.good {x qual : Str} {st : Stmt} {ps : List Str} {k : Nat} {sp : Sp} (D : DefI K C x qual st ps) (h : ∀ f fd, Fun K x qual st f fd → FnOk P w K mg base CX0 k f fd ps sp) : GoodI P w K mg base C x qual st ps k sp := by
  obtain ⟨f, fd, F, m, b⟩ := D
  exact ⟨f, fd, h f fd F, m, b⟩
end
def g123 {α : Type} : List α → List α → List α | [], [a, b, c] => [a, b, c] | _, _ => []
theorem g123_inv {α : Type} {us ws : List α} (h : (g123 us ws).length = 3) : us = [] ∧ ∃ a b c, ws = [a, b, c] := by
  unfold g123 at h
  split at h
  · exact ⟨rfl, _, _, _, rfl⟩
  · simp at h
theorem rel123 {vs : List V} {us : List Value} {zs : List V} {ws : List Value} (a : Vals vs us) (b : Vals zs ws) : Vals (g123 vs zs) (g123 us ws) := by
  cases a with
  | cons h t => exact .nil
  | nil => cases b with
    | nil => exact .nil
    | cons h1 t => cases t with
      | nil => exact .nil
      | cons h2 t => cases t with
        | nil => exact .nil
        | cons h3 t => cases t with
          | nil => exact .cons h1 (.cons h2 (.cons h3 .nil))
          | cons h4 t => exact .nil
/-- self, then one keyword -/
def gm1 {α : Type} : List α → List α → List α | [a], [b] => [a, b] | _, _ => []
theorem gm1_inv {α : Type} {us ws : List α} (h : (gm1 us ws).length = 2) : ∃ a b, us = [a] ∧ ws = [b] := by
  unfold gm1 at h
  split at h
  · exact ⟨_, _, rfl, rfl⟩
  · simp at h
theorem relm1 {vs : List V} {us : List Value} {zs : List V} {ws : List Value} (a : Vals vs us) (b : Vals zs ws) : Vals (gm1 vs zs) (gm1 us ws) := by
  cases a with
  | nil => exact .nil
  | cons h t => cases t with
    | cons h2 t => exact .nil
    | nil => cases b with
      | nil => exact .nil
      | cons h1 t => cases t with
        | nil => exact .cons h (.cons h1 .nil)
        | cons h2 t => exact .nil
/-! ### a list or a tuple, gone through -/
section
variable {X : Cx}
theorem pi_or {tg e : Expr} {w1 w2 : TI} (h1 : PI X tg e w1) (h2 : PI X tg e w2) : PI X tg e (fun σ H R => w1 σ H R ∨ w2 σ H R) := by
  constructor
  intro pins s σ H R I h
  rcases h with h | h
  · exact h1.run pins s σ H R I h
  · exact h2.run pins s σ H R I h
end
end My
namespace My
open PySem PySem.W L2 L2.DX PyProof.Rows
/-! ### d.items() of a dict by texts, sorted -/
section
variable {X : Cx}
def rItemsK : V → List V → Hp → VK → Prop := fun x xs H Q => ∃ (a : Addr) (kvs : List (Key × V)), x = .ref a ∧ xs = [] ∧ H a = some (.dK kvs) ∧ ∀ p, H p = none → Q (.ref p) (upd H p (itemsO p a))
theorem mt_itemsK : MtR X "dict.items" rItemsK := by
  intro pins s σ H x xs v us Q I rx rxs h
  obtain ⟨d, kvs, rfl, rfl, hd0, q⟩ := h
  cases rx
  cases rxs
  obtain ⟨_, hd, vs, rel, dof⟩ := dk_of I.hok hd0
  obtain ⟨es, ep, raw, _, _⟩ := PySem.Heap.DictOf.raw dof
  exact DT.callItems (es := es) (ep := ep) hd raw ⟨.ref s.heap.objs.size, upd H s.heap.objs.size (itemsO s.heap.objs.size d), I.laid (t' := s.toks) (fun b u e => Heap.get?_push_of_some _ e) (Nat.le_refl _) (itemsO_ok (Heap.get?_push_size _ rfl)), rfl, q _ (I.hok.fresh (Nat.le_refl _))⟩
/-- an entry: a text and a number -/
abbrev entSI (e : Str × Int) : Key × V := (Sum.inr e.1, .int e.2)
abbrev encSI (e : Str × Int) : PyData := .tuple [.str e.1, .int e.2]
theorem kv_at : ∀ {kvs : List (Key × V)} {vs : List (Key × Value)}, KV kvs vs → ∀ {j : Nat} {p : Key × V}, kvs[j]? = some p → ∃ q, vs[j]? = some q ∧ p.1 = q.1 ∧ RelV p.2 q.2
  | _, _, .nil, _, _, h => by simp at h
  | _, _, .cons r _, 0, _, h => by
    cases h
    exact ⟨_, rfl, r⟩
  | _, _, .cons _ t, j + 1, p, h => by
    obtain ⟨q, h1, h2⟩ := kv_at t (j := j) (by simpa using h)
    exact ⟨q, by simpa using h1, h2⟩
theorem eachIs_of {α β : Type} {R : α → β → Prop} : ∀ {as : List α} {bs : List β}, as.length = bs.length → (∀ (j : Nat) (a : α) (b : β), as[j]? = some a → bs[j]? = some b → R a b) → PySem.W.EachIs R as bs
  | [], [], _, _ => .nil
  | [], _ :: _, h, _ => by simp at h
  | _ :: _, [], h, _ => by simp at h
  | a :: as, b :: bs, h, k => .cons (k 0 a b rfl rfl) (eachIs_of (by simpa using h) fun j x y hx hy => k (j + 1) x y (by simpa using hx) (by simpa using hy))
theorem encSI_alike (kvs : List (Str × Int)) : AllAlike (kvs.map encSI) := by
  intro d hd d' hd'
  obtain ⟨e, _, rfl⟩ := List.mem_map.mp hd
  obtain ⟨e', _, rfl⟩ := List.mem_map.mp hd'
  rfl
theorem encSI_sortable (kvs : List (Str × Int)) : Sortable (kvs.map encSI) := .tuples fun b => ⟨_, _, rfl⟩
theorem eachIs_refs {β : Type} {as : List Addr} {bs : List β} : ∀ {out : List Value} {cs : List β}, PySem.W.EachIs (fun v b => ∃ (j : Nat) (x : Addr), v = Value.ref x ∧ as[j]? = some x ∧ bs[j]? = some b) out cs →
    ∃ ts : List Addr, out = ts.map Value.ref ∧ Paired (fun (x : Addr) (b : β) => ∃ j : Nat, as[j]? = some x ∧ bs[j]? = some b) ts cs
  | _, _, .nil => ⟨[], rfl, .nil⟩
  | _, _, .cons h t => by
    obtain ⟨j, x, rfl, h1, h2⟩ := h
    obtain ⟨ts, rfl, hp⟩ := eachIs_refs t
    exact ⟨x :: ts, rfl, .cons ⟨j, h1, h2⟩ hp⟩
theorem paired_imp {α β : Type} {F G : α → β → Prop} (h : ∀ a b, F a b → G a b) : ∀ {l1 : List α} {l2 : List β}, Paired F l1 l2 → Paired G l1 l2
  | _, _, .nil => .nil
  | _, _, .cons a r => .cons (h _ _ a) (paired_imp h r)
theorem vals_refs : ∀ ts : List Addr, Vals (ts.map V.ref) (ts.map Value.ref)
  | [] => .nil
  | _ :: r => .cons rfl (vals_refs r)
/-- the told list is new, its pairs too -/
def rSortItK : List V → Hp → VK → Prop := fun vs H Q => ∃ (p a : Addr) (kvs : List (Str × Int)), vs = [.ref p] ∧ H p = some (itemsO p a) ∧ H a = some (.dK (kvs.map entSI)) ∧ kvs.length ≤ 100000 ∧
  ∀ (H' : Hp) (l : Addr) (ts : List Addr), (∀ b o, H b = some o → H' b = some o) → H l = none → H' l = some (.lst (ts.map V.ref)) → Paired (fun t (e : Str × Int) => H' t = some (.tup [.str e.1, .int e.2])) ts (kvs.mergeSort (dataLe false encSI)) → Q (.ref l) H'
theorem cr_sortItK (hc : X.calm = true) (hu : X.A.units + 64 < cLine) : CallR X (.builtin "sorted") rSortItK := by
  intro pins s σ H xs us Q I r h
  obtain ⟨p, a, kvs, rfl, hp, ha, hlen, q⟩ := h
  obtain rfl := Vals.ref1 r
  have vw : s.heap.IsItemsView p a := by
    have z : ObjOk X.prog X.w H s.heap p (itemsO p a) := I.hok p _ hp
    exact z.1
  obtain ⟨_, hd, vs, rel, dof⟩ := dk_of I.hok ha
  obtain ⟨es, ep, raw, hsz, hent⟩ := PySem.Heap.DictOf.raw dof
  have l1 : vs.length = kvs.length := by
    have := Paired.length rel
    rw [List.length_map] at this
    exact this.symm
  have small : kvs.length ≤ sizeLine := Nat.le_trans hlen (by decide)
  refine DT.sortedI (es := es) (ep := ep) (I.ok.hd hc) vw raw (by rw [hsz, l1]; exact small) fun h' tk as kpt hlt hl mde => ?_
  have lak : as.length = kvs.length := by rw [hl, hsz, l1]
  have nod : as.Nodup := List.Pairwise.imp (fun h => Nat.ne_of_lt h) mde.rise
  have pr : ∀ (j : Nat) (b : Addr), as[j]? = some b → ∃ (e : Str × Int) (t t' : Tok), kvs[j]? = some e ∧ h'.get? b = some { cls := .type "tuple", data := .seq #[Value.str e.1 t, Value.int e.2 t'] } := fun j b ej => by
    obtain ⟨en, ee, gh⟩ := mde.pairs j b ej
    have hj2 : j < es.size := (Array.getElem?_eq_some_iff.mp ee).1
    have hj3 : j < kvs.length := by rw [← l1, ← hsz]; exact hj2
    obtain ⟨⟨k, v⟩, g1, g2, g3⟩ := kv_at rel (j := j) (p := entSI kvs[j]) (by rw [List.getElem?_map, List.getElem?_eq_getElem hj3]; rfl)
    obtain ⟨m1, m2⟩ := hent j hj2 k v g1
    have e1 : es[j] = en := (Array.getElem?_eq_some_iff.mp ee).2
    rw [e1] at m1 m2
    have g2' : k = Sum.inr kvs[j].1 := g2.symm
    subst g2'
    obtain ⟨t', ev⟩ : ∃ t', v = Value.int kvs[j].2 t' := g3
    rcases keyIs_shape (show keyIs (Sum.inr kvs[j].1) en.key = true from m1) with ⟨i, t, z, _⟩ | ⟨x, t, z, ek⟩
    · cases z
    · have ex : kvs[j].1 = x := Sum.inr.inj z
      refine ⟨kvs[j], t, t', List.getElem?_eq_getElem hj3, ?_⟩
      rw [gh, ek, m2, ev, ex]
  have gl : (h'.push { cls := .type "list", data := .seq (as.map Value.ref).toArray }).get? h'.objs.size = some (seqObj "list" (as.map Value.ref).toArray 0) := Heap.get?_push_size _ rfl
  have far : ∀ b o, h'.get? b = some o → b ≠ h'.objs.size := fun b o e => Nat.ne_of_lt (Heap.lt_size e)
  have kp : ∀ b o, h'.get? b = some o → (h'.push { cls := .type "list", data := .seq (as.map Value.ref).toArray }).get? b = some o := fun b o e => Heap.get?_push_of_some _ e
  generalize h'.push { cls := .type "list", data := .seq (as.map Value.ref).toArray } = h2 at gl kp ⊢
  have at_ : ∀ (j : Nat) (v : Value) (e : Str × Int), (as.map Value.ref)[j]? = some v → kvs[j]? = some e → ∃ b, v = .ref b ∧ as[j]? = some b := fun j v e hv _ => by
    rw [List.getElem?_map] at hv
    cases z : as[j]? with
    | none => rw [z] at hv; cases hv
    | some b => rw [z] at hv; exact ⟨b, (Option.some.inj hv).symm, rfl⟩
  refine list_sort_data (s := { s with heap := h2, toks := tk }) (R := fun v e => ∃ (j : Nat) (x : Addr), v = Value.ref x ∧ as[j]? = some x ∧ kvs[j]? = some e) (enc := encSI) (bs := kvs) gl (eachIs_of (by rw [List.length_map]; exact lak) fun j v e hv ee => ?_) (eachIs_of (by rw [List.length_map]; exact lak) fun j v e hv ee => ?_) (encSI_alike kvs) (encSI_sortable kvs) small (fun b _ => ?_) fun out ho1 ho2 => ?_
  · obtain ⟨b, e1, e2⟩ := at_ j v e hv ee
    exact ⟨j, b, e1, e2, ee⟩
  · obtain ⟨b, rfl, e2⟩ := at_ j v e hv ee
    obtain ⟨e', t, t', g1, g2⟩ := pr j b e2
    rw [ee] at g1
    cases g1
    exact ⟨[] ++ ([] ++ []), .tuple (kp _ _ g2) rfl rfl (.cons (.str _ _) (.cons (.int _ _) .nil)), by simp⟩
  · show X.A.units + 1 + 1 + 1 < cLine
    omega
  obtain ⟨ts, rfl, hts⟩ := eachIs_refs ho2
  show EP X pins σ Q (.ref h'.objs.size) { s with heap := sortedHeap h2 h'.objs.size (as.map Value.ref) (ts.map Value.ref).toArray, toks := tk }
  have kF : ∀ b o, b ≠ h'.objs.size → h2.get? b = some o → (sortedHeap h2 h'.objs.size (as.map Value.ref) (ts.map Value.ref).toArray).get? b = some o := fun b o hb e => (PyProof.Rows.sortedHeap_old hb (Heap.lt_size e)).trans e
  have kS : ∀ b o, s.heap.get? b = some o → (sortedHeap h2 h'.objs.size (as.map Value.ref) (ts.map Value.ref).toArray).get? b = some o := fun b o e => kF b o (far _ _ (kpt b o e)) (kp b o (kpt b o e))
  obtain ⟨eF, heF⟩ := PyProof.Rows.sortedHeap_at (vs := as.map Value.ref) (out := (ts.map Value.ref).toArray) gl
  generalize sortedHeap h2 h'.objs.size (as.map Value.ref) (ts.map Value.ref).toArray = hz at kF kS heF ⊢
  have free0 : H h'.objs.size = none := I.hok.fresh (Nat.le_of_lt hlt)
  have htl : (ts.map V.ref).length ≤ sizeLine := by
    rw [List.length_map] at ho1 ⊢
    rw [ho1]
    exact small
  have I2 : Inv X pins σ (upd H h'.objs.size (.lst (ts.map V.ref))) { s with heap := hz, toks := tk } :=
    (I.kept (t' := tk) kS).take (h' := hz) (t' := tk) (fun b ob _ e => e) (I.fpOk (Nat.le_of_lt hlt) free0) ⟨htl, ts.map Value.ref, eF, vals_refs ts, heF⟩
  obtain ⟨H2, I3, g, qt⟩ := takeT (P := fun b vs => ∃ (j : Nat) (e : Str × Int), as[j]? = some b ∧ kvs[j]? = some e ∧ vs = [.str e.1, .int e.2]) I as _ I2 nod fun b hb => by
    obtain ⟨j, ej⟩ := List.mem_iff_getElem?.mp hb
    obtain ⟨e, t, t', ee, gh⟩ := pr j b ej
    have big : s.heap.objs.size ≤ b := Nat.le_of_lt (mde.above b hb)
    refine ⟨big, by rw [upd_ne (far _ _ gh)]; exact I.hok.fresh big, [.str e.1, .int e.2], ⟨j, e, ej, ee, rfl⟩, fun H3 => ⟨(by show 2 ≤ sizeLine; decide), [Value.str e.1 t, Value.int e.2 t'], .cons ⟨t, rfl⟩ (.cons ⟨t', rfl⟩ .nil), ⟨_, kF _ _ (far _ _ gh) (kp _ _ gh), rfl, 0, rfl⟩⟩⟩
  refine ⟨.ref h'.objs.size, H2, I3, rfl, q H2 h'.objs.size ts (fun b o e => g b o (by rw [upd_ne (ne_of_none e free0)]; exact e)) free0 (g _ _ upd_same) (paired_imp (fun x e hx => ?_) hts)⟩
  obtain ⟨i, i1, i2⟩ := hx
  obtain ⟨vs', ⟨j, e', j1, j2, ev⟩, hH⟩ := qt x (List.mem_of_getElem? i1)
  have eqi : i = j := (List.getElem?_inj (List.getElem?_eq_some_iff.mp i1).1 nod).mp (i1.trans j1.symm)
  subst eqi
  rw [i2] at j2
  cases j2
  rw [ev] at hH
  exact hH
end
end My
namespace My
open PySem PySem.W L2 L2.DX PyProof.Rows
section
variable {X : Cx}
theorem dp_at {K : PySem.W.Frag} {H : Hp} : ∀ {ys : List V} {ds : List PyData}, DpAll K H ys ds → ∀ {j : Nat} {y : V} {d : PyData}, ys[j]? = some y → ds[j]? = some d → Dp K H y d
  | _, _, .nil, _, _, _, h, _ => by simp at h
  | _, _, .cons p _, 0, _, _, h, k => by
    cases h
    cases k
    exact p
  | _, _, .cons _ t, j + 1, _, _, h, k => dp_at t (j := j) (by simpa using h) (by simpa using k)
theorem dp_len {K : PySem.W.Frag} {H : Hp} : ∀ {ys : List V} {ds : List PyData}, DpAll K H ys ds → ys.length = ds.length
  | _, _, .nil => rfl
  | _, _, .cons _ t => congrArg Nat.succ (dp_len t)
theorem vals_at : ∀ {ys : List V} {us : List Value}, Vals ys us → ∀ {j : Nat} {u : Value}, us[j]? = some u → ∃ y, ys[j]? = some y ∧ RelV y u
  | _, _, .nil, _, _, h => by simp at h
  | _, _, .cons r _, 0, _, h => by
    cases h
    exact ⟨_, rfl, r⟩
  | _, _, .cons _ t, j + 1, _, h => by
    obtain ⟨y, h1, h2⟩ := vals_at t (j := j) (by simpa using h)
    exact ⟨y, by simpa using h1, h2⟩
theorem out_vals {ys : List V} {ds : List PyData} : ∀ {out : List Value} {cs : List PyData}, PySem.W.EachIs (fun v d => ∃ (j : Nat) (y : V), ys[j]? = some y ∧ ds[j]? = some d ∧ RelV y v) out cs →
    ∃ zs : List V, Vals zs out ∧ Paired (fun (z : V) (d : PyData) => ∃ j : Nat, ys[j]? = some z ∧ ds[j]? = some d) zs cs
  | _, _, .nil => ⟨[], .nil, .nil⟩
  | _, _, .cons h t => by
    obtain ⟨j, y, h1, h2, h3⟩ := h
    obtain ⟨zs, g1, g2⟩ := out_vals t
    exact ⟨y :: zs, .cons h3 g1, .cons ⟨j, h1, h2⟩ g2⟩
theorem vals_len : ∀ {ys : List V} {us : List Value}, Vals ys us → ys.length = us.length
  | _, _, .nil => rfl
  | _, _, .cons _ t => congrArg Nat.succ (vals_len t)
/-- sorted(xs), data of one shape: the items are set in sequence by what they are -/
def rSortD (K : PySem.W.Frag) : List V → Hp → VK → Prop := fun vs H Q => ∃ (a : Addr) (ys : List V) (ds : List PyData), vs = [.ref a] ∧ SqL K H a ys ∧ DpAll K H ys ds ∧ AllAlike ds ∧ Sortable ds ∧ (∀ d ∈ ds, d.depth ≤ 8) ∧ ys.length ≤ 100000 ∧
  ∀ (zs : List V) (p : Addr), Paired (fun (z : V) (d : PyData) => ∃ j : Nat, ys[j]? = some z ∧ ds[j]? = some d) zs (ds.mergeSort (dataLe false id)) → H p = none → Q (.ref p) (upd H p (.lst zs))
theorem cr_sortD (hu : X.A.units + 64 < cLine) : CallR X (.builtin "sorted") (rSortD X.K) := by
  intro pins s σ H xs us Q I r h
  obtain ⟨a, ys, ds, rfl, hs, hd, hal, hk, hdp, hlen, q⟩ := h
  obtain rfl := Vals.ref1 r
  obtain ⟨its, rv, pl, _⟩ := I.list hs
  have li : its.length = ds.length := by rw [← vals_len rv]; exact dp_len hd
  have small : ds.length ≤ sizeLine := by rw [← dp_len hd]; exact Nat.le_trans hlen (by decide)
  refine sorted_data (R := fun v d => ∃ (j : Nat) (y : V), ys[j]? = some y ∧ ds[j]? = some d ∧ RelV y v) (enc := id) (bs := ds) pl.isList (eachIs_of li fun j v d hv he => ?_) (eachIs_of li fun j v d hv he => ?_) (by rw [List.map_id]; exact hal) (by rw [List.map_id]; exact hk) small (fun d hdm => ?_) fun out ho1 ho2 => ?_
  · obtain ⟨y, g1, g2⟩ := vals_at rv hv
    exact ⟨j, y, g1, he, g2⟩
  · obtain ⟨y, g1, g2⟩ := vals_at rv hv
    exact Dp.reads I d y v (dp_at hd g1 he) g2
  · have := hdp d hdm
    show X.A.units + 2 + d.depth < cLine
    omega
  obtain ⟨zs, hz, hp⟩ := out_vals ho2
  obtain ⟨eF, heF⟩ := PyProof.Rows.sortedAll_at s.heap its out.toArray
  have hzl : zs.length ≤ sizeLine := by rw [vals_len hz, ho1]; exact small
  exact ⟨.ref (s.heap.objs.size + 1), upd H (s.heap.objs.size + 1) (.lst zs), I.laid (t' := s.toks) (fun _ _ => PyProof.Rows.sortedAll_old) (Nat.le_succ _) ⟨hzl, out, eF, hz, heF⟩, rfl, q zs _ hp (I.hok.fresh (Nat.le_succ _))⟩
end
end My
namespace My
open PySem PySem.W L2 PyProof.Rows
/-! ### told lists: texts with numbers, rising by the texts -/
theorem strict_ext {α : Type} {r : α → α → Prop} (irr : ∀ a, ¬ r a a) (tr : ∀ a b c, r a b → r b c → r a c) : ∀ {a b : List α}, a.Pairwise r → b.Pairwise r → (∀ x, x ∈ a ↔ x ∈ b) → a = b
  | [], [], _, _, _ => rfl
  | [], y :: ys, _, _, h => absurd ((h y).mpr List.mem_cons_self) (by simp)
  | x :: xs, [], _, _, h => absurd ((h x).mp List.mem_cons_self) (by simp)
  | x :: xs, y :: ys, hx, hy, h => by
    have hx' := List.pairwise_cons.mp hx
    have hy' := List.pairwise_cons.mp hy
    have e : x = y := by
      rcases List.mem_cons.mp ((h x).mp List.mem_cons_self) with z | z
      · exact z
      · rcases List.mem_cons.mp ((h y).mpr List.mem_cons_self) with z2 | z2
        · exact z2.symm
        · exact absurd (tr _ _ _ (hx'.1 y z2) (hy'.1 x z)) (irr x)
    subst e
    refine congrArg (x :: ·) (strict_ext irr tr hx'.2 hy'.2 fun z => ?_)
    constructor
    · intro hz
      rcases List.mem_cons.mp ((h z).mp (List.mem_cons_of_mem _ hz)) with q | q
      · exact absurd (by rw [q] at hz; exact hx'.1 x hz) (irr x)
      · exact q
    · intro hz
      rcases List.mem_cons.mp ((h z).mpr (List.mem_cons_of_mem _ hz)) with q | q
      · exact absurd (by rw [q] at hz; exact hy'.1 x hz) (irr x)
      · exact q
def sLt (x y : Str) : Prop := x.cps.toList < y.cps.toList
instance (x y : Str) : Decidable (sLt x y) := by unfold sLt; exact inferInstance
theorem sLt_irr (x : Str) : ¬ sLt x x := List.lt_irrefl _
theorem sLt_trans {x y z : Str} (h : sLt x y) (k : sLt y z) : sLt x z := List.lt_trans h k
theorem sLt_total (x y : Str) : sLt x y ∨ x = y ∨ sLt y x := by
  by_cases h : sLt x y
  · exact .inl h
  · by_cases k : sLt y x
    · exact .inr (.inr k)
    · exact .inr (.inl (str_of_cps (List.le_antisymm (List.not_lt.mp k) (List.not_lt.mp h))))
theorem dataLt_si (x x' : Str) (y y' : Int) : dataLt (.tuple [.str x, .int y]) (.tuple [.str x', .int y']) = decide (sLt x x' ∨ (x = x' ∧ y < y')) := by
  rw [dataLt_pair (by simp [alike]) (by simp [alike]), dataLt_str, dataLt_int]
  have e1 : PyData.eqv (.str x) (.str x') = decide (x = x') := by
    by_cases h : x = x'
    · subst h; simp [PyData.eqv]
    · simp [PyData.eqv, h]
  have e2 : PyData.eqv (.int y) (.int y') = decide (y = y') := by
    by_cases h : y = y'
    · subst h; simp [PyData.eqv]
    · simp [PyData.eqv, h]
  rw [e1, e2]
  by_cases h : x = x'
  · subst h
    have n := sLt_irr x
    by_cases h2 : y = y'
    · subst h2
      simp [n]
    · simp [h2, n]
  · by_cases h3 : sLt x x'
    · have h4 := h3
      unfold sLt at h4
      simp [h, h3, h4]
    · have h4 := h3
      unfold sLt at h4
      simp [h, h3, h4]
abbrev leSI (e f : Str × Int) : Bool := decide (sLt e.1 f.1 ∨ (e.1 = f.1 ∧ e.2 ≤ f.2))
theorem dataLe_si : dataLe false encSI = leSI := by
  funext e f
  show (!dataLt (.tuple [.str f.1, .int f.2]) (.tuple [.str e.1, .int e.2])) = _
  rw [dataLt_si]
  by_cases h : sLt f.1 e.1 ∨ (f.1 = e.1 ∧ f.2 < e.2)
  · have h' : ¬ (sLt e.1 f.1 ∨ (e.1 = f.1 ∧ e.2 ≤ f.2)) := by
      rintro (z | ⟨z, z2⟩)
      · rcases h with k | ⟨k, k2⟩
        · exact sLt_irr _ (sLt_trans z k)
        · rw [k] at z; exact sLt_irr _ z
      · rcases h with k | ⟨k, k2⟩
        · rw [z] at k; exact sLt_irr _ k
        · omega
    simp [h, leSI, h']
  · have h' : sLt e.1 f.1 ∨ (e.1 = f.1 ∧ e.2 ≤ f.2) := by
      rcases sLt_total e.1 f.1 with z | z | z
      · exact .inl z
      · refine .inr ⟨z, ?_⟩
        rcases Int.lt_or_le f.2 e.2 with k | k
        · exact absurd (.inr ⟨z.symm, k⟩) h
        · exact k
      · exact absurd (.inl z) h
    simp only [decide_eq_true h', leSI, decide_eq_false h, Bool.not_false]
theorem leSI_trans (a b c : Str × Int) (h : leSI a b = true) (k : leSI b c = true) : leSI a c = true := by
  have h1 := of_decide_eq_true h
  have k1 := of_decide_eq_true k
  refine decide_eq_true ?_
  rcases h1 with z | ⟨z, z2⟩
  · rcases k1 with w | ⟨w, w2⟩
    · exact .inl (sLt_trans z w)
    · rw [w] at z; exact .inl z
  · rcases k1 with w | ⟨w, w2⟩
    · rw [← z] at w; exact .inl w
    · exact .inr ⟨z.trans w, by omega⟩
theorem leSI_total (a b : Str × Int) : (leSI a b || leSI b a) = true := by
  rw [Bool.or_eq_true]
  rcases sLt_total a.1 b.1 with z | z | z
  · exact .inl (decide_eq_true (.inl z))
  · rcases Int.le_total a.2 b.2 with k | k
    · exact .inl (decide_eq_true (.inr ⟨z, k⟩))
    · exact .inr (decide_eq_true (.inr ⟨z.symm, k⟩))
  · exact .inr (decide_eq_true (.inl z))
/-- rising by the texts -/
def Told (M : List (Str × Int)) : Prop := M.Pairwise fun e f => sLt e.1 f.1
theorem told_of {L : List (Str × Int)} (hn : (L.map Prod.fst).Nodup) : Told (L.mergeSort (dataLe false encSI)) := by
  rw [dataLe_si]
  have hp : (L.mergeSort leSI).Perm L := List.mergeSort_perm _ _
  have hs := List.pairwise_mergeSort (le := leSI) leSI_trans leSI_total L
  have hn2 : ((L.mergeSort leSI).map Prod.fst).Nodup := ((hp.map Prod.fst).nodup_iff).mpr hn
  rw [List.Nodup, List.pairwise_map] at hn2
  refine (hs.and hn2).imp fun {e f} h => ?_
  rcases of_decide_eq_true h.1 with z | z
  · exact z
  · exact absurd z.1 h.2
theorem Told.unique {M N : List (Str × Int)} (h : Told M) (k : Told N) (e : ∀ x, x ∈ M ↔ x ∈ N) : M = N :=
  strict_ext (r := fun e f : Str × Int => sLt e.1 f.1) (fun a => sLt_irr _) (fun _ _ _ => sLt_trans) h k e
/-- texts alone -/
abbrev leS (x y : Str) : Bool := decide (x.cps.toList ≤ y.cps.toList)
theorem dataLe_s : dataLe false (fun x : Str => PyData.str x) = leS := dataLe_str fun x => x
theorem leS_trans (a b c : Str) (h : leS a b = true) (k : leS b c = true) : leS a c = true := decide_eq_true (List.le_trans (of_decide_eq_true h) (of_decide_eq_true k))
theorem leS_total (a b : Str) : (leS a b || leS b a) = true := by
  rw [Bool.or_eq_true]
  rcases List.le_total a.cps.toList b.cps.toList with z | z
  · exact .inl (decide_eq_true z)
  · exact .inr (decide_eq_true z)
theorem texts_of {L : List Str} (hn : L.Nodup) : (L.mergeSort leS).Pairwise sLt := by
  have hp : (L.mergeSort leS).Perm L := List.mergeSort_perm _ _
  have hs := List.pairwise_mergeSort (le := leS) leS_trans leS_total L
  refine (hs.and ((hp.nodup_iff).mpr hn)).imp fun {x y} h => ?_
  rcases sLt_total x y with z | z | z
  · exact z
  · exact absurd z h.2
  · exact absurd z (List.not_lt.mpr (of_decide_eq_true h.1))
end My
namespace My
open PySem L2 PyProof.Rows
/-! ### == by an own __eq__, whatever it answers -/
section
variable {X : Cx}
theorem op_eqOwn {CX : CXT} {k : Nat} {C f : Addr} {fd : FuncData} {ps : List Str} {sp : Sp} {E : XK} (F : FnOk X.prog X.w X.K X.mg X.base CX k f fd ps sp) (hr : Room k X.A)
    (hs : PySem.W.findIn X.K (.ref C) "__eq__" = some (some (.ref f))) (hf : PySem.W.isFn X.K (.ref f) = true) (hb : Binds X.K fd ps []) (hx : Passes CX X E) :
    OpR X (compareOp .Eq) (fun x y H Q => ∃ a b dx dy fs gs, x = .ref a ∧ y = .ref b ∧ H a = some (.ins C dx fs) ∧ H b = some (.ins C dy gs) ∧ sp [x, y] H (fun v H' => ∃ c, v = .bl c ∧ Q (.bl c) H') E) := by
  intro pins s σ H x y v u Q I rx ry h
  obtain ⟨a, b, dx, dy, fs, gs, rfl, rfl, ha, hb', hsp⟩ := h
  cases rx
  cases ry
  show wpAny (model X.prog X.w) X.A (richCompare .Eq (.ref a) (.ref b)) (EP X pins σ Q) X.xe s
  obtain ⟨_, J, _⟩ := ins_get I.hok ha
  obtain ⟨_, J', _⟩ := ins_get I.hok hb'
  obtain ⟨_, J, _⟩ := J.look
  obtain ⟨_, J', _⟩ := J'.look
  obtain ⟨m, hF⟩ := I.fr
  refine PySem.W.cmp_K (op := .Eq) (tb := .ref C) hr.units0 hF I.ok.mod.kin J J'.type (by simp [PySem.W.notFirst]) hs hf ?_
  have vals : Vals [V.ref a, V.ref b] [Value.ref a, Value.ref b] := .cons rfl (.cons rfl .nil)
  have e0 : Env0 X.prog X.w X.K X.mg X.base X.A X.stack s H := I.env0
  have hl := F.len _ _ _ _ hsp
  refine wpAny_call (codeAny_mono (F.run X.A X.stack s H ⟨[.ref a, .ref b], []⟩ [.ref a, .ref b] [.ref a, .ref b] _ E hr e0 (by
    have bd := hb s [.ref a, .ref b] I.kIn (by simpa using hl)
    simpa using bd) vals hsp) fun r s' hq => ?_)
  cases r with
  | error e => exact hx pins σ H s e s' I hq
  | ok fl =>
    cases fl with
    | ret w =>
      obtain ⟨z, H', I', rz, c, ez, qz⟩ := I.after hq
      subst ez
      cases rz
      exact ⟨.bl c, H', I', rfl, qz⟩
    | next => exact False.elim hq
    | brk => exact False.elim hq
    | cont => exact False.elim hq
end
end My
namespace My
open PySem L2 PyProof.Rows PySem.W
/-! ### != of instances with an own __eq__ and the object's __ne__ -/
section
variable {prog : Program} {w : World} {A : Around} {E : Value → Shared → Prop} {s : Shared} {K : PySem.W.Frag} {x y C L f : Addr} {h₀ : Heap} {m : Str → Option Value} {ox : Obj} {od : Option Obj}
theorem check_ne {Q : Unit → Shared → Prop} (X : K.In s.heap) (I : PySem.W.InstAt s.heap x ox C od) (hm : PySem.W.mroIn K C (.type "object") = some true) (hq : Q () s) :
    wpAny (model prog w) A (checkBuiltinCall "object.__ne__" ⟨[.ref x, .ref y], []⟩) Q E s := by
  have L1 := PySem.W.looks_mroIn (M := model prog w) X hm
  simp only [checkBuiltinCall, F.cmpKind_ne, F.cmpSplit_ne]
  refine wpAny_bind ?_
  unfold isInstance
  refine wpAny_bind (I.type.here (L1.here ?_))
  simp only [Bool.not_true, Bool.false_eq_true, if_false]
  exact wpAny_pure hq
theorem entry_ne {Q : Fin → Shared → Prop} (hu : A.units < cLine) (X : K.In s.heap) (I : PySem.W.InstAt s.heap x ox C od) (hs : PySem.W.findIn K (.ref C) "__eq__" = some (some (.ref f))) (hf : PySem.W.isFn K (.ref f) = true)
    (hcall : wpAny (model prog w) A (call (.ref f) [.ref x, .ref y]) (fun v s' => ∃ b, v = .bool b ∧ Q (.done (.ret (.bool (!b)))) s') E s) :
    wpAny (model prog w) A (Builtin.«object.__ne__» ⟨[.ref x, .ref y], []⟩) Q E s := by
  unfold Builtin.«object.__ne__»
  repeat (first
    | with_reducible refine wpAny_cRoomFor hu ?_
    | (refine wpAny_bind (m := callSpecialIfBound? (.ref x) (Str.ofString "__eq__") [.ref y])
        (PySem.W.ifBound_K X I hs hf (wpAny_mono hcall (fun r s' hr => by
          obtain ⟨b, rfl, hq⟩ := hr
          repeat (first | exact hq | exact wpAny_pure hq | exact wpAny_truthy_bool hq | (refine wpAny_bind (m := truthy (.bool _)) (wpAny_truthy_bool ?_)) | wp_step)) fun _ _ e => e)))
    | wp_step)
theorem try_ne {Q : Option Value → Shared → Prop} (hu : A.units + 1 < cLine) (X : K.In s.heap) (I : PySem.W.InstAt s.heap x ox C od) (hm : PySem.W.mroIn K C (.type "object") = some true) (hn : PySem.W.findIn K (.ref C) "__ne__" = some (some (.builtin "object.__ne__")))
    (hs : PySem.W.findIn K (.ref C) "__eq__" = some (some (.ref f))) (hf : PySem.W.isFn K (.ref f) = true)
    (hcall : wpAny (model prog w) A.in1 (call (.ref f) [.ref x, .ref y]) (fun v s' => ∃ b, v = .bool b ∧ Q (some (.bool (!b))) s') E s) :
    wpAny (model prog w) A (tryCompare (.ref x) "__ne__" (.ref y)) Q E s := by
  have S := F.cmp_object.ne
  have one : wpAny (model prog w) A (callSpecialIfBound? (.ref x) "__ne__" [.ref y]) (fun r s' => ∃ b, r = some (.bool b) ∧ Q (some (.bool b)) s') E s := by
    simp only [callSpecialIfBound?, bindSpecialIfBound?]
    refine wpAny_holding (wpAny_bind (wpAny_bind (wpAny_bind (I.type.here ((PySem.W.looks_findIn X hn).here ?_)))))
    simp only [S.bind]
    refine wpAny_bind (wpAny_askSetting (wpAny_ite ?_))
    have fin : wpAny (model prog w) A (call (.builtin "object.__ne__") ([.ref x] ++ [.ref y]) >>= fun v => pure (some v)) (fun r s' => ∃ b, r = some (.bool b) ∧ Q (some (.bool b)) s') E s := by
      refine wpAny_bind (wpAny_call (codeAny_call_builtin S.plain F.cmpEntry_ne (check_ne X I hm (entry_ne (A := A.in1) hu X I hs hf (wpAny_mono hcall (fun v s' hv => ?_) fun _ _ e => e)))))
      obtain ⟨b, rfl, hq⟩ := hv
      exact ⟨b, rfl, wpAny_pure ⟨_, rfl, hq⟩⟩
    split
    · exact wpAny_bind (wpAny_pure (wpAny_pure fin))
    · exact wpAny_tryCatch (wpAny_bind (wpAny_pure (wpAny_pure fin)))
  unfold tryCompare
  refine wpAny_bind (wpAny_mono one (fun v s' hv => ?_) fun _ _ e => e)
  obtain ⟨b, rfl, hq⟩ := hv
  exact wpAny_pure hq
theorem ne_own {Q : Value → Shared → Prop} {oy : Obj} {odY : Option Obj} (hu : A.units + 1 < cLine) (X : K.In s.heap) (I : PySem.W.InstAt s.heap x ox C od) (J : PySem.W.InstAt s.heap y oy C odY) (hm : PySem.W.mroIn K C (.type "object") = some true) (hn : PySem.W.findIn K (.ref C) "__ne__" = some (some (.builtin "object.__ne__")))
    (hs : PySem.W.findIn K (.ref C) "__eq__" = some (some (.ref f))) (hf : PySem.W.isFn K (.ref f) = true)
    (hcall : wpAny (model prog w) A.in1 (call (.ref f) [.ref x, .ref y]) (fun v s' => ∃ b, v = .bool b ∧ Q (.bool (!b)) s') E s) :
    wpAny (model prog w) A (richCompare .NotEq (.ref x) (.ref y)) Q E s := by
  unfold richCompare
  simp only [oneThing_ref]
  refine wpAny_holding ?_
  refine wpAny_bind (wpAny_cRoomFor (Nat.lt_of_succ_lt hu) ?_)
  rw [cmpInfo_NotEq]
  dsimp only
  refine wpAny_bind (I.type.here (wpAny_bind (J.type.here ?_)))
  rw [show (Value.ref C != Value.ref C) = false from by simp]
  simp only [Bool.false_eq_true, if_false]
  refine wpAny_bind (wpAny_pure ?_)
  simp only [Bool.false_eq_true, if_false]
  refine wpAny_bind (try_ne hu X I hm hn hs hf (wpAny_mono hcall (fun v s' hv => ?_) fun _ _ e => e))
  obtain ⟨b, rfl, hq⟩ := hv
  exact ⟨b, rfl, wpAny_pure hq⟩
end
section
variable {X : Cx}
theorem op_neOwn {CX : CXT} {k : Nat} {C f : Addr} {fd : FuncData} {ps : List Str} {sp : Sp} {E : XK} (F : FnOk X.prog X.w X.K X.mg X.base CX k f fd ps sp) (hr : Room (k + 1) X.A) (hm : PySem.W.mroIn X.K C (.type "object") = some true) (hn : PySem.W.findIn X.K (.ref C) "__ne__" = some (some (.builtin "object.__ne__")))
    (hs : PySem.W.findIn X.K (.ref C) "__eq__" = some (some (.ref f))) (hf : PySem.W.isFn X.K (.ref f) = true) (hb : Binds X.K fd ps []) (hx : Passes CX X E) :
    OpR X (compareOp .NotEq) (fun x y H Q => ∃ a b dx dy fs gs, x = .ref a ∧ y = .ref b ∧ H a = some (.ins C dx fs) ∧ H b = some (.ins C dy gs) ∧ sp [x, y] H (fun v H' => ∃ c, v = .bl c ∧ Q (.bl (!c)) H') E) := by
  intro pins s σ H x y v u Q I rx ry h
  obtain ⟨a, b, dx, dy, fs, gs, rfl, rfl, ha, hb', hsp⟩ := h
  cases rx
  cases ry
  show wpAny (model X.prog X.w) X.A (richCompare .NotEq (.ref a) (.ref b)) (EP X pins σ Q) X.xe s
  obtain ⟨_, J, _⟩ := ins_get I.hok ha
  obtain ⟨_, J', _⟩ := ins_get I.hok hb'
  obtain ⟨_, J, _⟩ := J.look
  obtain ⟨_, J', _⟩ := J'.look
  have hu : X.A.units + 1 < cLine := hu_of hr
  refine ne_own hu I.kIn J J' hm hn hs hf ?_
  have vals : Vals [V.ref a, V.ref b] [Value.ref a, Value.ref b] := .cons rfl (.cons rfl .nil)
  have e0 : Env0 X.prog X.w X.K X.mg X.base X.A.in1 X.stack s H := I.env0.in1
  have hl := F.len _ _ _ _ hsp
  refine wpAny_call (codeAny_mono (F.run X.A.in1 X.stack s H ⟨[.ref a, .ref b], []⟩ [.ref a, .ref b] [.ref a, .ref b] _ E hr.in1 e0 (by
    have bd := hb s [.ref a, .ref b] I.kIn (by simpa using hl)
    simpa using bd) vals hsp) fun r s' hq => ?_)
  cases r with
  | error e => exact hx pins σ H s e s' I hq
  | ok fl =>
    cases fl with
    | ret w =>
      obtain ⟨z, H', I', rz, c, ez, qz⟩ := I.after hq
      subst ez
      cases rz
      exact ⟨c, rfl, .bl (!c), H', I', rfl, qz⟩
    | next => exact False.elim hq
    | brk => exact False.elim hq
    | cont => exact False.elim hq
/-- == of an instance with an own __eq__ and a dict -/
theorem op_eqDict {CX : CXT} {k : Nat} {C f : Addr} {fd : FuncData} {ps : List Str} {sp : Sp} {E : XK} (F : FnOk X.prog X.w X.K X.mg X.base CX k f fd ps sp) (hr : Room k X.A)
    (hs : PySem.W.findIn X.K (.ref C) "__eq__" = some (some (.ref f))) (hf : PySem.W.isFn X.K (.ref f) = true) (hnf : PySem.W.notFirst X.K C (.type "dict") = true) (hb : Binds X.K fd ps []) (hx : Passes CX X E) :
    OpR X (compareOp .Eq) (fun x y H Q => ∃ a d dx fs kvs, x = .ref a ∧ y = .ref d ∧ H a = some (.ins C dx fs) ∧ H d = some (.dK kvs) ∧ sp [x, y] H (fun v H' => ∃ c, v = .bl c ∧ Q (.bl c) H') E) := by
  intro pins s σ H x y v u Q I rx ry h
  obtain ⟨a, b, dx, fs, kvs, rfl, rfl, ha, hb', hsp⟩ := h
  cases rx
  cases ry
  show wpAny (model X.prog X.w) X.A (richCompare .Eq (.ref a) (.ref b)) (EP X pins σ Q) X.xe s
  obtain ⟨_, J, _⟩ := ins_get I.hok ha
  obtain ⟨_, J, _⟩ := J.look
  obtain ⟨_, _, _, _, ob, es, ep, e, ⟨hcls, _⟩, _⟩ := (show ObjOk X.prog X.w H s.heap b (.dK kvs) from I.hok b _ hb')
  have hty : PySem.W.Looks (model X.prog X.w) s.heap (typeOf (.ref b)) (.type "dict") := hcls ▸ (PySem.W.Looks.ld e).andThen .now
  obtain ⟨m, hF⟩ := I.fr
  refine PySem.W.cmp_K (op := .Eq) (tb := .type "dict") hr.units0 hF I.ok.mod.kin J hty hnf hs hf ?_
  have vals : Vals [V.ref a, V.ref b] [Value.ref a, Value.ref b] := .cons rfl (.cons rfl .nil)
  have e0 : Env0 X.prog X.w X.K X.mg X.base X.A X.stack s H := I.env0
  have hl := F.len _ _ _ _ hsp
  refine wpAny_call (codeAny_mono (F.run X.A X.stack s H ⟨[.ref a, .ref b], []⟩ [.ref a, .ref b] [.ref a, .ref b] _ E hr e0 (by
    have bd := hb s [.ref a, .ref b] I.kIn (by simpa using hl)
    simpa using bd) vals hsp) fun r s' hq => ?_)
  cases r with
  | error e => exact hx pins σ H s e s' I hq
  | ok fl =>
    cases fl with
    | ret w =>
      obtain ⟨z, H', I', rz, c, ez, qz⟩ := I.after hq
      subst ez
      cases rz
      exact ⟨.bl c, H', I', rfl, qz⟩
    | next => exact False.elim hq
    | brk => exact False.elim hq
    | cont => exact False.elim hq
def tMethKK (C : Addr) (m : Str) (sp : Sp) (gV : List V → List V → List V) (E : XK) (ta : TE) (tk : TA) : TE := fun σ H Q => ta σ H fun x H1 => ∃ a dx fs, x = .ref a ∧ H1 a = some (.ins C dx fs) ∧ fs.lookup m = none ∧ tk σ H1 fun zs H2 => sp (gV [x] zs) H2 Q E
/-- o.m(a=.., b=..) -/
theorem pe_methKK {CX : CXT} {k : Nat} {f C : Addr} {fd : FuncData} {ps ks : List Str} {sp : Sp} {E : XK} {m : Str} {pos apos : Pos} {o : Expr} {kws : List Keyword} {ta : TE} {tk : TA} {g : List Value → List Value → List Value} {gV : List V → List V → List V} {pl : Sem Bool} (he : PE X o ta) (c : Cls X.K C) (hm : Meth X.K C m f) (F : FnOk X.prog X.w X.K X.mg X.base CX k f fd ps sp) (hr : Room k X.A) (hb : KBinds X.K fd ps ks g gV) (hx : Passes CX X E)
    (hkw : PK X kws tk) (hall : (backToKw pos (keywordEach kws X.env)).all (·.1.isSome) = true := by rfl) (hks : (backToKw pos (keywordEach kws X.env)).filterMap (·.1) = ks := by rfl)
    (hpl : ((backTo pos (starEach [] X.env)).any (·.1) || (backToKw pos (keywordEach kws X.env)).any (·.1.isNone)) = false := by rfl)
    (ht : eval (.Call (.Attribute o m apos) [] kws pos) X.env = (do
      let ov ← eval o X.env
      standAt apos.atName
      let (f, first) ← holding [ov] (getMethod ov m pl)
      callWith pos f first (backTo pos (starEach [] X.env)) (backToKw pos (keywordEach kws X.env))) := by rfl) :
    PE X (.Call (.Attribute o m apos) [] kws pos) (tMethKK C m sp gV E ta tk) := by
  refine ⟨fun pins s σ H Q I h => ?_⟩
  refine PySem.W.methodCall_KW (pl := pl) (thn (he.run pins s σ H _ I h) fun u s1 ⟨x, H1, I1, rx, a, dx, fs, ex, ea, l, q⟩ => ?_) ht
  subst ex
  obtain rfl : u = Value.ref a := rx
  refine getmeth_ok I1 ea c hm l ?_
  refine PySem.W.callWith_KW0 (first := [.ref a]) (h₀ := X.base) I.ok.mod.kin hm.kp hall (thn (hkw.run pos pins s1 σ H1 _ I1 q) fun ws s2 ⟨zs, H2, I2, rz, q2⟩ => ⟨I2.kIn, ?_⟩) hpl
  rw [hks]
  exact run_fnk (us := [.ref a]) (vs := [.ref a]) F hr hb hx I2 (.cons rfl .nil) rz q2
end
end My
namespace My
open PySem L2 PyProof.Rows
theorem bl_is1 {x : Bool} {Q : VK} {H : Hp} (h : x = true) (q : Q (.bl true) H) : Q (.bl x) H := by
  rw [h]
  exact q
/-! ### a list that nobody asks for any more is forgotten -/
section
variable {X : Cx} {pins : List (Addr × Obj)} {σ : L2.St} {H1 H2 : Hp} {s : Shared} {D : Addr} {xs : List V}
theorem inv_drop (I : Inv X pins σ H1 s) (e : H1 = upd H2 D (.lst xs)) (n : H2 D = none) : Inv X pins σ H2 s := by
  subst e
  have off : ∀ b, upd H2 D (.lst xs) b = none → H2 b = none := fun b h => by
    by_cases hb : b = D
    · rw [hb]; exact n
    · rw [upd_ne hb] at h; exact h
  have back : ∀ b o, o ≠ HO.lst xs → upd H2 D (.lst xs) b = some o → H2 b = some o := fun b o ho h => by
    by_cases hb : b = D
    · subst hb
      rw [upd_same] at h
      exact absurd (Option.some.inj h).symm ho
    · rw [upd_ne hb] at h; exact h
  refine ⟨I.ok, I.os, I.bare, ?_, I.loc, I.cell, off _ I.free, fun x c h => off _ (I.freeC x c h), fun p hp => ?_, ?_, I.len⟩
  · have u := I.base
    refine ⟨u.keep, u.slot, fun b o h1 h2 h3 => off _ (u.free b o h1 h2 h3), u.there, fun b ys h => back _ _ (by intro z; cases z) (u.tups b ys h), fun b o v h => back _ _ (by intro z; cases z) (u.frzs b o v h), fun b ps h => ?_⟩
    obtain ⟨more, h⟩ := u.tbls b ps h
    exact ⟨more, back _ _ (by intro z; cases z) h⟩
  · obtain ⟨a, b, c⟩ := I.pin p hp
    exact ⟨a, off _ b, c⟩
  · intro a o h
    have ha : a ≠ D := fun z => by rw [z, n] at h; cases h
    refine (I.hok a o (by rw [upd_ne ha]; exact h)).stay (fun _ _ _ z => z) (fun b h => back _ _ (by intro z; cases z) h) (fun b ys h => back _ _ (by intro z; cases z) h)
theorem pe_drop {e : Expr} {te : TE} (he : PE X e te) : PE X e (fun σ H Q => te σ H fun v H1 => ∃ D xs H2, H1 = upd H2 D (.lst xs) ∧ H2 D = none ∧ Q v H2) := by
  refine ⟨fun pins s σ H Q I h => ?_⟩
  exact wpAny_mono (he.run pins s σ H _ I h) (fun u s1 ⟨v, H1, I1, r, D, xs, H2, e, n, q⟩ => ⟨v, H2, inv_drop I1 e n, r, q⟩) fun _ _ h => h
theorem ix_seqK {K : PySem.W.Frag} (h : X.K = K) : IxR X (rIx K) := h ▸ ix_seq
end
end My
/-! list(range(n)) -/
namespace My
open PySem PySem.Spec PyProof.Rows L2
section
variable {X : Cx}
theorem cr_range1 : CallR X (.type "range") (fun vs H Q => ∃ j, vs = [V.int j] ∧ ∀ p, H p = none → Q (.ref p) (upd H p (.rng 0 j))) := by
  intro pins s σ H vs us Q I r h
  obtain ⟨j, rfl, q⟩ := h
  obtain ⟨u1, rfl, ri⟩ := vals1 r
  obtain ⟨t, rfl⟩ := ri
  refine call_range_1 ⟨.ref s.heap.objs.size, upd H s.heap.objs.size (.rng 0 j), I.laid (t' := s.toks + 1 + 1) (fun b o e => Heap.get?_push_of_some _ e) (Nat.le_refl _) ?_, rfl, q _ (I.hok.fresh (Nat.le_refl _))⟩
  exact ⟨s.toks, t, s.toks + 1, Heap.get?_push_size _ rfl⟩
theorem call_listRng (hc : X.calm = true) : CallR X (.type "list") (fun xs H Q => ∃ (p : Addr) (n : Nat), xs = [.ref p] ∧ H p = some (.rng 0 (n : Int)) ∧ n ≤ 1000 ∧ ∀ q, H q = none → Q (.ref q) (upd H q (.lst ((List.range n).map fun i : Nat => V.int (i : Int))))) := by
  intro pins s σ H xs us Q I r h
  obtain ⟨p, n, e, hk, hn, q⟩ := h
  subst e
  obtain ⟨u, eu, rx⟩ := vals1 r
  subst eu
  obtain rfl : u = Value.ref p := rx
  obtain ⟨t1, t2, t3, ho⟩ := (show ObjOk X.prog X.w H s.heap p (.rng 0 (n : Int)) from I.hok p _ hk)
  refine call_list_range (n := n) (I.ok.hd hc) ho (small_one (by omega) (by omega) (by omega) (by omega)) (by rw [rangeSize_one]; split <;> omega) (by omega) fun h' tk items cap hkeep hS hacc => ?_
  refine ⟨.ref s.heap.objs.size, upd H s.heap.objs.size (.lst ((List.range n).map fun i : Nat => V.int (i : Int))), I.laid hkeep (Nat.le_refl _) (show ObjOk X.prog X.w _ _ _ (.lst ((List.range n).map fun i : Nat => V.int (i : Int))) from ⟨?_, items.toList, cap, ?_, ?_⟩), rfl, q _ (I.hok.fresh (Nat.le_refl _))⟩
  · rw [List.length_map, List.length_range]; exact Nat.le_trans hn (by decide)
  · have el : items.toList.length = n := by rw [Array.length_toList]; exact hacc.1
    refine vals_of_at (by rw [List.length_map, List.length_range, el]) fun j x z h1 h2 => ?_
    obtain ⟨t, e⟩ := hacc.2 j z (by rw [← Array.getElem?_toList]; exact h2)
    have hj : j < n := by rw [← el]; exact (List.getElem?_eq_some_iff.mp h2).1
    rw [List.getElem?_map, List.getElem?_range hj] at h1
    cases h1
    exact ⟨t, by rw [e]; simp⟩
  · rw [Array.toArray_toList]; exact hS
end
end My
namespace My
open PySem L2 PyProof.Rows
/-! ### contracts of defs that are called where nothing is being shown -/
structure FnG (P : Program) (w : World) (K : PySem.W.Frag) (mg : Str → Option Value) (base : Heap) (k : Nat) (f : Addr) (fd : FuncData) (ps : List Str) (sp : Sp) : Prop where
  len : ∀ vs H Q E, sp vs H Q E → vs.length = ps.length
  run : ∀ (A : Around) (outer : List Env) (s : Shared) (H : Hp) (args : Args) (us : List Value) (vs : List V) (Q : VK) (E : XK), Room k A → A.guards = some [] → Env0 P w K mg base A outer s H → BindsTo s fd args (ps.zip us) → Vals vs us → sp vs H Q E →
    codeAny (model P w) A (.call (.ref f) args) (CR CX0 outer P w H s Q E) s
section
variable {P : Program} {w : World} {K : PySem.W.Frag} {mg : Str → Option Value} {base : Heap}
theorem FnG.ofOk {k : Nat} {f : Addr} {fd : FuncData} {ps : List Str} {sp : Sp} (F : FnOk P w K mg base CX0 k f fd ps sp) : FnG P w K mg base k f fd ps sp :=
  ⟨F.len, fun A outer s H args us vs Q E hr _ he hb hv hs => F.run A outer s H args us vs Q E hr he hb hv hs⟩
theorem FnG.ofBody {x qual : Str} {st : Stmt} {f : Addr} {fd : FuncData} {N ps : List Str} {k : Nat} {sp : Sp} (F : Fun K x qual st f fd) (S : FnScope N ps (defScope st)) (len : ∀ vs H Q E, sp vs H Q E → vs.length = ps.length)
    (body : ∀ (cdv : Value) (A : Around) (outer : List Env) (s : Shared) (H : Hp) (vs : List V) (Q : VK) (E : XK), Room k (A.deeper (envOfC qual (defScope st) s.heap.objs.size f cdv)) → A.guards = some [] → sp vs H Q E →
      ∃ t, PSs (cxOf CX0 P w K mg base N qual (defScope st) f cdv A outer s H E).nox (defBody st) t ∧ t { nx := fun _ H' => Q .non H', rt := Q } (start N vs) H) : FnG P w K mg base (k + 1) f fd ps sp := by
  obtain ⟨oc, od, kV, doc, pm, an, cdv, ct, osl, rfl, lk, hcd⟩ := F.ex
  constructor
  · exact len
  intro A outer s H args us vs Q E room quiet env bound rel want
  have many := len _ _ _ _ want
  have inK : K.In s.heap := env.mod.kin.keeps (fun b o e => (env.bs b o e).1)
  have unlimited : s.heap.NoLimit := env.mod.nolimit.keeps (fun b o e => (env.bs b o e).1)
  have kinds : ∀ y ∈ ps.zip us, (defScope st).names.lookup y.1 = some .local ∨ ((defScope st).names.lookup y.1 = some .cell ∧ ((cellsFrom (s.heap.objs.size + 1) (defScope st).names []).lookup y.1).isSome = true) := by
    rintro ⟨n, v⟩ hy
    exact (S.par n (List.of_mem_zip hy).1).imp id (fun q => ⟨q, PySem.W.cellsFrom_some _ _ _ (.inl q)⟩)
  refine codeAny_call_function room.depth (inK _ _ lk) rfl S.co S.gen rfl (PySem.W.codeRec_of inK hcd) (bound _ _ _ _ (wpAny_newFunctionEnv_cells S.kind kinds ?_))
  rintro env' rfl s1 x
  obtain ⟨t, ht, hq⟩ := body cdv A outer s H vs Q E (room.deeper _) quiet want
  have I := inv_start (CX := CX0) (E := E) S room.hd env many rel x
  refine ⟨unlimited.keeps x.toInCall.keep, codeAny_func (wpAny_mono (ht.nox.run [] s1 (start N vs) H _ I hq) ?_ (fun _ _ h => h))⟩
  intro fl s' hs
  cases fl with
  | ret u =>
    obtain ⟨v, σ', H', J, rv, q⟩ := hs
    exact ⟨v, H', J.os, J.bare, J.base, J.hok, rv, q⟩
  | next =>
    obtain ⟨σ', H', J, q⟩ := hs
    exact ⟨V.non, H', J.os, J.bare, J.base, J.hok, (rfl : RelV V.non Value.none), q⟩
  | brk => exact hs.elim fun _ h => h.elim fun _ h => h.2.elim
  | cont => exact hs.elim fun _ h => h.elim fun _ h => h.2.elim
end
section
variable {X : Cx} {k : Nat} {f : Addr} {fd : FuncData} {ps ks : List Str} {sp : Sp} {ds : List Value} {x : Str} {p pos : Pos} {e : Expr} {es : List Expr} {kws : List Keyword} {t tk : TA} {g : List Value → List Value → List Value} {gV : List V → List V → List V}
theorem run_fnG {pins : List (Addr × Obj)} {σ : L2.St} {H : Hp} {s : Shared} {Q : VK} {us ws : List Value} {vs zs : List V} (F : FnG X.prog X.w X.K X.mg X.base k f fd ps sp) (hr : Room k X.A) (quiet : X.A.guards = some []) (hb : KBinds X.K fd ps ks g gV)
    (I : Inv X pins σ H s) (r : Vals vs us) (rz : Vals zs ws) (h : sp (gV vs zs) H Q E0) : wpAny (model X.prog X.w) X.A (call (.ref f) us (ks.zip ws)) (EP X pins σ Q) X.xe s := by
  have r2 := hb.rel r rz
  have many : (g us ws).length = ps.length := r2.length.symm.trans (F.len _ _ _ _ h)
  refine wpAny_call (codeAny_mono (F.run X.A X.stack s H _ _ _ Q E0 hr quiet I.env0 (hb.to s us ws I.kIn many) r2 h) ?_)
  rintro (e | fl) s' hq
  · exact False.elim hq
  cases fl with
  | ret u => exact I.after hq
  | next | brk | cont => exact hq.elim
/-- arguments by place alone -/
theorem KBinds.none {K : PySem.W.Frag} {fd : FuncData} {ps : List Str} (b : Binds K fd ps []) : KBinds K fd ps [] (fun us _ => us) (fun vs _ => vs) := by
  refine ⟨fun s us ws X hl => ?_, fun r _ => r⟩
  have := b s us X (by rw [List.append_nil]; exact hl)
  rw [List.append_nil] at this
  exact this
theorem pe_callG (F : FnG X.prog X.w X.K X.mg X.base k f fd ps sp) (hr : Room k X.A) (quiet : X.A.guards = some []) (hg : Gl X x) (hm : X.mg x = some (.ref f)) (hk : PySem.W.keepIn X.K (.ref f) = true) (hb : Binds X.K fd ps [])
    (ha : PA X (e :: es) t) (hdb : (x == ("__debug__" : Str)) = false := by decide) (he : starEach (e :: es) X.env = (false, eval e X.env) :: starEach es X.env := by rfl) (hpl : (backTo pos (starEach es X.env)).any (·.1) = false := by rfl) :
    PE X (.Call (.Name x p) (e :: es) [] pos) (tCall sp [] E0 t) := by
  constructor
  intro pins s σ H Q I h
  refine wpAny_Call_Name_kw (ld_glob I hg hm (PySem.W.callWith_K (h₀ := X.base) I.ok.mod.kin hk (thn (ha.run pos pins s σ H _ I h) ?_) he hpl) hdb)
  rintro us s1 ⟨vs, H1, I1, r, q⟩
  refine ⟨I1.kIn, ?_⟩
  have q' : sp vs H1 Q E0 := by
    have q2 : sp (vs ++ []) H1 Q E0 := q
    rwa [List.append_nil] at q2
  exact run_fnG (ws := []) (zs := []) F hr quiet (KBinds.none hb) I1 r .nil q'
end
/-! ### a law whose promise is kept where nothing is being shown -/
theorem quiet_caller : callerA.guards = some [] := rfl
/-- from an abstract heap in which at most the script is told -/
theorem law_from {P : Program} {w : World} {K : PySem.W.Frag} {mg mb : Str → Option Value} {k : Nat} {fa a : Addr} {fd : FuncData} {x : Str} {sp : Sp} {s₁ : Shared} {vs : List Value} {H : Hp}
    (inK : K.In s₁.heap) (main : s₁.heap.Ns mainGlobals mg) (bui : s₁.heap.Ns builtinsNs mb) (same : ∀ x : Str, x ≠ "__name__" → mb x = bootBuiltins x) (lim : s₁.heap.NoLimit) (gens : s₁.gens = #[])
    (at_a : s₁.heap.get? a = some { cls := .type "list", data := .seq vs.toArray }) (room : Room k callerA)
    (F : ∀ base : Heap, K.In base → base.Ns mainGlobals mg → FnG P w K mg base k fa fd [x] sp) (bound : ∀ (s : Shared) (u : Value), BindsTo s fd ⟨[u], []⟩ [(x, u)])
    (only : Only H) (hok : HOk P w H s₁.heap) (isA : ∀ b, H b ≠ none → b = a) (notK : H a ≠ none → K.lookup a = none) (want : sp [.ref a] H (fun v _ => v = .bl true) fun _ _ _ => False) :
    codeAny (model P w) callerA (.call (.ref fa) ⟨[.ref a], []⟩) (fun r s' => r = .ok (.ret (.bool true)) ∧ OldK s₁.heap s'.heap ∧ s'.os = s₁.os ∧ AllBare s'.gens) s₁ := by
  have free : ∀ b, b ≠ a → H b = none := by
    intro b hb
    cases q : H b with
    | none => rfl
    | some u => exact absurd (isA b (fun z => by rw [z] at q; cases q)) hb
  have shown : ∀ {b : Addr} {o : Obj}, s₁.heap.get? b = some o → H b = none → (hidT s₁.heap H).get? b = some o := fun e n => hidT_get e n
  have names : ∀ {b : Addr} {m : Str → Option Value}, s₁.heap.Ns b m → (hidT s₁.heap H).Ns b m := by
    rintro b m ⟨o, es, ep, e, d, r⟩
    refine ⟨o, es, ep, shown e (free b ?_), d, r⟩
    rintro rfl
    rw [at_a] at e
    cases e
    exact nomatch d
  have inHid : K.In (hidT s₁.heap H) := by
    intro b o e
    refine shown (inK b o e) ?_
    cases q : H b with
    | none => rfl
    | some u =>
      have ne : H b ≠ none := fun z => by rw [z] at q; cases q
      have eb := isA b ne
      subst eb
      rw [notK ne] at e
      cases e
  obtain ⟨mc, l1, l2⟩ := lim
  have env : Env0 P w K mg (hidT s₁.heap H) callerA [] s₁ H := {
    frames := rfl
    mod := ⟨inHid, names main, ⟨mb, names bui, same⟩, ⟨mc, names l1, l2⟩⟩
    bs := fun _ _ e => of_hidT e
    bsz := Nat.le_of_eq (hidT_size _ _)
    funs := trivial
    frf := fun b hb => nomatch (show b ∈ ([] : List Addr) from hb)
    hok := hok
    bare := .of_eq gens }
  refine codeAny_mono ((F _ inHid (names main)).run callerA [] s₁ H ⟨[.ref a], []⟩ [.ref a] [.ref a] _ _ room quiet_caller env (bound s₁ (.ref a)) (.cons rfl .nil) want) ?_
  rintro (e | fl) s' h
  · exact False.elim h
  cases fl with
  | next | brk | cont => exact False.elim h
  | ret u =>
    obtain ⟨v, H', os, bare, un, hok', rel, q⟩ := h
    cases (show v = .bl true from q)
    cases (show u = Value.bool true from rel)
    refine ⟨rfl, .of_keep ?_, os, bare⟩
    intro b o e
    rcases only b with z | ⟨ob, xs, z⟩
    · exact un.keep b o e z (fun m => nomatch (show b ∈ ([] : List Addr) from m)) (fun m => nomatch m)
    · have z2 := un.frzs b ob _ z
      have e1 := (hok b _ z).1
      rw [e] at e1
      cases e1
      exact (hok' b _ z2).1
theorem law_callG {P : Program} {w : World} {K : PySem.W.Frag} {mg mb : Str → Option Value} {k : Nat} {fa a : Addr} {fd : FuncData} {x : Str} {sp : Sp} {s₁ : Shared} {vs : List Value} {ns : List Int}
    (inK : K.In s₁.heap) (main : s₁.heap.Ns mainGlobals mg) (bui : s₁.heap.Ns builtinsNs mb) (same : ∀ x : Str, x ≠ "__name__" → mb x = bootBuiltins x) (lim : s₁.heap.NoLimit) (gens : s₁.gens = #[])
    (at_a : s₁.heap.get? a = some { cls := .type "list", data := .seq vs.toArray }) (hints : IntsAre vs ns) (short : ns.length ≤ sizeLine) (room : Room k callerA)
    (F : ∀ base : Heap, K.In base → base.Ns mainGlobals mg → FnG P w K mg base k fa fd [x] sp) (bound : ∀ (s : Shared) (u : Value), BindsTo s fd ⟨[u], []⟩ [(x, u)])
    (want : ∀ H : Hp, Only H → SqL K H a (ns.map V.int) → sp [.ref a] H (fun v _ => v = .bl true) fun _ _ _ => False) :
    codeAny (model P w) callerA (.call (.ref fa) ⟨[.ref a], []⟩) (fun r s' => r = .ok (.ret (.bool true)) ∧ OldK s₁.heap s'.heap ∧ s'.os = s₁.os ∧ AllBare s'.gens) s₁ := by
  have rel := vals_ints hints
  have many := hints.length
  have go := fun (H : Hp) (o : Only H) hok isA notK w => law_from (mb := mb) inK main bui same lim gens at_a room F bound (H := H) o hok isA notK w
  cases hk : K.lookup a with
  | some o =>
    have e := inK a o hk
    rw [at_a] at e
    cases e
    have nobody : Only (fun _ => none) := fun _ => .inl rfl
    refine go _ nobody (fun b u z => nomatch (show (none : Option HO) = some u from z)) (fun b z => absurd rfl z) (fun z => absurd rfl z) (want _ nobody (.inr ⟨_, vs.toArray, _, hk, rfl, rfl, rfl, ?_, ?_⟩))
    · rw [List.size_toArray, many]
      exact short
    · simpa using rel
  | none =>
    have key : ∃ H : Hp, H = fun b => if b = a then some (.frz { cls := .type "list", data := .seq vs.toArray } (.lst (ns.map V.int))) else none := ⟨_, rfl⟩
    obtain ⟨H, eH⟩ := key
    have there : H a = some (.frz { cls := .type "list", data := .seq vs.toArray } (.lst (ns.map V.int))) := by rw [eH]; exact if_pos rfl
    have else_ : ∀ b, b ≠ a → H b = none := fun b hb => by rw [eH]; exact if_neg hb
    have only : Only H := fun b => by
      by_cases hb : b = a
      · rw [hb]; exact .inr ⟨_, _, there⟩
      · exact .inl (else_ b hb)
    refine go H only (fun b u z => ?_) (fun b z => ?_) (fun _ => hk) (want H only (.inl (.inr ⟨_, there⟩)))
    · by_cases hb : b = a
      · subst hb
        rw [there] at z
        cases z
        exact ⟨at_a, by rw [List.length_map]; exact short, vs, _, rel, at_a⟩
      · rw [else_ b hb] at z
        cases z
    · by_cases hb : b = a
      · exact hb
      · exact absurd (else_ b hb) z
theorem walk_ofG {l : PySem.W.OpenLaw} {n k : Nat} {q : Program} {loose : List Str} {XP : (Str → Option Value) → Heap → Prop} {YP : World → Heap → Prop} {d : DefRec} {K : Params → PySem.W.Frag} {sp : World → Sp} {x : Str}
    (hn : l.most = some n) (hn2 : n ≤ sizeLine) (hdf : d.params.defaults = []) (room : Room k callerA) (hY : ∀ (w : World) (h : Heap), YP w h → (K w.params).In h)
    (F : ∀ (w : World) (mg : Str → Option Value) (fa : Addr) (h : Heap), (K w.params).In h → h.Ns mainGlobals mg → mg d.name = some (.ref fa) →
      ∃ fd : FuncData, (∀ (s : Shared) (u : Value), BindsTo s fd ⟨[u], []⟩ [(x, u)]) ∧ ∀ base : Heap, (K w.params).In base → base.Ns mainGlobals mg → FnG l.prog w (K w.params) mg base k fa fd [x] (sp w))
    (want : ∀ (w : World) (H : Hp) (a : Addr) (ns : List Int), ns.length ≤ n → Only H → SqL (K w.params) H a (ns.map V.int) → sp w [.ref a] H (fun v _ => v = .bl true) fun _ _ _ => False) :
    PySem.W.WalkO q loose XP YP l.row.toRowW d [] (fun f vs => PySem.call f vs) := by
  apply Att.attach_call hn hdf
  intro w s₀ s₁ mg mb fa o pm cd doc a vs ns G Y ho hd hcd hmg hobj hints hlen hg
  have inK := hY w _ Y
  obtain ⟨fd, bound, hF⟩ := F w mg fa _ inK G.T.g hmg
  exact law_callG inK G.T.g G.T.b G.T.builtins G.T.nolimit hg hobj hints (Nat.le_trans hlen hn2) room hF bound (fun H hO hS => want w H a ns hlen hO hS)
/-! ### repr of a list -/
section
variable {X : Cx}
theorem call_repr_data (quiet : X.A.guards = some []) (hu : X.A.units + 70 < cLine) : CallR X (.builtin "repr") (fun xs H Q => ∃ a d, xs = [.ref a] ∧ Dp X.K H (.ref a) d ∧ d.showable = true ∧ d.hasDict = false ∧ d.depth ≤ 60 ∧ d.shown.length ≤ sizeLine ∧ Q (.str d.shown) H) := by
  intro pins s σ H xs us Q I r h
  obtain ⟨a, d, rfl, hd, hs, hnd, hdp, hz, q⟩ := h
  obtain ⟨u, rfl, e⟩ := vals1 r
  cases e
  obtain ⟨as, rd⟩ := Dp.reads I d _ _ hd (rfl : RelV (.ref a) (.ref a))
  exact repr_of_reads' rd hs (PyData.noDict_hsm hnd) quiet (by omega) (fun _ _ e => e) (fun h' u tk hk => ⟨.str _, H, I.kept hk, ⟨_, rfl⟩, q⟩) hz
end
end My
namespace My
open PySem L2 PyProof.Rows
/-! ### the rules within a comprehension -/
section
variable {X : Cx} {K : PySem.W.Frag}
theorem ix_listK (h : X.K = K) : IxR X (rIxL K) := h ▸ ix_list
theorem ix_tupK (h : X.K = K) : IxR X (rIxT K) := h ▸ ix_tup
theorem pi_listK {tg l : Expr} {tl : TE} (h : X.K = K) (hl : PE X l tl) : PI X tg l (iList K tl) := h ▸ pi_list hl
theorem call_len_seqK (h : X.K = K) : CallR X (.builtin "len") (fun xs H Q => ∃ p ys, xs = [V.ref p] ∧ (SqL K H p ys ∨ SqT K H p ys) ∧ Q (.int (ys.length : Int)) H) := h ▸ call_len_seq
theorem op_in_seqK (h : X.K = K) : OpR X (compareOp .In) (rIn K false) := h ▸ op_in_seq
theorem op_notIn_seqK (h : X.K = K) : OpR X (compareOp .NotIn) (rIn K true) := h ▸ op_notIn_seq
end
theorem mt_indexK {X : Cx} {K : PySem.W.Frag} (h : X.K = K) : MtR X "list.index" (rIndex K) := h ▸ mt_index
theorem pe_bmK {X : Cx} {K : PySem.W.Frag} {o e : Expr} {es : List Expr} {to : TE} {t : TA} {name : Str} {apos cpos : Pos} {T id : String} {r : V → List V → Hp → VK → Prop} (h : X.K = K) (pa : PlainAttrs T) (slot : Slot T name id) (hty : typeOf (.builtin id) = pure (.type "method_descriptor")) (hm : MtR X id r) (ho : PE X o to) (ha : PA X (e :: es) t)
    (hbase : attributeBase o name X.env (eval o X.env) = eval o X.env := by rfl)
    (hfew : ((backTo cpos (starEach (e :: es) X.env)).all (fun x => !x.1) && (backToKw cpos (keywordEach [] X.env)).all (fun x => x.1.isSome)
      && decide ((e :: es).length + ([] : List Keyword).length + (if ([] : List Keyword).isEmpty then 0 else 1) < 30)) = true := by rfl)
    (hline : (apos.endLine == cpos.line) = true := by rfl) (hs : starEach (e :: es) X.env = (false, eval e X.env) :: starEach es X.env := by rfl) (hplain : (backTo cpos (starEach es X.env)).any (·.1) = false := by rfl) :
    PE X (.Call (.Attribute o name apos) (e :: es) [] cpos) (tBM K T r to t) := h ▸ pe_bm pa slot hty hm ho ha hbase hfew hline hs hplain
/-- a field, read within a comprehension -/
theorem pe_fldK {X : Cx} {K : PySem.W.Frag} {e : Expr} {ta : TE} {f : Str} {pos : Pos} (h : X.K = K) (he : PE X e ta) (hb : attributeBase e f X.env (eval e X.env) = eval e X.env := by rfl) : PE X (.Attribute e f pos) (tFld K ta f) := h ▸ pe_fld he hb
theorem pe_fldA {X : Cx} {e : Expr} {ta : TE} {f : Str} {pos : Pos} (he : PE X e ta) (hb : attributeBase e f X.env (eval e X.env) = eval e X.env := by rfl) : PE X (.Attribute e f pos) (tFld X.K ta f) := pe_fld he hb
/-! ### defs that may show a value (repr) -/
theorem hu70 {k : Nat} {A : Around} (h : Room k A) : A.units + 70 < cLine := by
  have := h.un
  omega
theorem u65 {k : Nat} {A : Around} (h : Room k A) : A.units + 65 < cLine := by
  have := h.un
  omega
section
variable {P : Program} {w : World} {K : PySem.W.Frag} {mg : Str → Option Value} {base : Heap}
def GoodG (P : Program) (w : World) (K : PySem.W.Frag) (mg : Str → Option Value) (base : Heap) (x : Str) (st : Stmt) (ps : List Str) (k : Nat) (sp : Sp) : Prop := ∃ (f : Addr) (fd : FuncData), FnG P w K mg base k f fd ps sp ∧ mg x = some (.ref f) ∧ PySem.W.keepIn K (.ref f) = true ∧ Binds K fd ps [] ∧ Fun K x x st f fd
theorem Def.goodG {x : Str} {st : Stmt} {ps : List Str} {k : Nat} {sp : Sp} (D : Def K mg x st ps) (h : ∀ f fd, Fun K x x st f fd → FnG P w K mg base k f fd ps sp) : GoodG P w K mg base x st ps k sp := by
  obtain ⟨f, fd, F, m, b⟩ := D
  exact ⟨f, fd, h f fd F, m, F.kp, b, F⟩
end
end My
/-! enumerate(t), t a tuple -/
namespace My
open PySem PySem.Spec PyProof.Rows L2
open AutoSeq1 (wpAny_loadPart')
theorem enum_new_tup (q : Addr) (ys : Array Value) (m : Nat) (dc : Option Addr) (sl : Array (Option Value)) :
    Meets (Builtin.«enumerate.__new__» ⟨[.type "enumerate", .ref q], []⟩) (fun _ R s => s.heap.get? q = some { cls := .type "tuple", dict := dc, data := .seq ys m, slots := sl } ∧
      R (.ok (.ret (.ref (s.heap.push { cls := .type "tuple_iterator", data := .fields #[.ref q, .int 0 0] }).objs.size)))
        { s with heap := (s.heap.push { cls := .type "tuple_iterator", data := .fields #[.ref q, .int 0 0] }).push { cls := .type "enumerate", data := .fields #[.none, .bool false, .ref s.heap.objs.size, rawInt 0, .none, .none] } }) :=
  .of_wp fun prog w A R s k => by
    obtain ⟨hh, g, dr, tk, os⟩ := s
    obtain ⟨kq, k⟩ := k
    have hsub := sub_enumerate
    have hT : Heap.IsTuple (Shared.heap ⟨hh, g, dr, tk, os⟩) q ys := ⟨_, kq, rfl, m, rfl⟩
    wp_walk using wpAny_loadPart' kq
    refine wpAny_stack_any fun _ => wpAny_pure ?_
    split
    · rename_i c _ _ _ _ _
      cases (c == Value.type "enumerate") <;>
        (wp_walk using wpAny_loadPart' kq, wpAny_pyIter_tuple hT
         exact ⟨_, rfl, k⟩)
    · wp_walk using wpAny_loadPart' kq, wpAny_pyIter_tuple hT
      exact ⟨_, rfl, k⟩
section
variable {prog : Program} {w : World} {A : Around} {E : Value → Shared → Prop} {s : Shared}
theorem call_enum_tup {q : Addr} {ys : Array Value} {Q : Value → Shared → Prop} (hT : s.heap.IsTuple q ys)
    (k : ∀ h', IsEnum h' (s.heap.objs.size + 1) s.heap.objs.size 0 .none → h'.IsTupleIter s.heap.objs.size q 0 → h'.objs.size = s.heap.objs.size + 2 →
      (∀ b o, s.heap.get? b = some o → h'.get? b = some o) → Q (.ref (s.heap.objs.size + 1)) { s with heap := h' }) :
    wpAny (model prog w) A (call (.type "enumerate") [.ref q]) Q E s := by
  obtain ⟨⟨cl, dc, dt, sl⟩, kq, ec, m, ed⟩ := hT
  cases (show cl = .type "tuple" from ec)
  cases (show dt = .seq ys m from ed)
  refine callType_new F.called_enumerate (by decide) (F.typeCall_enumerate_1 _) (F.newCall_enumerate_1 _) (fun obj => F.args_object_init_2 obj _) F.entry_enumerate_new
    (enum_new_tup q ys m dc sl) ⟨kq, ?_⟩
  have z1 : (s.heap.push { cls := .type "tuple_iterator", data := .fields #[.ref q, .int 0 0] }).objs.size = s.heap.objs.size + 1 := Heap.size_push ..
  show _ ∧ _
  rw [z1]
  have he : IsEnum ((s.heap.push { cls := .type "tuple_iterator", data := .fields #[.ref q, .int 0 0] }).push
      { cls := .type "enumerate", data := .fields #[.none, .bool false, .ref s.heap.objs.size, rawInt 0, .none, .none] }) (s.heap.objs.size + 1) s.heap.objs.size 0 .none := by
    have z2 := Heap.get?_push_size (s.heap.push { cls := .type "tuple_iterator", data := .fields #[.ref q, .int 0 0] })
      (o := { cls := .type "enumerate", data := .fields #[.none, .bool false, .ref s.heap.objs.size, rawInt 0, .none, .none] }) rfl
    rwa [z1] at z2
  exact ⟨⟨_, he, rfl⟩, k _ he ⟨_, Heap.get?_push_of_some _ (Heap.get?_push_size _ rfl), rfl, rfl⟩ (by rw [Heap.size_push, z1]) fun b o x => Heap.get?_push_of_some _ (Heap.get?_push_of_some _ x)⟩
end
/-- the tuple at a, each item in a new pair -/
def Ity (K : PySem.W.Frag) (a : Addr) : It :=
  ⟨fun i H => ∃ (xs : List V) (x : V), SqT K H a xs ∧ xs[i]? = some x, fun i H v H' => ∃ T x, v = .ref T ∧ H T = none ∧ H' = upd H T (.tup [.int (i : Nat), x]) ∧ ∀ xs, SqT K H a xs → xs[i]? = some x, fun i H => ∃ xs : List V, SqT K H a xs ∧ xs.length = i⟩
theorem walk_enumT {K : PySem.W.Frag} {a : Addr} {xs : List V} : Walk (Ity K a) xs.length (fun H => SqT K H a xs) (YPair (fun i => some (.int (i : Nat))) (fun i => xs[i]?)) := by
  refine ⟨fun i _ hi q => ⟨xs, xs[i], q, List.getElem?_eq_getElem hi⟩, fun _ q => ⟨xs, q, rfl⟩, fun i H v H' _ q y => ?_⟩
  obtain ⟨T, x, y1, y2, y3, y4⟩ := y
  exact ⟨T, .int (i : Nat), x, y1, y2, y3, rfl, y4 xs q⟩
theorem turn_enumT {P : Program} {w : World} {K : PySem.W.Frag} {elts : List Expr} {kk : Nat} {tpos : Pos} (a e it : Addr) (nai : a ≠ it) (nea : e ≠ a) :
    Turn P w K (.Tuple elts kk tpos) (Ity K a) [e, it] e (fun i h => (∃ old, IsEnum h e it ((i : Nat) : Int) old) ∧ h.IsTupleIter it a i ∧ e ≠ it) where
  mem := by simp
  obj := fun i h st b hb => by
    obtain ⟨⟨old, he⟩, ⟨o, ho, hc, hd⟩, _⟩ := st
    rcases (show b = e ∨ b = it by simpa using hb) with z | z
    · subst z; exact ⟨_, he, fun v q => nomatch q⟩
    · subst z; exact ⟨o, ho, fun v q => by rw [hd] at q; cases q⟩
  keep := fun i h h' st k => let ⟨⟨old, he⟩, hi, hne⟩ := st; ⟨⟨old, k e (by simp) _ he⟩, hi.at fun o q => k it (by simp) o q, hne⟩
  item := by
    intro X hP hw hK hc i pins s σ H E I hf st hg
    subst hP hw hK
    obtain ⟨⟨old, he⟩, hit, hne⟩ := st
    obtain ⟨xs, x, hq, hx⟩ := hg
    obtain ⟨its, rv, p, hz⟩ := I.tuple hq
    obtain ⟨u, hu, ru⟩ := rv.get hx
    have le : e < s.heap.objs.size := Heap.lt_size he
    have li : it < s.heap.objs.size := by obtain ⟨_, q, _⟩ := hit; exact Heap.lt_size q
    have small : i < its.toArray.size := by
      have := (List.getElem?_eq_some_iff.mp hu).1
      simpa using this
    refine wpAny_pyNext_enum_itemD (Draws.tuple (A := X.A.in1) (I.ok.hd hc) it a nai its.toArray) he ⟨hit, (show s.heap.IsTuple a its.toArray from p)⟩ small hne (by simp [hne, nea]) fun x' h' tk hx' ho hst hT hsz hk => ?_
    have ex : x' = u := by
      have : its[i]? = some x' := by simpa using hx'
      rw [hu] at this
      exact (Option.some.inj this).symm
    subst ex
    obtain ⟨hst1, hst2⟩ := hst
    refine ⟨_, rfl, wpAny_letOwnedTupleGo_enum (s := { s with heap := h', toks := tk + 1 }) ho fun h2 he2 sb => ?_⟩
    have gT : h2.get? s.heap.objs.size = some { cls := .type "tuple", data := .seq #[.int i tk, x'] } := (sb.2 _ (Nat.ne_of_gt le)).trans hT
    have okT : ObjOk X.prog X.w (upd H s.heap.objs.size (.tup [.int (i : Nat), x])) h2 s.heap.objs.size (.tup [.int (i : Nat), x]) :=
      ⟨by show 2 ≤ sizeLine; decide, [.int i tk, x'], .cons ⟨_, rfl⟩ (.cons ru .nil), ⟨_, gT, rfl, _, rfl⟩⟩
    have I2 : Inv X pins σ (upd H s.heap.objs.size (.tup [.int (i : Nat), x])) { s with heap := h2, toks := tk + 1 } :=
      I.turnedNew (t' := tk + 1) (ch := [e, it]) (fun b ob hb q => (sb.2 b (fun z => hb (by simp [z]))).trans (hk b ob (fun z => hb (by simp [z])) (fun z => hb (by simp [z])) q)) hf (Nat.le_refl _) okT
    refine ⟨.ref s.heap.objs.size, _, I2, rfl, ⟨_, x, rfl, I.hok.fresh (Nat.le_refl _), rfl, fun ys hy => by rw [I.tuple_inj hy hq]; exact hx⟩, ⟨⟨x', ?_⟩, hst1.at fun o q => (sb.2 it (Ne.symm hne)).trans q, hne⟩, fun b hb => ?_⟩
    · rw [show ((i + 1 : Nat) : Int) = (i : Int) + 1 by omega]
      exact he2
    · have lb : b < s.heap.objs.size := by
        rcases (show b = e ∨ b = it by simpa using hb) with z | z
        · rw [z]; exact le
        · rw [z]; exact li
      rw [upd_ne (Nat.ne_of_lt lb)]
      exact (hf b hb).1
  done := by
    intro X hP hw hK hc i pins s σ H E I hf st hg
    subst hP hw hK
    obtain ⟨⟨old, he⟩, hit, hne⟩ := st
    obtain ⟨xs, hq, hx⟩ := hg
    obtain ⟨its, rv, p, hz⟩ := I.tuple hq
    obtain ⟨f0, f1, f2, f3, f4, f5⟩ := hf it (by simp)
    have hl := rv.length
    have hsz : i = its.toArray.size := by
      rw [List.size_toArray]
      omega
    rw [hsz] at hit
    exact wpAny_pyNext_enum_endD (Draws.tuple (A := X.A.in1) (I.ok.hd hc) it a nai its.toArray) he ⟨hit, (show s.heap.IsTuple a its.toArray from p)⟩ fun h' eb => ⟨rfl, I.turned (t' := s.toks) (fun b o hb e => eb b o hb e) f0 f1 f3 f4 f5⟩
  self := fun A i s Q E st h => let ⟨⟨_, he⟩, _⟩ := st; wpAny_pyIter_enum he h
def iEnumT (K : PySem.W.Frag) (ta : TA) : TI := fun σ H R => ta σ H fun vs H1 => ∃ a xs, vs = [.ref a] ∧ SqT K H1 a xs ∧ R (Ity K a) H1
theorem pi_enumT {X : Cx} {e : Expr} {ta : TA} {p pos tpos : Pos} {elts : List Expr} {kk : Nat} (hg : Gl X "enumerate") (hm : X.mg "enumerate" = none) (ha : PA X [e] ta) (hs : starEach [e] X.env = [(false, eval e X.env)] := by rfl) :
    PI X (.Tuple elts kk tpos) (.Call (.Name "enumerate" p) [e] [] pos) (iEnumT X.K ta) := by
  constructor
  intro pins s σ H R I h
  refine Call_ (ld_blt I hg hm boot_enumerate (PyProof.Rows.callWith_type1 (thn (ha.run pos pins s σ H _ I h) fun us s1 ⟨vs, H1, I1, r1, q1⟩ => ?_) hs rfl))
  obtain ⟨a, xs, rfl, hq, q⟩ := q1
  obtain rfl := Vals.ref1 r1
  obtain ⟨its, rv, p', hz⟩ := I1.tuple hq
  have la : a < s1.heap.objs.size := by obtain ⟨_, z, _⟩ := p'; exact Heap.lt_size z
  refine call_enum_tup (show s1.heap.IsTuple a its.toArray from p') fun h' he hit hsz hk => wpAny_pyIter_enum he ?_
  have I2 : Inv X pins σ H1 { s1 with heap := h' } := I1.kept (t' := s1.toks) hk
  refine ⟨s1.heap.objs.size + 1, [s1.heap.objs.size + 1, s1.heap.objs.size], _, _, H1, rfl, I2, turn_enumT a (s1.heap.objs.size + 1) s1.heap.objs.size (Nat.ne_of_lt la) (Nat.ne_of_gt (Nat.lt_succ_of_lt la)), ⟨⟨.none, he⟩, hit, Nat.succ_ne_self _⟩, fun b hb => ?_, q⟩
  have hle : s1.heap.objs.size ≤ b := by
    rcases (show b = s1.heap.objs.size + 1 ∨ b = s1.heap.objs.size by simpa using hb) with z | z
    · rw [z]; exact Nat.le_succ _
    · rw [z]; exact Nat.le_refl _
  exact I1.fpOk hle (I1.hok.fresh hle)
end My
set_option maxHeartbeats 4000000
/-! set(texts), sorted(set(texts)), len(set(texts)) -/
namespace My
open PySem PySem.Spec PyProof.Rows L2
/-- the text of an entry -/
def txtOf (e : Int × Value) : Str := match e.2 with | .str k _ => k | _ => Str.empty
def GoodT (w : World) (e : Int × Value) : Prop := ∃ k tk, e.2 = Value.str k tk ∧ e.1 = hashStr w k
/-- a set of texts: S its members, n their number -/
def SetTx (w : World) (h : Heap) (a : Addr) (S : Str → Bool) (n : Nat) : Prop :=
  ∃ o es ep t, h.get? a = some o ∧ o.ExactSet ∧ o.data = .set es ep t ∧ (∀ e ∈ es.toList, GoodT w e) ∧ (es.toList.map txtOf).Nodup ∧ (∀ k, S k = true ↔ k ∈ es.toList.map txtOf) ∧
    (es.size < scanBound ∧ t.fits es.size = true ∧ es.size = n) ∧ Ris t.place.toList ∧ (w.params.followText "set-order" = true ∨ t.led = true)
section
variable {P : Program} {w : World} {h h' : Heap} {a : Addr} {S : Str → Bool} {n : Nat}
theorem SetTx.at (R : SetTx w h a S n) (k : ∀ o, h.get? a = some o → h'.get? a = some o) : SetTx w h' a S n := by
  obtain ⟨o, es, ep, t, ho, r⟩ := R
  exact ⟨o, es, ep, t, k o ho, r⟩
theorem SetTx.congr {S' : Str → Bool} {m : Nat} (R : SetTx w h a S n) (e : ∀ k, S' k = S k) (em : n = m) : SetTx w h a S' m := by
  rw [show S' = S from funext e, ← em]
  exact R
theorem goodT_elems {l : List (Int × Value)} (g : ∀ e ∈ l, GoodT w e) : ElemsOf (PySem.strKind P w) l := fun e he => by
  obtain ⟨k, tk, g1, g2⟩ := g e he
  exact ⟨⟨k, by rw [g1]; exact strKind_is P w k tk, g2⟩, by rw [g1]; rfl⟩
theorem goodT_is {e : Int × Value} (g : GoodT w e) (k : Str) : (PySem.strKind P w).is k e.2 = true ↔ txtOf e = k := by
  obtain ⟨k0, tk, g1, _⟩ := g
  unfold txtOf
  rw [g1]
  constructor
  · intro q
    exact (PySem.strKind P w).inj _ _ _ (strKind_is P w k0 tk) q
  · intro q
    show (PySem.strKind P w).is k (.str k0 tk) = true
    rw [show k0 = k from q]
    exact strKind_is P w k tk
theorem goodT_mem {l : List (Int × Value)} (g : ∀ e ∈ l, GoodT w e) (k : Str) : k ∈ l.map txtOf ↔ ∃ e ∈ l, (PySem.strKind P w).is k e.2 = true := by
  rw [List.mem_map]
  exact ⟨fun ⟨e, he, q⟩ => ⟨e, he, (goodT_is (g e he) k).2 q⟩, fun ⟨e, he, q⟩ => ⟨e, he, (goodT_is (P := P) (g e he) k).1 q⟩⟩
theorem SetTx.setOf (R : SetTx w h a S n) : h.SetOf (PySem.strKind P w) a S n := by
  obtain ⟨o, es, ep, t, ho, hx, hd, g, nd, hm, ⟨hb, hf, hn⟩, _⟩ := R
  exact ⟨o, es, ep, t, ho, hx, hd, goodT_elems g, fun k => (hm k).trans (goodT_mem g k), hb, hf, hn⟩
end
section
variable {P : Program} {w : World} {A : Around} {E : Value → Shared → Prop} {s : Shared} {a : Addr} {S : Str → Bool} {n : Nat}
theorem tx_tail {g : Bool → Sem Unit} (hg : ∀ (b : Bool) (s₁ : Shared) (Q' : Unit → Shared → Prop), Q' () s₁ → wpAny (model P w) A (g b) Q' E s₁)
    {o : Obj} {es : Array (Int × Value)} {ep : Nat} {t : SetTable} (ho : s.heap.get? a = some o) (hex : o.ExactSet) (hd : o.data = .set es ep t)
    {es1 : Array (Int × Value)} {t2 : SetTable} {S' : Str → Bool} (g1 : ∀ e ∈ es1.toList, GoodT w e) (nd1 : (es1.toList.map txtOf).Nodup) (m1 : ∀ k, S' k = true ↔ k ∈ es1.toList.map txtOf)
    (room : es1.size < scanBound) (fit : t2.fits es1.size = true) (ris : Ris t2.place.toList) (led : w.params.followText "set-order" = true ∨ t2.led = true) {wasDummy : Bool} {R : Option Bool → Shared → Prop}
    (hR : ∀ h', Heap.SameBut a s.heap h' → SetTx w h' a S' es1.size → R (some true) { s with heap := h' }) :
    wpAny (model P w) A (do
        storeSet a es1 t2
        if (!wasDummy && t2.tooFull) = true then do
            g (relayAll t2 es1 (SetTable.grown es1.size)).2.2
            storeSet a (relayAll t2 es1 (SetTable.grown es1.size)).1 (relayAll t2 es1 (SetTable.grown es1.size)).2.1
            pure (some true)
          else pure (some true)) R E s := by
  refine wpAny_bind (wpAny_storeSet_of ho hd ?_ (fits_of_scanBound room))
  have st1 := store_at (es' := es1) (t' := t2) ho hd
  have same1 := Heap.SameBut.update s.heap a (Obj.putSet es1 t2)
  split
  · have p3 := relayAll_perm t2 es1 (SetTable.grown es1.size)
    have f3 := relayAll_fits t2 es1 (SetTable.grown es1.size)
    have r3 := relayAll_ris t2 es1 (SetTable.grown es1.size)
    have l3 := relayAll_led t2 es1 (SetTable.grown es1.size)
    generalize relayAll t2 es1 (SetTable.grown es1.size) = Z at p3 f3 r3 l3 ⊢
    obtain ⟨es2, t3, gave⟩ := Z
    dsimp only at p3 f3 r3 l3 ⊢
    have z2 : es2.size = es1.size := by rw [← Array.length_toList, p3.length_eq, Array.length_toList]
    have b2 : es2.size < scanBound := by rw [z2]; exact room
    refine wpAny_bind (hg _ _ _ (wpAny_bind (wpAny_storeSet_of st1 rfl ?_ (fits_of_scanBound b2))))
    have st2 := store_at (es' := es2) (t' := t3) st1 rfl
    exact wpAny_pure (hR _ (same1.trans (Heap.SameBut.update _ a _)) ⟨_, es2, _, t3, st2, hex, rfl, fun e he => g1 e (p3.mem_iff.mp he), (p3.map txtOf).nodup_iff.mpr nd1, fun k => (m1 k).trans (p3.map txtOf).mem_iff.symm, ⟨b2, f3, z2⟩, r3, led.imp id fun z => by rw [l3]; exact z⟩)
  · exact wpAny_pure (hR _ same1 ⟨_, es1, _, t2, st1, hex, rfl, g1, nd1, m1, ⟨room, fit, rfl⟩, ris, led⟩)
theorem tx_add {k : Str} {tk : Tok} {Q : Bool → Shared → Prop} (R : SetTx w s.heap a S n) (room : n + 1 < scanBound)
    (hQ : ∀ h', Heap.SameBut a s.heap h' → SetTx w h' a (fun j => S j || decide (j = k)) (if S k = true then n else n + 1) → Q (!S k) { s with heap := h' }) :
    wpAny (model P w) A (setAddHashed a (.str k tk) ((PySem.strKind P w).hash k)) Q E s := by
  obtain ⟨o, es, ep, t, ho, hex, hd, g, nd, hm, ⟨hb, hf, hn⟩, hr, hl⟩ := R
  have is_k : (PySem.strKind P w).is k (.str k tk) = true := strKind_is P w k tk
  have scan : (Value.str k tk).scannable = true := rfl
  have elems : ElemsOf (PySem.strKind P w) es.toList := goodT_elems g
  unfold setAddHashed setAddHashedIn
  refine wpAny_holding (wpAny_bind (wpAny_setState_of ho hd hf ?_))
  dsimp only
  rw [byScan_of scan hb elems]
  simp only [↓reduceIte]
  unfold setAddByScan
  refine wpAny_bind (wpAny_bind (wpAny_rule ?_))
  refine wpAny_bind (wpAny_setScan_of is_k ho hd hf elems ?_)
  cases at_ : List.findIdx? (fun e => (PySem.strKind P w).is k e.2) es.toList with
  | some j =>
    dsimp only
    obtain ⟨hj, pj, _⟩ := List.findIdx?_eq_some_iff_getElem.mp at_
    have inS : S k = true := (hm k).2 ((goodT_mem (P := P) g k).2 ⟨es.toList[j], List.getElem_mem hj, pj⟩)
    refine wpAny_pure (wpAny_pure ?_)
    have q := hQ s.heap (Heap.SameBut.refl a s.heap) ⟨o, es, ep, t, ho, hex, hd, g, nd, fun i => by
      rw [Bool.or_eq_true, decide_eq_true_eq, ← hm i]
      exact ⟨fun z => z.elim id (fun e => e ▸ inS), .inl⟩, ⟨hb, hf, by rw [if_pos inS]; exact hn⟩, hr, hl⟩
    rw [inS] at q
    exact q
  | none =>
    dsimp only
    have out : k ∉ es.toList.map txtOf := fun z => by
      obtain ⟨e, he, q⟩ := (goodT_mem (P := P) g k).1 z
      have c := List.findIdx?_eq_none_iff.mp at_ e he
      rw [q] at c
      cases c
    have noS : S k = false := by
      cases q : S k with
      | false => rfl
      | true => exact absurd ((hm k).1 q) out
    have gave_ : ∀ (b : Bool) {s₁ : Shared} {Q' : Unit → Shared → Prop}, Q' () s₁ → wpAny (model P w) A (match b with | true => rule "set.scan.the-table-gave-way" | false => pure ()) Q' E s₁ :=
      fun b s₁ Q' q => by cases b <;> first | exact wpAny_pure q | exact wpAny_rule q
    have p1 := layNew_perm t es ((PySem.strKind P w).hash k) (.str k tk)
    have f1 := layNew_fits t es ((PySem.strKind P w).hash k) (.str k tk)
    have r1 := layNew_ris t es ((PySem.strKind P w).hash k) (.str k tk) hr
    have l1 := layNew_led t es ((PySem.strKind P w).hash k) (.str k tk)
    generalize layNew t es ((PySem.strKind P w).hash k) (.str k tk) = Z at p1 f1 r1 l1 ⊢
    obtain ⟨es1, t1, wasDummy, gave⟩ := Z
    dsimp only at p1 f1 r1 l1 ⊢
    rw [Array.toList_push] at p1
    have pc : es1.toList.Perm (((PySem.strKind P w).hash k, Value.str k tk) :: es.toList) := p1.trans (List.perm_append_singleton _ _)
    have pk : (es1.toList.map txtOf).Perm (k :: es.toList.map txtOf) := pc.map txtOf
    have g1 : ∀ e ∈ es1.toList, GoodT w e := fun e he => by
      rcases List.mem_cons.mp (pc.mem_iff.mp he) with z | z
      · rw [z]; exact ⟨k, tk, rfl, rfl⟩
      · exact g e z
    have nd1 : (es1.toList.map txtOf).Nodup := pk.nodup_iff.mpr (List.nodup_cons.mpr ⟨out, nd⟩)
    have m1 : ∀ i, (S i || decide (i = k)) = true ↔ i ∈ es1.toList.map txtOf := fun i => by
      rw [Bool.or_eq_true, decide_eq_true_eq, hm i, pk.mem_iff, List.mem_cons]
      exact Or.comm
    have z1 : es1.size = n + 1 := by rw [← Array.length_toList, pc.length_eq, List.length_cons, Array.length_toList, hn]
    have b1 : es1.size < scanBound := by rw [z1]; exact room
    have led1 : w.params.followText "set-order" = true ∨ t1.led = true := hl.imp id fun z => by rw [l1]; exact z
    have fin : ∀ h', Heap.SameBut a s.heap h' → SetTx w h' a (fun j => S j || decide (j = k)) es1.size → Q true { s with heap := h' } := fun h' sb r => by
      have q := hQ h' sb
      rw [noS] at q
      rw [z1] at r
      exact q r
    refine wpAny_bind (gave_ _ ?_)
    split
    · refine wpAny_bind ?_
      rw [hashByValue_scannable 8 scan]
      refine wpAny_pure ?_
      refine tx_tail ?_ ho hex hd g1 nd1 m1 b1 ?_ ?_ ?_ ?_
      · intro b s₁ Q' q; cases b <;> first | exact wpAny_pure q | exact wpAny_rule q
      · first | (split <;> first | exact f1 | exact SetTable.fits_plain_off f1) | exact f1
      · first | (split <;> exact r1) | exact r1
      · first | (split <;> exact led1) | exact led1
      · intro h' sb r; dsimp only; exact wpAny_pure (fin h' sb r)
    · refine wpAny_bind (wpAny_pure ?_)
      simp only [↓reduceIte]
      refine tx_tail ?_ ho hex hd g1 nd1 m1 b1 f1 r1 led1 ?_
      · intro b s₁ Q' q; cases b <;> first | exact wpAny_pure q | exact wpAny_rule q
      · intro h' sb r; dsimp only; exact wpAny_pure (fin h' sb r)
end
end My
set_option maxHeartbeats 4000000
namespace My
open PySem PySem.Spec PyProof.Rows L2
abbrev hasT (xs : List Str) : Str → Bool := fun k => decide (k ∈ xs)
theorem hasT_snoc (xs : List Str) (x : Str) (k : Str) : hasT (xs ++ [x]) k = (hasT xs k || decide (k = x)) := by
  unfold hasT
  by_cases c : k = x
  · simp [c]
  · simp [c]
section
variable {prog : Program} {w : World} {A : Around} {R : Result → Shared → Prop} {I : Addr} {fp wr : List Addr} {G : Array GenState → Array GenState → Prop} {n : Nat} {Pw : Nat → Value → Prop} {St : Nat → Shared → Prop}
/-- the texts of an iterator put into a set -/
theorem put_texts (W : WalksS prog w A.in1 I fp wr G n Pw St) (a : Addr) (away : a ∉ fp) (xs : List Str) (size : xs.length = n) (few : n + 1 < scanBound)
    (reads : ∀ i v, Pw i v → ∃ t x, xs[i]? = some x ∧ v = .str x t) :
    ∀ (k i m : Nat) (s : Shared), n - i = k → i ≤ n → m ≤ i → St i s → SetTx w s.heap a (hasT (xs.take i)) m →
      (∀ s' m', Moved (a :: wr) G s s' → m' ≤ n → SetTx w s'.heap a (hasT xs) m' → R (.ok (.ret .none)) s') →
      codeAny (model prog w) A (.builtin "set.update.loop" ⟨[.ref a, .ref I], []⟩) R s := by
  have apart : a ∉ wr := fun z => away (W.sub _ z)
  have wider : ∀ b ∈ wr, b ∈ a :: wr := fun b hb => List.mem_cons_of_mem _ hb
  intro k
  induction k with
  | zero =>
    intro i m s hk hi hm hst hS hR
    obtain rfl : i = n := by omega
    rw [← size, List.take_length] at hS
    refine codeAny_builtin PyProof.Rows.F.entry_set_update_loop ?_
    rw [Around.under_plainId PyProof.Rows.F.plain_set_update_loop _]
    show wpAny _ A.in1 (pyNext (.ref I) >>= _) _ _ s
    refine wpAny_bind (W.done s _ _ hst fun s' hm' => ?_)
    show wpAny _ A.in1 (ret Value.none) _ _ s'
    exact wpAny_pure (hR s' m (hm'.mono wider) hm (hS.at fun o e => hm'.heap a _ apart e))
  | succ k ih =>
    intro i m s hk hi hm hst hS hR
    have hlt : i < n := by omega
    refine codeAny_builtin PyProof.Rows.F.entry_set_update_loop ?_
    rw [Around.under_plainId PyProof.Rows.F.plain_set_update_loop _]
    show wpAny _ A.in1 (pyNext (.ref I) >>= _) _ _ s
    refine wpAny_bind (W.item i s _ _ hlt hst fun v s' hPv hst' hm' => ?_)
    obtain ⟨t, x, hx, rfl⟩ := reads i v hPv
    have hS' : SetTx w s'.heap a (hasT (xs.take i)) m := hS.at fun o e => hm'.heap a _ apart e
    show wpAny _ A.in1 (holding [Value.str x t] (setAdd a (.str x t)) >>= _) _ _ s'
    refine wpAny_bind (wpAny_holding ?_)
    unfold setAdd
    refine wpAny_holding (wpAny_bind ((PySem.strKind prog w).pyHash (k := x) (strKind_is _ _ _ _) ?_))
    refine tx_add (P := prog) (s := { s' with toks := s'.toks + 1 }) hS' (by omega) fun h' sb hS2 => ?_
    have hS3 : SetTx w h' a (hasT (xs.take (i + 1))) (if hasT (xs.take i) x = true then m else m + 1) := by
      refine hS2.congr (fun k' => ?_) rfl
      rw [show xs.take (i + 1) = xs.take i ++ [x] by rw [List.take_succ, hx]; rfl, hasT_snoc]
    refine wpAny_pure ⟨plainId_quiet PyProof.Rows.F.plain_set_update_loop _, ih (i + 1) _ _ (by omega) hlt (by split <;> omega) (W.frame _ s' _ _ hst' (Nat.le_succ _) fun b hb o e => ?_) hS3 fun s'' m'' hm'' hle hS'' => ?_⟩
    · rw [sb.2 b (fun z : b = a => away (by rw [← z]; exact hb))]; exact e
    · refine hR s'' m'' (Moved.trans W.gtrans ((hm'.mono wider).then_heap (Nat.le_succ _) fun b o hb e => ?_) hm'') hle hS''
      rw [sb.2 b (fun z : b = a => hb (by rw [z]; exact List.mem_cons_self))]; exact e
end
def newSet (w : World) : Obj := { cls := .type "set", dict := none, data := .set #[] 0 (.fresh 0 0 (!w.params.followText "set-order")) }
theorem newSet_tx (w : World) {h : Heap} : SetTx w (h.push (newSet w)) h.objs.size (fun _ => false) 0 :=
  ⟨_, #[], 0, _, Heap.get?_push_size _ rfl, ⟨rfl, rfl, rfl⟩, rfl, (fun e he => by simp at he), (by simp), (fun k => by simp), ⟨(by decide), (by rfl), rfl⟩, List.Pairwise.nil, by
    show _ ∨ (!w.params.followText "set-order") = true
    cases w.params.followText "set-order"
    · exact Or.inr rfl
    · exact Or.inl rfl⟩
section
variable {prog : Program} {w : World} {A : Around} {E : Value → Shared → Prop} {s : Shared}
theorem set_made (a : Value) {Q₁ : Value → Shared → Prop} (h : Q₁ (.ref s.heap.objs.size) { s with heap := s.heap.push (newSet w) }) :
    codeAny (model prog w) A (.call (.builtin "set.__new__") ⟨[.type "set", a], []⟩) (wants Q₁ E) s := by
  refine codeAny_of_tree ?_
  show wpAny _ A.in1 (do checkBuiltinCall "set.__new__" ⟨[.type "set", a], []⟩; again (.builtin "set.__new__" ⟨[.type "set", a], []⟩)) _ _ s
  refine wpAny_bind (wpAny_of_eq (PySem.F.newCall_set_1 a) (wpAny_pure ⟨plainId_quiet PySem.F.plain_set_new _, codeAny_builtin PySem.F.entry_set_new ?_⟩))
  rw [Around.under_plainId PySem.F.plain_set_new _]
  unfold Builtin.«set.__new__» Builtin.Frozenset.newClass
  have hsub := sub_set_self
  obtain ⟨hp, g, d, tk, os⟩ := s
  dsimp only
  wp_walk
  refine wpAny_askSetting (wpAny_pure ?_)
  dsimp only
  simp only [newObj]
  exact wpAny_bind (wpAny_alloc (wpAny_pure (wpAny_pure h)))
set_option maxHeartbeats 3200000 in
theorem set_of_list {q : Addr} {ys : Array Value} {xs : List Str} {Q : Value → Shared → Prop}
    (calm : A.handled = none) (hq : s.heap.IsList q ys) (hx : PyProof.Rows.StrsAre ys.toList xs) (few : xs.length + 1 < scanBound)
    (k : ∀ (h' : Heap) (tk m : Nat), m ≤ xs.length → SetTx w h' s.heap.objs.size (hasT xs) m →
      (∀ b o, b < s.heap.objs.size → s.heap.get? b = some o → h'.get? b = some o) → Q (.ref s.heap.objs.size) { s with heap := h', toks := tk }) :
    wpAny (model prog w) A (call (.type "set") [.ref q]) Q E s := by
  obtain ⟨c, tl, hmro⟩ := PySem.F.called_set.mro
  have hmade := PySem.F.called_set.made
  have hsub := PySem.F.called_set.sub
  refine wpAny_call (codeAny_of_tree ?_)
  show wpAny _ _ (callAny (.type "set") _) _ _ _
  refine wpAny_pure ⟨Code.quiet_builtin _ (by decide +kernel), codeAny_builtin PySem.F.entry_type_call ?_⟩
  rw [Around.under_plain (weight_type_call_type "set" [.ref q] []) rfl]
  have h1 := PySem.F.called_set.notType
  have h2 := PySem.F.called_set.canCreate
  have hct := PySem.F.typeCall_set_1 (.ref q)
  repeat (any_goals (first | assumption | wp_step))
  refine codeAny_mono (set_made (w := w) (.ref q) (E := E) (Q₁ := fun obj s₁ => obj = .ref s.heap.objs.size ∧ s₁ = { s with heap := s.heap.push (newSet w) }) ⟨rfl, rfl⟩) fun r s₁ hr => ?_
  cases r with
  | error e => exact hr
  | ok fl =>
    cases fl with
    | ret obj =>
      obtain ⟨rfl, rfl⟩ := hr
      have hS : (s.heap.push (newSet w)).get? s.heap.objs.size = some (newSet w) := Heap.get?_push_size _ rfl
      have hT : Shared.TypeIs { s with heap := s.heap.push (newSet w) } (.ref s.heap.objs.size) "set" := ⟨_, hS, rfl⟩
      have hli := PySem.F.called_set.init.lookup
      have hbi := PySem.F.called_set.init.bind (.ref s.heap.objs.size)
      repeat (any_goals (first | assumption | wp_step))
      refine codeAny_mono (codeAny_call_builtin (R := wants (fun r s₂ => r = .none ∧ ∃ h' tk m, s₂ = { s with heap := h', toks := tk } ∧ m ≤ xs.length ∧
          SetTx w h' s.heap.objs.size (hasT xs) m ∧
          (∀ b o, b < s.heap.objs.size → s.heap.get? b = some o → h'.get? b = some o)) E) PySem.F.called_set.init.plain PySem.F.entry_set_init (check_set_init_1 hT ?_)) fun r₂ s₂ hr₂ => ?_
      · obtain ⟨ol, hol, hcl, nl, hdl⟩ := hq
        obtain ⟨ocls, odict, odata, oslots⟩ := ol
        simp only at hcl hdl
        subst hcl; subst hdl
        have hol' : (s.heap.push (newSet w)).get? q = some { cls := .type "list", dict := odict, data := .seq ys nl, slots := oslots } := Heap.get?_push_of_some _ hol
        have hsls := PySem.F.sub_list_set
        have hslf := PySem.F.sub_list_frozenset
        have hne : (Value.type "list" == Value.type "dict") = false := by decide
        have hl1 : (s.heap.push (newSet w)).IsList q ys := ⟨_, hol', rfl, nl, rfl⟩
        unfold Builtin.«set.__init__» noKeywords Builtin.Frozenset.updateFrom
        generalize hPI : pyIter = PI
        wp_walk
        subst hPI
        refine wpAny_pyIter_list hl1 (wpAny_bind (wpAny_runValue ?_))
        have qS : q < s.heap.objs.size := Heap.lt_size hol
        have calm3 : A.in1.in1.in1.handled = none := by simp [calm]
        have z1 : (s.heap.push (newSet w)).objs.size = s.heap.objs.size + 1 := Heap.size_push ..
        have qI : q ≠ (s.heap.push (newSet w)).objs.size := by
          rw [z1]; exact Nat.ne_of_lt (Nat.lt_succ_of_lt qS)
        have away : s.heap.objs.size ∉ [(s.heap.push (newSet w)).objs.size, q] := by
          rw [z1]; simp only [List.mem_cons, List.mem_singleton, List.not_mem_nil, or_false, not_or]
          exact ⟨Nat.ne_of_lt (Nat.lt_succ_self _), Nat.ne_of_gt qS⟩
        have sz : xs.length = ys.size := by rw [← StrsAre.len_eq hx, Array.length_toList]
        have rd : ∀ (i : Nat) (v : Value), ys[i]? = some v → ∃ t x, xs[i]? = some x ∧ v = .str x t := fun i v hv => by
          obtain ⟨t, e⟩ := SS.strs_at hx i v (by rw [Array.getElem?_toList]; exact hv)
          have hi : i < xs.length := by rw [sz]; exact (Array.getElem?_eq_some_iff.mp hv).1
          exact ⟨t, xs[i], List.getElem?_eq_getElem hi, by rw [e, List.getD_eq_getElem?_getD, List.getElem?_eq_getElem hi]; rfl⟩
        refine put_texts ((Walks.list calm3 _ q qI ys).toS) s.heap.objs.size
          away xs sz (by omega) rd (ys.size - 0) 0 0 _ rfl (Nat.zero_le _) (Nat.zero_le _)
          ⟨⟨_, Heap.get?_push_size _ rfl, rfl, rfl⟩, (hl1.push _)⟩ ?start ?end_
        case start =>
          exact (SetTx.congr (newSet_tx w) (fun k => by simp [hasT]) rfl).at fun o e => Heap.get?_push_of_some _ e
        case end_ =>
          intro s' m hm hle hS'
          obtain ⟨h', g', d', tk', os'⟩ := s'
          cases (show g' = s.gens from hm.gens)
          cases (show d' = s.drawn from hm.drawn)
          cases (show os' = s.os from hm.os)
          show wpAny _ _ _ _ _ _
          refine wpAny_pure ?_
          show wpAny _ _ (ret Value.none) _ _ _
          refine wpAny_pure ⟨rfl, h', tk', m, rfl, by rw [sz]; exact hle, hS', fun b o hb e => ?_⟩
          have b1 : b ≠ s.heap.objs.size := Nat.ne_of_lt hb
          have b2 : b ≠ (s.heap.push (newSet w)).objs.size := by
            rw [z1]; exact Nat.ne_of_lt (Nat.lt_succ_of_lt hb)
          exact hm.heap b o (by simp only [List.mem_cons, List.mem_singleton, List.not_mem_nil, or_false, not_or]; exact ⟨b1, b2⟩) (Heap.get?_push_of_some _ (Heap.get?_push_of_some _ e))
      · cases r₂ with
        | error e => exact hr₂
        | ok fl₂ =>
          cases fl₂ with
          | ret r =>
            obtain ⟨rfl, h', tk, m, rfl, hle, hS', keep⟩ := hr₂
            repeat (any_goals (first | assumption | wp_step))
            exact k _ _ m hle hS' keep
          | _ => exact hr₂.elim
    | _ => exact hr.elim
set_option maxHeartbeats 3200000 in
theorem set_of_tuple {q : Addr} {ys : Array Value} {xs : List Str} {Q : Value → Shared → Prop}
    (calm : A.handled = none) (hq : s.heap.IsTuple q ys) (hx : PyProof.Rows.StrsAre ys.toList xs) (few : xs.length + 1 < scanBound)
    (k : ∀ (h' : Heap) (tk m : Nat), m ≤ xs.length → SetTx w h' s.heap.objs.size (hasT xs) m →
      (∀ b o, b < s.heap.objs.size → s.heap.get? b = some o → h'.get? b = some o) → Q (.ref s.heap.objs.size) { s with heap := h', toks := tk }) :
    wpAny (model prog w) A (call (.type "set") [.ref q]) Q E s := by
  obtain ⟨c, tl, hmro⟩ := PySem.F.called_set.mro
  have hmade := PySem.F.called_set.made
  have hsub := PySem.F.called_set.sub
  refine wpAny_call (codeAny_of_tree ?_)
  show wpAny _ _ (callAny (.type "set") _) _ _ _
  refine wpAny_pure ⟨Code.quiet_builtin _ (by decide +kernel), codeAny_builtin PySem.F.entry_type_call ?_⟩
  rw [Around.under_plain (weight_type_call_type "set" [.ref q] []) rfl]
  have h1 := PySem.F.called_set.notType
  have h2 := PySem.F.called_set.canCreate
  have hct := PySem.F.typeCall_set_1 (.ref q)
  repeat (any_goals (first | assumption | wp_step))
  refine codeAny_mono (set_made (w := w) (.ref q) (E := E) (Q₁ := fun obj s₁ => obj = .ref s.heap.objs.size ∧ s₁ = { s with heap := s.heap.push (newSet w) }) ⟨rfl, rfl⟩) fun r s₁ hr => ?_
  cases r with
  | error e => exact hr
  | ok fl =>
    cases fl with
    | ret obj =>
      obtain ⟨rfl, rfl⟩ := hr
      have hS : (s.heap.push (newSet w)).get? s.heap.objs.size = some (newSet w) := Heap.get?_push_size _ rfl
      have hT : Shared.TypeIs { s with heap := s.heap.push (newSet w) } (.ref s.heap.objs.size) "set" := ⟨_, hS, rfl⟩
      have hli := PySem.F.called_set.init.lookup
      have hbi := PySem.F.called_set.init.bind (.ref s.heap.objs.size)
      repeat (any_goals (first | assumption | wp_step))
      refine codeAny_mono (codeAny_call_builtin (R := wants (fun r s₂ => r = .none ∧ ∃ h' tk m, s₂ = { s with heap := h', toks := tk } ∧ m ≤ xs.length ∧
          SetTx w h' s.heap.objs.size (hasT xs) m ∧
          (∀ b o, b < s.heap.objs.size → s.heap.get? b = some o → h'.get? b = some o)) E) PySem.F.called_set.init.plain PySem.F.entry_set_init (check_set_init_1 hT ?_)) fun r₂ s₂ hr₂ => ?_
      · obtain ⟨ol, hol, hcl, nl, hdl⟩ := hq
        obtain ⟨ocls, odict, odata, oslots⟩ := ol
        simp only at hcl hdl
        subst hcl; subst hdl
        have hol' : (s.heap.push (newSet w)).get? q = some { cls := .type "tuple", dict := odict, data := .seq ys nl, slots := oslots } := Heap.get?_push_of_some _ hol
        have hsls := PySem.F.sub_tuple_set
        have hslf := PySem.F.sub_tuple_frozenset
        have hne : (Value.type "tuple" == Value.type "dict") = false := by decide
        have hl1 : (s.heap.push (newSet w)).IsTuple q ys := ⟨_, hol', rfl, nl, rfl⟩
        unfold Builtin.«set.__init__» noKeywords Builtin.Frozenset.updateFrom
        generalize hPI : pyIter = PI
        wp_walk
        subst hPI
        refine wpAny_pyIter_tuple hl1 (wpAny_bind (wpAny_runValue ?_))
        have qS : q < s.heap.objs.size := Heap.lt_size hol
        have calm3 : A.in1.in1.in1.handled = none := by simp [calm]
        have z1 : (s.heap.push (newSet w)).objs.size = s.heap.objs.size + 1 := Heap.size_push ..
        have qI : q ≠ (s.heap.push (newSet w)).objs.size := by
          rw [z1]; exact Nat.ne_of_lt (Nat.lt_succ_of_lt qS)
        have away : s.heap.objs.size ∉ [(s.heap.push (newSet w)).objs.size, q] := by
          rw [z1]; simp only [List.mem_cons, List.mem_singleton, List.not_mem_nil, or_false, not_or]
          exact ⟨Nat.ne_of_lt (Nat.lt_succ_self _), Nat.ne_of_gt qS⟩
        have sz : xs.length = ys.size := by rw [← StrsAre.len_eq hx, Array.length_toList]
        have rd : ∀ (i : Nat) (v : Value), ys[i]? = some v → ∃ t x, xs[i]? = some x ∧ v = .str x t := fun i v hv => by
          obtain ⟨t, e⟩ := SS.strs_at hx i v (by rw [Array.getElem?_toList]; exact hv)
          have hi : i < xs.length := by rw [sz]; exact (Array.getElem?_eq_some_iff.mp hv).1
          exact ⟨t, xs[i], List.getElem?_eq_getElem hi, by rw [e, List.getD_eq_getElem?_getD, List.getElem?_eq_getElem hi]; rfl⟩
        refine put_texts ((Walks.tuple calm3 _ q qI ys).toS) s.heap.objs.size
          away xs sz (by omega) rd (ys.size - 0) 0 0 _ rfl (Nat.zero_le _) (Nat.zero_le _)
          ⟨⟨_, Heap.get?_push_size _ rfl, rfl, rfl⟩, (hl1.push _)⟩ ?start ?end_
        case start =>
          exact (SetTx.congr (newSet_tx w) (fun k => by simp [hasT]) rfl).at fun o e => Heap.get?_push_of_some _ e
        case end_ =>
          intro s' m hm hle hS'
          obtain ⟨h', g', d', tk', os'⟩ := s'
          cases (show g' = s.gens from hm.gens)
          cases (show d' = s.drawn from hm.drawn)
          cases (show os' = s.os from hm.os)
          show wpAny _ _ _ _ _ _
          refine wpAny_pure ?_
          show wpAny _ _ (ret Value.none) _ _ _
          refine wpAny_pure ⟨rfl, h', tk', m, rfl, by rw [sz]; exact hle, hS', fun b o hb e => ?_⟩
          have b1 : b ≠ s.heap.objs.size := Nat.ne_of_lt hb
          have b2 : b ≠ (s.heap.push (newSet w)).objs.size := by
            rw [z1]; exact Nat.ne_of_lt (Nat.lt_succ_of_lt hb)
          exact hm.heap b o (by simp only [List.mem_cons, List.mem_singleton, List.not_mem_nil, or_false, not_or]; exact ⟨b1, b2⟩) (Heap.get?_push_of_some _ (Heap.get?_push_of_some _ e))
      · cases r₂ with
        | error e => exact hr₂
        | ok fl₂ =>
          cases fl₂ with
          | ret r =>
            obtain ⟨rfl, h', tk, m, rfl, hle, hS', keep⟩ := hr₂
            repeat (any_goals (first | assumption | wp_step))
            exact k _ _ m hle hS' keep
          | _ => exact hr₂.elim
    | _ => exact hr.elim
end
end My
set_option maxHeartbeats 4000000
namespace My
open PySem PySem.Spec PyProof.Rows L2
/-! ### sorted(a set of texts), len of it -/
def textIn : Value → Str | .str x _ => x | _ => Str.empty
theorem each_text : ∀ l : List Value, (∀ v ∈ l, ∃ k tk, v = Value.str k tk) → PySem.W.EachIs (fun v b => ∃ t, v = Value.str b t) l (l.map textIn)
  | [], _ => .nil
  | v :: l, h => by
    obtain ⟨k, tk, rfl⟩ := h v List.mem_cons_self
    exact .cons ⟨tk, rfl⟩ (each_text l fun u hu => h u (List.mem_cons_of_mem _ hu))
theorem vals_text : ∀ {out : List Value} {M : List Str}, PySem.W.EachIs (fun v b => ∃ t, v = Value.str b t) out M → Vals (M.map V.str) out
  | _, _, .nil => .nil
  | _, _, .cons h t => .cons (show RelV _ _ from h) (vals_text t)
section
variable {P : Program} {w : World} {A : Around} {E : Value → Shared → Prop} {s : Shared} {a : Addr} {S : Str → Bool} {n : Nat}
theorem sorted_texts {Q : Value → Shared → Prop} (R : SetTx w s.heap a S n) (calm : A.handled = none) (small : n ≤ 100000) (hu : A.units + 64 < cLine)
    (hQ : ∀ s' p (out : Array Value) (c : Nat) (M : List Str), (∀ b o, s.heap.get? b = some o → s'.heap.get? b = some o) → s'.gens = s.gens → s'.os = s.os → s.heap.objs.size ≤ p →
      s'.heap.get? p = some (seqObj "list" out c) → Vals (M.map V.str) out.toList → M.Pairwise sLt → (∀ k, k ∈ M ↔ S k = true) → M.length = n → Q (.ref p) s') :
    wpAny (model P w) A (call (.builtin "sorted") [.ref a]) Q E s := by
  obtain ⟨o, es, ep, t, ho, hex, hd, g, nd, hm, ⟨hb, hf, hn⟩, hr, hl⟩ := R
  have line : n ≤ sizeLine := Nat.le_trans small (by decide)
  refine Calls.call_function_entry kind_sorted plain_sorted entry_sorted (args_sorted1 _) ?_
  unfold Builtin.«sorted»
  refine wpAny_bind (m := checkCount "sorted" 1 1 _) (wpAny_pure ?_)
  refine wpAny_bind (collect_set (A := A.in1) calm ⟨o, ho, hex.1, hd⟩ hf hb hr hl fun s1 vs k1 hz g1 o1 pm => ?_)
  have many : vs.length = n := by rw [pm.length_eq, List.length_map, Array.length_toList]; exact hn
  have each := each_text vs fun v hv => by
    obtain ⟨e, he, q⟩ := List.mem_map.mp (pm.mem_iff.mp hv)
    obtain ⟨k, tk, h1, _⟩ := g e he
    exact ⟨k, tk, by rw [← q]; exact h1⟩
  have pk : (vs.map textIn).Perm (es.toList.map txtOf) := by
    have q := pm.map textIn
    rw [List.map_map] at q
    exact q
  have nd2 : (vs.map textIn).Nodup := pk.nodup_iff.mpr nd
  refine wpAny_bind (wpAny_newList ?_ (by rw [many]; exact line))
  have laid : (s1.heap.push (seqObj "list" vs.toArray 0)).get? s1.heap.objs.size = some (seqObj "list" vs.toArray 0) := Heap.get?_push_size _ rfl
  refine wpAny_bind (wpAny_holding (PySem.W.list_sort_data (s := { s1 with heap := s1.heap.push (seqObj "list" vs.toArray 0) }) (enc := PyData.str) (bs := vs.map textIn) laid each (each.mono fun v b ⟨t, e⟩ => ⟨[], by rw [e]; exact .str _ _, by simp⟩) ?_ ?_ ?_ ?_ fun out len outs => ?_))
  · intro d hd d' hd'
    obtain ⟨x, _, rfl⟩ := List.mem_map.mp hd
    obtain ⟨y, _, rfl⟩ := List.mem_map.mp hd'
    rfl
  · exact .others (enc := PyData.str) fun b => ⟨fun z => (by cases z), fun xs z => (by cases z)⟩
  · rw [List.length_map, many]; exact line
  · intro b _
    show A.units + 1 + 1 + 0 < cLine
    omega
  · obtain ⟨c, hc⟩ := sortedHeap_at (vs := vs) (out := out.toArray) laid
    rw [show PySem.W.dataLe false PyData.str = leS from dataLe_s] at outs
    have pn : ((vs.map textIn).mergeSort leS).Perm (es.toList.map txtOf) := (List.mergeSort_perm _ _).trans pk
    refine wpAny_pure ⟨_, rfl, hQ _ s1.heap.objs.size out.toArray c ((vs.map textIn).mergeSort leS) (fun b u e => ?_) g1 o1 hz hc (by simpa using vals_text outs) (texts_of nd2) (fun k => by rw [pn.mem_iff, ← hm k]) ?_⟩
    · have q := k1 b u e
      have hlt := Heap.lt_size q
      show (sortedHeap (s1.heap.push (seqObj "list" vs.toArray 0)) s1.heap.objs.size vs out.toArray).get? b = some u
      rw [sortedHeap_old (Nat.ne_of_lt hlt) (by rw [size_push']; exact Nat.lt_succ_of_lt hlt)]
      exact Heap.get?_push_of_some _ q
    · rw [pn.length_eq, List.length_map, Array.length_toList]; exact hn
end
/-- a set of texts in the heap -/
def TxO (w : World) (a : Addr) (S : Str → Bool) (n : Nat) : HO := .ext fun h => SetTx w h a S n
section
variable {X : Cx}
theorem txO_new {w : World} {P : Program} {H : Hp} {h : Heap} {a : Addr} {S : Str → Bool} {n : Nat} (R : SetTx w h a S n) : ObjOk P w H h a (TxO w a S n) := by
  have ⟨o, _, _, _, ho, _⟩ := R
  exact ⟨R, ⟨o, ho⟩, fun _ _ p k => SetTx.at p k⟩
theorem txO_get {pins : List (Addr × Obj)} {σ : L2.St} {H : Hp} {s : Shared} {a : Addr} {S : Str → Bool} {n : Nat} (I : Inv X pins σ H s) (ha : H a = some (TxO X.w a S n)) : SetTx X.w s.heap a S n := (I.hok a _ ha).1
/-- sorted(found) -/
def rSortTx (w : World) : List V → Hp → VK → Prop := fun vs H Q => ∃ (a : Addr) (S : Str → Bool) (n : Nat), vs = [V.ref a] ∧ H a = some (TxO w a S n) ∧ n ≤ 100000 ∧
  ∀ (M : List Str) (p : Addr), M.Pairwise sLt → (∀ k : Str, k ∈ M ↔ S k = true) → M.length = n → H p = none → Q (.ref p) (upd H p (.lst (M.map V.str)))
theorem cr_sortTx (hc : X.calm = true) (hu : X.A.units + 64 < cLine) : CallR X (.builtin "sorted") (rSortTx X.w) := by
  intro pins s σ H vs us Q I r h
  obtain ⟨a, S, n, rfl, ha, small, q⟩ := h
  have R := txO_get I ha
  rw [Vals.ref1 r]
  refine sorted_texts R (I.ok.hd hc) small hu fun s' p out c M k g o hp hg hv hs hm hl => ?_
  have line : (M.map V.str).length ≤ sizeLine := by rw [List.length_map, hl]; exact Nat.le_trans small (by decide)
  have free : H p = none := I.hok.fresh hp
  have J : Inv X pins σ (upd H p (.lst (M.map V.str))) { s with heap := s'.heap, gens := s'.gens, drawn := s'.drawn, toks := s'.toks } :=
    I.call (ch := []) (Un.laid k hp free) (I.hok.laid k hp ⟨line, out.toList, c, hv, hg⟩) (by rw [g]; exact I.bare) (fun _ z => nomatch z)
  have same : s' = { s with heap := s'.heap, gens := s'.gens, drawn := s'.drawn, toks := s'.toks } := by
    cases s'
    cases s
    cases o
    rfl
  rw [same]
  exact ⟨.ref p, _, J, rfl, q M p hs hm hl free⟩
/-- len(found) -/
theorem cr_lenTx : CallR X (.builtin "len") (fun vs H Q => ∃ (a : Addr) (S : Str → Bool) (n : Nat), vs = [V.ref a] ∧ H a = some (TxO X.w a S n) ∧ n ≤ 100000 ∧ Q (.int (n : Int)) H) := by
  intro pins s σ H vs us Q I r h
  obtain ⟨a, S, n, rfl, ha, small, q⟩ := h
  obtain ⟨o, es, ep, t, ho, hex, hd, _, _, _, ⟨_, hf, hn⟩, _⟩ := txO_get I ha
  rw [Vals.ref1 r]
  exact call_len_set ho hex hd hf (by rw [hn]; omega) ⟨.int (n : Int), H, I.tok _, ⟨_, by rw [hn]⟩, q⟩
end
end My
set_option maxHeartbeats 4000000
namespace My
open PySem PySem.Spec PyProof.Rows L2
theorem tx_many {w : World} {h : Heap} {a : Addr} {xs : List Str} {n : Nat} (R : SetTx w h a (hasT xs) n) (D : List Str) (hD : D.Nodup) (hm : ∀ k, k ∈ D ↔ k ∈ xs) : D.length = n := by
  obtain ⟨o, es, ep, t, _, _, _, _, nd, hS, ⟨_, _, hn⟩, _⟩ := R
  have p : D.Perm (es.toList.map txtOf) := (List.perm_ext_iff_of_nodup hD nd).mpr fun k => by
    rw [hm, ← hS k]
    unfold hasT
    rw [decide_eq_true_iff]
  rw [p.length_eq, List.length_map, Array.length_toList, hn]
section
variable {X : Cx}
/-- set(texts) -/
def rSetTx (K : PySem.W.Frag) (w : World) : List V → Hp → VK → Prop := fun vs H Q => ∃ (l : Addr) (xs : List Str), vs = [V.ref l] ∧ (SqL K H l (xs.map V.str) ∨ SqT K H l (xs.map V.str)) ∧ xs.length ≤ 1000 ∧
  ∀ (p : Addr) (n : Nat), (∀ D : List Str, D.Nodup → (∀ k, k ∈ D ↔ k ∈ xs) → D.length = n) → n ≤ xs.length → H p = none → Q (.ref p) (upd H p (TxO w p (hasT xs) n))
theorem cr_setTx (hc : X.calm = true) : CallR X (.type "set") (rSetTx X.K X.w) := by
  intro pins s σ H vs us Q I r h
  obtain ⟨l, xs, rfl, hq, small, q⟩ := h
  rw [Vals.ref1 r]
  have few : xs.length + 1 < scanBound := by unfold scanBound; omega
  have fin : ∀ (h' : Heap) (tk m : Nat), m ≤ xs.length → SetTx X.w h' s.heap.objs.size (hasT xs) m → (∀ b o, b < s.heap.objs.size → s.heap.get? b = some o → h'.get? b = some o) →
      EP X pins σ Q (.ref s.heap.objs.size) { s with heap := h', toks := tk } := fun h' tk m hle R keep =>
    ⟨.ref _, upd H s.heap.objs.size (TxO X.w s.heap.objs.size (hasT xs) m), I.laid (t' := tk) (fun b u e => keep b u (Heap.lt_size e) e) (Nat.le_refl _) (txO_new R), rfl, q _ m (tx_many R) hle (I.hok.fresh (Nat.le_refl _))⟩
  rcases hq with hq | hq
  · obtain ⟨its, rv, pl, hz⟩ := I.list hq
    exact set_of_list (I.ok.hd hc) pl.isList (by simpa using L2.strsAre_of rv) few fin
  · obtain ⟨its, rv, pl, hz⟩ := I.tuple hq
    exact set_of_tuple (I.ok.hd hc) pl (by simpa using L2.strsAre_of rv) few fin
end
end My
set_option maxHeartbeats 4000000
namespace My
open PySem PySem.Spec PyProof.Rows L2
/-! ### sorted(a list or a tuple of texts) -/
theorem textIn_of : ∀ {xs : List Str} {us : List Value}, Vals (xs.map V.str) us → (∀ v ∈ us, ∃ k tk, v = Value.str k tk) ∧ us.map textIn = xs
  | [], _, .nil => ⟨fun v hv => by simp at hv, rfl⟩
  | x :: xs, _, .cons r t => by
    obtain ⟨h1, h2⟩ := textIn_of (xs := xs) t
    obtain ⟨tk, rfl⟩ := r
    refine ⟨fun v hv => ?_, by rw [List.map_cons, h2]; rfl⟩
    rcases List.mem_cons.mp hv with z | z
    · exact ⟨x, tk, z⟩
    · exact h1 v z
section
variable {P : Program} {w : World} {A : Around} {E : Value → Shared → Prop} {s : Shared} {a : Addr}
theorem gather {Q : List Value → Shared → Prop} (q : Addr) {T : String} {o : Obj} {ys : Array Value} {n : Nat} (hT : T = "list" ∨ T = "tuple")
    (ho : s.heap.get? q = some o) (hc : o.cls = .type T) (hd : o.data = .seq ys n) (line : ys.size ≤ sizeLine)
    (hQ : ∀ h', (∀ b o', s.heap.get? b = some o' → h'.get? b = some o') → s.heap.objs.size ≤ h'.objs.size → Q ys.toList { s with heap := h' }) :
    wpAny (model P w) A (collect (.ref q)) Q E s := by
  unfold collect
  refine wpAny_bind (wpAny_runValue (codeAny_builtin PySem.F.entry_proto_collect ?_))
  rw [Around.under_plainId PySem.F.plain_proto_collect _]
  show wpAny _ A.in1 (newList [] >>= fun l => again (.builtin "list.__iadd__" ⟨[l, .ref q], []⟩)) _ _ s
  refine wpAny_bind (wpAny_newObj_type ?_)
  refine wpAny_pure ⟨plainId_quiet PySem.F.plain_list_iadd _, codeAny_builtin PySem.F.entry_list_iadd ?_⟩
  rw [Around.under_plainId PySem.F.plain_list_iadd _]
  show wpAny _ A.in1 (Builtin.List.listExtendWith (.ref s.heap.objs.size) (.ref q) (.ref s.heap.objs.size)) _ _ _
  have new1 : (s.heap.push { cls := .type "list", data := .seq ([] : List Value).toArray }).get? s.heap.objs.size = some { cls := .type "list", data := .seq #[] 0 } := Heap.get?_push_size _ rfl
  have new2 := Heap.get?_update_self (Obj.mapSeq (· ++ ys)) new1 rfl
  have told_ : wpAny (model P w) A (match Value.ref s.heap.objs.size with
      | Value.ref a => do
        match (← load a).data with
          | Data.seq xs _ => pure xs.toList
          | _ => unsupported "internal:collect"
      | _ => unsupported "internal:collect") Q E { s with heap := (s.heap.push { cls := .type "list", data := .seq ([] : List Value).toArray }).update s.heap.objs.size (Obj.mapSeq (· ++ ys)) } := by
    show wpAny _ A (load s.heap.objs.size >>= _) _ _ _
    refine wpAny_bind (wpAny_load new2 (wpAny_pure ?_))
    show Q ((#[] : Array Value) ++ ys).toList _
    rw [show ((#[] : Array Value) ++ ys).toList = ys.toList by simp]
    refine hQ _ (fun b o' hb => (Heap.get?_update_other _ _ (Nat.ne_of_gt (Heap.lt_size hb))).trans (Heap.get?_push_of_some _ hb)) ?_
    exact Nat.le_of_lt (Heap.lt_size new2)
  refine wpAny_mono (wpAny_extend_seq (hsz := line) (A := A) (R := fun r s' => r = .ok (.ret (.ref s.heap.objs.size)) ∧ s' = { s with heap := (s.heap.push { cls := .type "list", data := .seq ([] : List Value).toArray }).update s.heap.objs.size (Obj.mapSeq (· ++ ys)) })
    (s := { s with heap := s.heap.push { cls := .type "list", data := .seq ([] : List Value).toArray } }) _ q _ 0 hT new1 (Heap.get?_push_of_some _ ho) hc hd ⟨rfl, rfl⟩) (fun fin s' h => ?_) (fun e s' h => ?_)
  · cases fin with
    | done f =>
      obtain ⟨e, rfl⟩ := h
      cases e
      exact told_
    | again c' => exact ⟨h.1, codeAny_mono h.2 fun r s'' hr => by obtain ⟨rfl, rfl⟩ := hr; exact told_⟩
  · exact absurd h.1 (by simp)
theorem sorted_seq {Q : Value → Shared → Prop} {T : String} {o : Obj} {ys : Array Value} {n : Nat} {xs : List Str} (hT : T = "list" ∨ T = "tuple") (ho : s.heap.get? a = some o) (hc : o.cls = .type T) (hd : o.data = .seq ys n)
    (rv : Vals (xs.map V.str) ys.toList) (small : xs.length ≤ 100000) (hu : A.units + 64 < cLine)
    (hQ : ∀ s' p (out : Array Value) (c : Nat), (∀ b o, s.heap.get? b = some o → s'.heap.get? b = some o) → s'.gens = s.gens → s'.os = s.os → s.heap.objs.size ≤ p →
      s'.heap.get? p = some (seqObj "list" out c) → Vals ((xs.mergeSort leS).map V.str) out.toList → Q (.ref p) s') :
    wpAny (model P w) A (call (.builtin "sorted") [.ref a]) Q E s := by
  obtain ⟨each0, eM⟩ := textIn_of rv
  have many : ys.toList.length = xs.length := by rw [← vals_len rv, List.length_map]
  have line : ys.size ≤ sizeLine := by rw [← Array.length_toList, many]; exact Nat.le_trans small (by decide)
  refine Calls.call_function_entry kind_sorted plain_sorted entry_sorted (args_sorted1 _) ?_
  unfold Builtin.«sorted»
  refine wpAny_bind (m := checkCount "sorted" 1 1 _) (wpAny_pure ?_)
  refine wpAny_bind (gather (A := A.in1) a hT ho hc hd line fun h1 k1 hz => ?_)
  have each := each_text ys.toList each0
  refine wpAny_bind (wpAny_newList ?_ (by rw [many]; exact Nat.le_trans small (by decide)))
  have laid : (h1.push (seqObj "list" ys.toList.toArray 0)).get? h1.objs.size = some (seqObj "list" ys.toList.toArray 0) := Heap.get?_push_size _ rfl
  refine wpAny_bind (wpAny_holding (PySem.W.list_sort_data (s := { s with heap := h1.push (seqObj "list" ys.toList.toArray 0) }) (enc := PyData.str) (bs := ys.toList.map textIn) laid each (each.mono fun v b ⟨t, e⟩ => ⟨[], by rw [e]; exact .str _ _, by simp⟩) ?_ ?_ ?_ ?_ fun out len outs => ?_))
  · intro d hd d' hd'
    obtain ⟨x, _, rfl⟩ := List.mem_map.mp hd
    obtain ⟨y, _, rfl⟩ := List.mem_map.mp hd'
    rfl
  · exact .others (enc := PyData.str) fun b => ⟨fun z => (by cases z), fun xs z => (by cases z)⟩
  · rw [List.length_map, many]; exact Nat.le_trans small (by decide)
  · intro b _
    show A.units + 1 + 1 + 0 < cLine
    omega
  · obtain ⟨c, hc⟩ := sortedHeap_at (vs := ys.toList) (out := out.toArray) laid
    rw [show PySem.W.dataLe false PyData.str = leS from dataLe_s, eM] at outs
    refine wpAny_pure ⟨_, rfl, hQ _ h1.objs.size out.toArray c (fun b u e => ?_) rfl rfl hz hc (by simpa using vals_text outs)⟩
    have q := k1 b u e
    have hlt := Heap.lt_size q
    show (sortedHeap (h1.push (seqObj "list" ys.toList.toArray 0)) h1.objs.size ys.toList out.toArray).get? b = some u
    rw [sortedHeap_old (Nat.ne_of_lt hlt) (by rw [size_push']; exact Nat.lt_succ_of_lt hlt)]
    exact Heap.get?_push_of_some _ q
end
section
variable {X : Cx}
def rSortSq (K : PySem.W.Frag) : List V → Hp → VK → Prop := fun vs H Q => ∃ (a : Addr) (xs : List Str), vs = [V.ref a] ∧ (SqL K H a (xs.map V.str) ∨ SqT K H a (xs.map V.str)) ∧ xs.length ≤ 100000 ∧
  ∀ (p : Addr), H p = none → Q (.ref p) (upd H p (.lst ((xs.mergeSort leS).map V.str)))
theorem cr_sortSq (hu : X.A.units + 64 < cLine) : CallR X (.builtin "sorted") (rSortSq X.K) := by
  intro pins s σ H vs us Q I r h
  obtain ⟨a, xs, rfl, hq, small, q⟩ := h
  rw [Vals.ref1 r]
  have line : ((xs.mergeSort leS).map V.str).length ≤ sizeLine := by rw [List.length_map, List.length_mergeSort]; exact Nat.le_trans small (by decide)
  have fin : ∀ s' p (out : Array Value) (c : Nat), (∀ b o, s.heap.get? b = some o → s'.heap.get? b = some o) → s'.gens = s.gens → s'.os = s.os → s.heap.objs.size ≤ p →
      s'.heap.get? p = some (seqObj "list" out c) → Vals ((xs.mergeSort leS).map V.str) out.toList → EP X pins σ Q (.ref p) s' := fun s' p out c k g o hp hg hv => by
    have free : H p = none := I.hok.fresh hp
    have J : Inv X pins σ (upd H p (.lst ((xs.mergeSort leS).map V.str))) { s with heap := s'.heap, gens := s'.gens, drawn := s'.drawn, toks := s'.toks } :=
      I.call (ch := []) (Un.laid k hp free) (I.hok.laid k hp ⟨line, out.toList, c, hv, hg⟩) (by rw [g]; exact I.bare) (fun _ z => nomatch z)
    have same : s' = { s with heap := s'.heap, gens := s'.gens, drawn := s'.drawn, toks := s'.toks } := by
      cases s'
      cases s
      cases o
      rfl
    rw [same]
    exact ⟨.ref p, _, J, rfl, q p free⟩
  rcases hq with hq | hq
  · obtain ⟨its, rv, pl, hz⟩ := I.list hq
    obtain ⟨o, ho, hc, n, hd⟩ := pl.isList
    exact sorted_seq (.inl rfl) ho hc hd (by simpa using rv) small hu fin
  · obtain ⟨its, rv, pl, hz⟩ := I.tuple hq
    obtain ⟨o, ho, hc, n, hd⟩ := pl
    exact sorted_seq (.inr rfl) ho hc hd (by simpa using rv) small hu fin
end
end My
namespace My
open PySem PySem.Spec PyProof.Rows L2
section
variable {X : Cx}
theorem kit_noL {K : PySem.W.Frag} {C : Addr} (h1 : PySem.W.isClsIn K C = true) (h2 : PySem.W.typeIn K (.ref C) = some (.type "type")) (h3 : PySem.W.subIn K (.type "list") (.ref C) = some false) : PySem.W.kitOne K (.type "list") (.ref C) = some false := by
  unfold PySem.W.kitOne
  rw [if_neg (by simp)]
  show (if ((PySem.W.clsIn K C).isSome && PySem.W.typeIn K (.ref C) == some (.type "type")) = true then PySem.W.subIn K (.type "list") (.ref C) else none) = some false
  have h1' : (PySem.W.clsIn K C).isSome = true := h1
  rw [h1', h2, if_pos (by simp)]
  exact h3
/-- == of an instance with an own __eq__ and a list -/
theorem op_eqLst {CX : CXT} {k : Nat} {C f : Addr} {fd : FuncData} {ps : List Str} {sp : Sp} {E : XK} (F : FnOk X.prog X.w X.K X.mg X.base CX k f fd ps sp) (hr : Room k X.A)
    (hs : PySem.W.findIn X.K (.ref C) "__eq__" = some (some (.ref f))) (hf : PySem.W.isFn X.K (.ref f) = true) (hnf : PySem.W.notFirst X.K C (.type "list") = true) (hb : Binds X.K fd ps []) (hx : Passes CX X E) :
    OpR X (compareOp .Eq) (fun x y H Q => ∃ a d dx fs xs, x = .ref a ∧ y = .ref d ∧ H a = some (.ins C dx fs) ∧ H d = some (.lst xs) ∧ sp [x, y] H (fun v H' => ∃ c, v = .bl c ∧ Q (.bl c) H') E) := by
  intro pins s σ H x y v u Q I rx ry h
  obtain ⟨a, b, dx, fs, xs, rfl, rfl, ha, hb', hsp⟩ := h
  cases rx
  cases ry
  show wpAny (model X.prog X.w) X.A (richCompare .Eq (.ref a) (.ref b)) (EP X pins σ Q) X.xe s
  obtain ⟨_, J, _⟩ := ins_get I.hok ha
  obtain ⟨_, J, _⟩ := J.look
  obtain ⟨_, its, _, _, e⟩ := (show ObjOk X.prog X.w H s.heap b (.lst xs) from I.hok b _ hb')
  have hty : PySem.W.Looks (model X.prog X.w) s.heap (typeOf (.ref b)) (.type "list") := (PySem.W.Looks.ld e).andThen .now
  obtain ⟨m, hF⟩ := I.fr
  refine PySem.W.cmp_K (op := .Eq) (tb := .type "list") hr.units0 hF I.ok.mod.kin J hty hnf hs hf ?_
  have vals : Vals [V.ref a, V.ref b] [Value.ref a, Value.ref b] := .cons rfl (.cons rfl .nil)
  have e0 : Env0 X.prog X.w X.K X.mg X.base X.A X.stack s H := I.env0
  have hl := F.len _ _ _ _ hsp
  refine wpAny_call (codeAny_mono (F.run X.A X.stack s H ⟨[.ref a, .ref b], []⟩ [.ref a, .ref b] [.ref a, .ref b] _ E hr e0 (by
    have bd := hb s [.ref a, .ref b] I.kIn (by simpa using hl)
    simpa using bd) vals hsp) fun r s' hq => ?_)
  cases r with
  | error e => exact hx pins σ H s e s' I hq
  | ok fl =>
    cases fl with
    | ret w =>
      obtain ⟨z, H', I', rz, c, ez, qz⟩ := I.after hq
      subst ez
      cases rz
      exact ⟨.bl c, H', I', rfl, qz⟩
    | next => exact False.elim hq
    | brk => exact False.elim hq
    | cont => exact False.elim hq
end
end My
namespace My
open PySem L2 PyProof.Rows
def topS (i : Nat) : Stmt := PySem.Challenge.pw_suretexts_k26_whole_piece_webs.main.body.getD i (.Pass ⟨0, 0, 0, 0⟩)
abbrev s_wall : Stmt := topS 0
theorem sc_wall : FnScope ["k"] ["k"] (defScope s_wall) := ⟨rfl, rfl, rfl, by decide +kernel, rfl, by decide +kernel, by decide +kernel⟩
abbrev sis_integer : Stmt := topS 14
theorem scis_integer : FnScope ["value"] ["value"] (defScope sis_integer) := ⟨rfl, rfl, rfl, by decide +kernel, rfl, by decide +kernel, by decide +kernel⟩
abbrev sis_count : Stmt := topS 15
theorem scis_count : FnScope ["value"] ["value"] (defScope sis_count) := ⟨rfl, rfl, rfl, by decide +kernel, rfl, by decide +kernel, by decide +kernel⟩
abbrev sis_between : Stmt := topS 16
theorem scis_between : FnScope ["value", "least", "most"] ["value", "least", "most"] (defScope sis_between) := ⟨rfl, rfl, rfl, by decide +kernel, rfl, by decide +kernel, by decide +kernel⟩
abbrev sis_below : Stmt := topS 17
theorem scis_below : FnScope ["value", "limit"] ["value", "limit"] (defScope sis_below) := ⟨rfl, rfl, rfl, by decide +kernel, rfl, by decide +kernel, by decide +kernel⟩
abbrev sis_size : Stmt := topS 18
theorem scis_size : FnScope ["value"] ["value"] (defScope sis_size) := ⟨rfl, rfl, rfl, by decide +kernel, rfl, by decide +kernel, by decide +kernel⟩
abbrev sis_listed : Stmt := topS 19
theorem scis_listed : FnScope ["value"] ["value"] (defScope sis_listed) := ⟨rfl, rfl, rfl, by decide +kernel, rfl, by decide +kernel, by decide +kernel⟩
abbrev sis_letter : Stmt := topS 20
theorem scis_letter : FnScope ["sign"] ["sign"] (defScope sis_letter) := ⟨rfl, rfl, rfl, by decide +kernel, rfl, by decide +kernel, by decide +kernel⟩
abbrev sis_text : Stmt := topS 23
theorem scis_text : FnScope ["value", "sign"] ["value"] (defScope sis_text) := ⟨rfl, rfl, rfl, by decide +kernel, rfl, by decide +kernel, by decide +kernel⟩
abbrev sneed_text : Stmt := topS 24
theorem scneed_text : FnScope ["text"] ["text"] (defScope sneed_text) := ⟨rfl, rfl, rfl, by decide +kernel, rfl, by decide +kernel, by decide +kernel⟩
abbrev swords_of : Stmt := topS 28
theorem scwords_of : FnScope ["pieces", "piece"] ["pieces"] (defScope swords_of) := ⟨rfl, rfl, rfl, by decide +kernel, rfl, by decide +kernel, by decide +kernel⟩
abbrev sare_pieces : Stmt := topS 29
theorem scare_pieces : FnScope ["value", "piece"] ["value"] (defScope sare_pieces) := ⟨rfl, rfl, rfl, by decide +kernel, rfl, by decide +kernel, by decide +kernel⟩
abbrev sneed_pieces : Stmt := topS 30
theorem scneed_pieces : FnScope ["pieces"] ["pieces"] (defScope sneed_pieces) := ⟨rfl, rfl, rfl, by decide +kernel, rfl, by decide +kernel, by decide +kernel⟩
abbrev spieces_along : Stmt := topS 31
theorem scpieces_along : FnScope ["text", "size", "place"] ["text", "size"] (defScope spieces_along) := ⟨rfl, rfl, rfl, by decide +kernel, rfl, by decide +kernel, by decide +kernel⟩
abbrev sare_ties : Stmt := topS 36
theorem scare_ties : FnScope ["places", "value", "tie"] ["places", "value"] (defScope sare_ties) := ⟨rfl, rfl, rfl, by decide +kernel, rfl, by decide +kernel, by decide +kernel⟩
abbrev sneed_web : Stmt := topS 38
theorem scneed_web : FnScope ["web"] ["web"] (defScope sneed_web) := ⟨rfl, rfl, rfl, by decide +kernel, rfl, by decide +kernel, by decide +kernel⟩
abbrev sneed_place : Stmt := topS 39
theorem scneed_place : FnScope ["web", "place"] ["web", "place"] (defScope sneed_place) := ⟨rfl, rfl, rfl, by decide +kernel, rfl, by decide +kernel, by decide +kernel⟩
abbrev sneed_tie : Stmt := topS 40
theorem scneed_tie : FnScope ["web", "tie"] ["web", "tie"] (defScope sneed_tie) := ⟨rfl, rfl, rfl, by decide +kernel, rfl, by decide +kernel, by decide +kernel⟩
abbrev sare_numbers : Stmt := topS 41
theorem scare_numbers : FnScope ["web", "value", "tie"] ["web", "value"] (defScope sare_numbers) := ⟨rfl, rfl, rfl, by decide +kernel, rfl, by decide +kernel, by decide +kernel⟩
abbrev s_go_on : Stmt := topS 42
theorem sc_go_on : FnScope ["web", "value", "longest", "ties", "at"] ["web", "value", "longest"] (defScope s_go_on) := ⟨rfl, rfl, rfl, by decide +kernel, rfl, by decide +kernel, by decide +kernel⟩
abbrev sis_walk : Stmt := topS 43
theorem scis_walk : FnScope ["web", "value"] ["web", "value"] (defScope sis_walk) := ⟨rfl, rfl, rfl, by decide +kernel, rfl, by decide +kernel, by decide +kernel⟩
abbrev sneed_walk : Stmt := topS 44
theorem scneed_walk : FnScope ["web", "walk"] ["web", "walk"] (defScope sneed_walk) := ⟨rfl, rfl, rfl, by decide +kernel, rfl, by decide +kernel, by decide +kernel⟩
abbrev scopied_web : Stmt := topS 45
theorem sccopied_web : FnScope ["web"] ["web"] (defScope scopied_web) := ⟨rfl, rfl, rfl, by decide +kernel, rfl, by decide +kernel, by decide +kernel⟩
abbrev s_web_of : Stmt := topS 47
theorem sc_web_of : FnScope ["words", "pieces", "places", "place", "word", "piece"] ["words", "pieces"] (defScope s_web_of) := ⟨rfl, rfl, rfl, by decide +kernel, rfl, by decide +kernel, by decide +kernel⟩
abbrev s_need_letters : Stmt := topS 48
theorem sc_need_letters : FnScope ["many"] ["many"] (defScope s_need_letters) := ⟨rfl, rfl, rfl, by decide +kernel, rfl, by decide +kernel, by decide +kernel⟩
abbrev s_law_pot : Stmt := topS 51
theorem sc_law_pot : FnScope ["_law_script", "_law_k", "_law_cell", "_law_mixed"] ["_law_script", "_law_k"] (defScope s_law_pot) := ⟨rfl, rfl, rfl, by decide +kernel, rfl, by decide +kernel, by decide +kernel⟩
abbrev s_law_draw : Stmt := topS 52
theorem sc_law_draw : FnScope ["_law_pot_here", "_law_size", "_law_digit"] ["_law_pot_here", "_law_size"] (defScope s_law_draw) := ⟨rfl, rfl, rfl, by decide +kernel, rfl, by decide +kernel, by decide +kernel⟩
abbrev s_law_pick : Stmt := topS 53
theorem sc_law_pick : FnScope ["_law_pot_here", "_law_some"] ["_law_pot_here", "_law_some"] (defScope s_law_pick) := ⟨rfl, rfl, rfl, by decide +kernel, rfl, by decide +kernel, by decide +kernel⟩
abbrev s_law_pieces_drawn : Stmt := topS 54
theorem sc_law_pieces_drawn : FnScope ["_law_pot_here", "_law_size", "_law_most", "_law_letters", "_law_found", "_law_turn", "_law_piece", "_law_at"] ["_law_pot_here", "_law_size", "_law_most"] (defScope s_law_pieces_drawn) := ⟨rfl, rfl, rfl, by decide +kernel, rfl, by decide +kernel, by decide +kernel⟩
abbrev s_law_words : Stmt := topS 55
theorem sc_law_words : FnScope ["_law_pieces", "_law_piece"] ["_law_pieces"] (defScope s_law_words) := ⟨rfl, rfl, rfl, by decide +kernel, rfl, by decide +kernel, by decide +kernel⟩
abbrev s_law_ties : Stmt := topS 56
theorem sc_law_ties : FnScope ["_law_pieces", "_law_words_here", "_law_piece"] ["_law_pieces"] (defScope s_law_ties) := ⟨rfl, rfl, rfl, by decide +kernel, rfl, by decide +kernel, by decide +kernel⟩
abbrev s_law_grown : Stmt := topS 57
theorem sc_law_grown : FnScope ["_law_pot_here", "_law_ties_here", "_law_many", "_law_found", "_law_turn", "_law_here", "_law_some", "_law_number", "_law_tie"] ["_law_pot_here", "_law_ties_here", "_law_many"] (defScope s_law_grown) := ⟨rfl, rfl, rfl, by decide +kernel, rfl, by decide +kernel, by decide +kernel⟩
abbrev s_law_text : Stmt := topS 58
theorem sc_law_text : FnScope ["_law_pieces", "_law_walk", "_law_found", "_law_number"] ["_law_pieces", "_law_walk"] (defScope s_law_text) := ⟨rfl, rfl, rfl, by decide +kernel, rfl, by decide +kernel, by decide +kernel⟩
abbrev s_law_walk_of : Stmt := topS 59
theorem sc_law_walk_of : FnScope ["_law_pieces", "_law_text_here", "_law_size", "_law_found", "_law_at", "_law_piece"] ["_law_pieces", "_law_text_here"] (defScope s_law_walk_of) := ⟨rfl, rfl, rfl, by decide +kernel, rfl, by decide +kernel, by decide +kernel⟩
abbrev s_law_bent : Stmt := topS 60
theorem sc_law_bent : FnScope ["_law_pot_here", "_law_text_here", "_law_at", "_law_way", "_law_letter"] ["_law_pot_here", "_law_text_here"] (defScope s_law_bent) := ⟨rfl, rfl, rfl, by decide +kernel, rfl, by decide +kernel, by decide +kernel⟩
abbrev s_law_texts_right : Stmt := topS 61
theorem sc_law_texts_right : FnScope ["_law_pot_here", "_law_web", "_law_pieces", "_law_ties_here", "_law_turn", "_law_walk", "_law_text_here", "_law_told", "_law_one"] ["_law_pot_here", "_law_web", "_law_pieces", "_law_ties_here"] (defScope s_law_texts_right) := ⟨rfl, rfl, rfl, by decide +kernel, rfl, by decide +kernel, by decide +kernel⟩
abbrev s_law_right : Stmt := topS 62
theorem sc_law_right : FnScope ["_law_pot_here", "_law_size", "_law_drawn", "_law_pieces", "_law_web", "_law_words_here", "_law_ties_here", "_law_other", "_law_at", "_law_piece"] ["_law_pot_here"] (defScope s_law_right) := ⟨rfl, rfl, rfl, by decide +kernel, rfl, by decide +kernel, by decide +kernel⟩
abbrev slaw : Stmt := topS 63
theorem sclaw : FnScope ["_law_script"] ["_law_script"] (defScope slaw) := ⟨rfl, rfl, rfl, by decide +kernel, rfl, by decide +kernel, by decide +kernel⟩
abbrev sWeb___init__ : Stmt := inClass (topS 37) 0
theorem scWeb___init__ : FnScope ["self", "places", "ties", "tie", "ends", "_"] ["self", "places", "ties"] (defScope sWeb___init__) := ⟨rfl, rfl, rfl, by decide +kernel, rfl, by decide +kernel, by decide +kernel⟩
abbrev sWeb___eq__ : Stmt := inClass (topS 37) 1
theorem scWeb___eq__ : FnScope ["self", "other"] ["self", "other"] (defScope sWeb___eq__) := ⟨rfl, rfl, rfl, by decide +kernel, rfl, by decide +kernel, by decide +kernel⟩
abbrev sWeb_places : Stmt := inClass (topS 37) 2
theorem scWeb_places : FnScope ["self"] ["self"] (defScope sWeb_places) := ⟨rfl, rfl, rfl, by decide +kernel, rfl, by decide +kernel, by decide +kernel⟩
abbrev sWeb_many : Stmt := inClass (topS 37) 3
theorem scWeb_many : FnScope ["self"] ["self"] (defScope sWeb_many) := ⟨rfl, rfl, rfl, by decide +kernel, rfl, by decide +kernel, by decide +kernel⟩
abbrev sWeb_ties : Stmt := inClass (topS 37) 4
theorem scWeb_ties : FnScope ["self"] ["self"] (defScope sWeb_ties) := ⟨rfl, rfl, rfl, by decide +kernel, rfl, by decide +kernel, by decide +kernel⟩
abbrev sWeb_ties_from : Stmt := inClass (topS 37) 5
theorem scWeb_ties_from : FnScope ["self", "place"] ["self", "place"] (defScope sWeb_ties_from) := ⟨rfl, rfl, rfl, by decide +kernel, rfl, by decide +kernel, by decide +kernel⟩
abbrev sWeb_ties_to : Stmt := inClass (topS 37) 6
theorem scWeb_ties_to : FnScope ["self", "place"] ["self", "place"] (defScope sWeb_ties_to) := ⟨rfl, rfl, rfl, by decide +kernel, rfl, by decide +kernel, by decide +kernel⟩
abbrev sPieceWeb___init__ : Stmt := inClass (topS 49) 0
theorem scPieceWeb___init__ : FnScope ["self", "pieces"] ["self", "pieces"] (defScope sPieceWeb___init__) := ⟨rfl, rfl, rfl, by decide +kernel, rfl, by decide +kernel, by decide +kernel⟩
abbrev sPieceWeb___eq__ : Stmt := inClass (topS 49) 1
theorem scPieceWeb___eq__ : FnScope ["self", "other"] ["self", "other"] (defScope sPieceWeb___eq__) := ⟨rfl, rfl, rfl, by decide +kernel, rfl, by decide +kernel, by decide +kernel⟩
abbrev sPieceWeb_size : Stmt := inClass (topS 49) 2
theorem scPieceWeb_size : FnScope ["self"] ["self"] (defScope sPieceWeb_size) := ⟨rfl, rfl, rfl, by decide +kernel, rfl, by decide +kernel, by decide +kernel⟩
abbrev sPieceWeb_web : Stmt := inClass (topS 49) 3
theorem scPieceWeb_web : FnScope ["self"] ["self"] (defScope sPieceWeb_web) := ⟨rfl, rfl, rfl, by decide +kernel, rfl, by decide +kernel, by decide +kernel⟩
abbrev sPieceWeb_pieces : Stmt := inClass (topS 49) 4
theorem scPieceWeb_pieces : FnScope ["self"] ["self"] (defScope sPieceWeb_pieces) := ⟨rfl, rfl, rfl, by decide +kernel, rfl, by decide +kernel, by decide +kernel⟩
abbrev sPieceWeb_words : Stmt := inClass (topS 49) 5
theorem scPieceWeb_words : FnScope ["self"] ["self"] (defScope sPieceWeb_words) := ⟨rfl, rfl, rfl, by decide +kernel, rfl, by decide +kernel, by decide +kernel⟩
abbrev sPieceWeb_word_at : Stmt := inClass (topS 49) 6
theorem scPieceWeb_word_at : FnScope ["self", "place"] ["self", "place"] (defScope sPieceWeb_word_at) := ⟨rfl, rfl, rfl, by decide +kernel, rfl, by decide +kernel, by decide +kernel⟩
abbrev sPieceWeb_letter_of : Stmt := inClass (topS 49) 7
theorem scPieceWeb_letter_of : FnScope ["self", "tie"] ["self", "tie"] (defScope sPieceWeb_letter_of) := ⟨rfl, rfl, rfl, by decide +kernel, rfl, by decide +kernel, by decide +kernel⟩
abbrev sPieceWeb_text_of : Stmt := inClass (topS 49) 8
theorem scPieceWeb_text_of : FnScope ["self", "walk"] ["self", "walk"] (defScope sPieceWeb_text_of) := ⟨rfl, rfl, rfl, by decide +kernel, rfl, by decide +kernel, by decide +kernel⟩
abbrev sPieceWeb_ring_of : Stmt := inClass (topS 49) 9
theorem scPieceWeb_ring_of : FnScope ["self", "tour"] ["self", "tour"] (defScope sPieceWeb_ring_of) := ⟨rfl, rfl, rfl, by decide +kernel, rfl, by decide +kernel, by decide +kernel⟩
abbrev sPieceWeb_walk_of : Stmt := inClass (topS 49) 10
theorem scPieceWeb_walk_of : FnScope ["self", "text"] ["self", "text"] (defScope sPieceWeb_walk_of) := ⟨rfl, rfl, rfl, by decide +kernel, rfl, by decide +kernel, by decide +kernel⟩
abbrev sPieceWeb_round_of : Stmt := inClass (topS 49) 11
theorem scPieceWeb_round_of : FnScope ["self", "ring"] ["self", "ring"] (defScope sPieceWeb_round_of) := ⟨rfl, rfl, rfl, by decide +kernel, rfl, by decide +kernel, by decide +kernel⟩
abbrev sPieceWeb__letters_of : Stmt := inClass (topS 49) 12
theorem scPieceWeb__letters_of : FnScope ["self", "ties", "tie"] ["self", "ties"] (defScope sPieceWeb__letters_of) := ⟨rfl, rfl, rfl, by decide +kernel, rfl, by decide +kernel, by decide +kernel⟩
abbrev sPieceWeb__ties_along : Stmt := inClass (topS 49) 13
theorem scPieceWeb__ties_along : FnScope ["self", "text", "numbers", "tie", "piece", "read"] ["self", "text"] (defScope sPieceWeb__ties_along) := ⟨rfl, rfl, rfl, by decide +kernel, rfl, by decide +kernel, by decide +kernel⟩
structure Bs (mg : Str → Option Value) : Prop where
  isinstance : mg "isinstance" = none
  int : mg "int" = none
  bool : mg "bool" = none
  str : mg "str" = none
  list : mg "list" = none
  tuple : mg "tuple" = none
  len : mg "len" = none
  range : mg "range" = none
  abs : mg "abs" = none
  max : mg "max" = none
  divmod : mg "divmod" = none
  enumerate : mg "enumerate" = none
  all : mg "all" = none
  sorted : mg "sorted" = none
  set : mg "set" = none
structure Glo (mg : Str → Option Value) : Prop where
  MOST_PLACES : ∃ t, mg "MOST_PLACES" = some (.int 60 t)
  MOST_TIES : ∃ t, mg "MOST_TIES" = some (.int 80 t)
  LONGEST_WALK : ∃ t, mg "LONGEST_WALK" = some (.int 400 t)
  MOST_LETTERS : ∃ t, mg "MOST_LETTERS" = some (.int 400 t)
  MOST_PIECES : ∃ t, mg "MOST_PIECES" = some (.int 80 t)
  MOST_WORDS : ∃ t, mg "MOST_WORDS" = some (.int 60 t)
structure WebK (K : PySem.W.Frag) (mg : Str → Option Value) (C : Addr) : Prop where
  cl : Cls K C
  nP : NoAttr K C "_places"
  nT : NoAttr K C "_ties"
  nF : NoAttr K C "_ties_from"
  nO : NoAttr K C "_ties_to"
  mgC : mg "Web" = some (.ref C)
  i1 : PySem.W.findIn K (.ref C) "__class__" = some (some (.builtin "object.__class__"))
  i2 : PySem.W.specialIn K (.builtin "object.__class__") "__get__" = some (some (.builtin "getset_descriptor.__get__"))
  i3 : PySem.W.takesIn K (.builtin "object.__class__") = some true
  i4 : PySem.W.mroIn K C (.type "object") = some true
  i5 : PySem.W.kitOne K (.ref C) (.ref C) = some true
  ne : PySem.W.findIn K (.ref C) "__ne__" = some (some (.builtin "object.__ne__"))
structure PieceK (K : PySem.W.Frag) (mg : Str → Option Value) (C : Addr) : Prop where
  cl : Cls K C
  nP : NoAttr K C "_pieces"
  nW : NoAttr K C "_words"
  nB : NoAttr K C "_web"
  mgC : mg "PieceWeb" = some (.ref C)
  i1 : PySem.W.findIn K (.ref C) "__class__" = some (some (.builtin "object.__class__"))
  i2 : PySem.W.specialIn K (.builtin "object.__class__") "__get__" = some (some (.builtin "getset_descriptor.__get__"))
  i3 : PySem.W.takesIn K (.builtin "object.__class__") = some true
  i4 : PySem.W.mroIn K C (.type "object") = some true
  i5 : PySem.W.kitOne K (.ref C) (.ref C) = some true
  ne : PySem.W.findIn K (.ref C) "__ne__" = some (some (.builtin "object.__ne__"))
  nl : PySem.W.notFirst K C (.type "list") = true
  kl : PySem.W.kitOne K (.type "list") (.ref C) = some false
abbrev iv (L : List Nat) : List V := L.map fun n : Nat => V.int (n : Int)
theorem same_new {H : Hp} {p : Addr} (h : H p = none) (o : HO) : Same H (upd H p o) := fun b u q => by rw [upd_ne (ne_of_none q h)]; exact q
theorem iteNo {c A B : Prop} [Decidable c] (h : ¬ c) (b : B) : if decide c = true then A else B := by
  rw [decide_eq_false h]
  exact iteF b
theorem iteNot {c A B : Prop} [Decidable c] (h : ¬ c) (a : A) : if (!decide c) = true then A else B := by
  rw [decide_eq_false h]
  exact iteT a
theorem iteNot' {c A B : Prop} [Decidable c] (h : c) (b : B) : if (!decide c) = true then A else B := by
  rw [decide_eq_true h]
  exact iteF b
theorem iteNN {c A B : Prop} [Decidable c] (h : ¬ c) (b : B) : if (!!decide c) = true then A else B := by
  rw [decide_eq_false h]
  exact iteF b
theorem iv_at {L : List Nat} {j b : Nat} (h : L[j]? = some b) : atI (iv L) (j : Int) = some (.int (b : Int)) := by
  refine atI_nat ?_
  rw [iv, List.getElem?_map, h]
  rfl
theorem iv_app (L : List Nat) (n : Nat) : iv (L ++ [n]) = iv L ++ [V.int (n : Int)] := by
  unfold iv
  rw [List.map_append]
  rfl
theorem same_upd {H H' : Hp} {p : Addr} {o : HO} (h : Same H H') (np : H p = none) : Same H (upd H' p o) := fun b u q => by
  rw [upd_ne (ne_of_none q np)]
  exact h b u q
theorem iteYes {c A B : Prop} [Decidable c] (h : c) (a : A) : if decide c = true then A else B := by
  rw [decide_eq_true h]
  exact iteT a
theorem bl_true {c : Prop} [Decidable c] {Q : VK} {H : Hp} (h : c) (q : Q (.bl true) H) : Q (.bl (decide c)) H := by
  rw [decide_eq_true h]
  exact q
theorem int_eq {a b : Int} : V.int a = V.int b ↔ a = b := ⟨fun h => V.int.inj h, fun h => by rw [h]⟩
/-! ### lists of ints compared -/
abbrev iz (L : List Int) : List V := L.map V.int
theorem iv_iz (L : List Nat) : iv L = iz (L.map fun n : Nat => (n : Int)) := by
  unfold iv iz
  rw [List.map_map]
  rfl
abbrev dz (L : List Int) : PyData := .list (L.map PyData.int)
theorem dpAll_iz {K : PySem.W.Frag} {H : Hp} : ∀ L : List Int, DpAll K H (iz L) (L.map PyData.int)
  | [] => .nil
  | n :: r => .cons (.int n) (dpAll_iz r)
theorem dp_iz {K : PySem.W.Frag} {H : Hp} {p : Addr} {L : List Int} (h : H p = some (.lst (iz L))) : Dp K H (.ref p) (dz L) := .lst (SqL.of h) (dpAll_iz L)
theorem layAll_iz : ∀ L : List Int, PyData.canLayAll0 (L.map PyData.int) = true
  | [] => rfl
  | n :: r => by
    show (PyData.canLay0 (.int n) && PyData.canLayAll0 (r.map PyData.int)) = true
    rw [layAll_iz r]
    rfl
theorem depthAll_iz : ∀ L : List Int, PyData.depthAll (L.map PyData.int) = 0
  | [] => rfl
  | n :: r => by
    show max (PyData.depth (.int n)) (PyData.depthAll (r.map PyData.int)) = 0
    rw [depthAll_iz r]
    rfl
theorem shaped_iz (L : List Int) : SeqAt.shaped (dz L) = true := by
  unfold SeqAt.shaped
  have h1 : PyData.canLay0 (dz L) = true := by
    show PyData.canLay0 (.list (L.map PyData.int)) = true
    unfold PyData.canLay0
    exact layAll_iz L
  have h2 : PyData.depth (dz L) = 1 := by
    show PyData.depth (.list (L.map PyData.int)) = 1
    unfold PyData.depth
    rw [depthAll_iz]
  rw [h1, h2]
  rfl
theorem eqv_same (L : List Int) : PyData.eqv (dz L) (dz L) = true := by
  have h1 : PyData.canLay0 (dz L) = true := by
    show PyData.canLay0 (.list (L.map PyData.int)) = true
    unfold PyData.canLay0
    exact layAll_iz L
  exact SeqAt.eqv_refl _ h1
theorem eqv_empty (L : List Int) : PyData.eqv (dz L) (dz []) = decide (L = []) := by
  cases L with
  | nil => rfl
  | cons n r => rfl
theorem iteNb {x : Bool} {A B : Prop} (h : x = true) (b : B) : if (!x) = true then A else B := by
  rw [h]
  exact iteF b
theorem bl_is {x : Bool} {Q : VK} {H : Hp} (h : x = true) (q : Q (.bl true) H) : Q (.bl x) H := by
  rw [h]
  exact q
/-! ### webs in the heap -/
def Kept (a : Addr) (H H' : Hp) : Prop := ∀ b o, H b = some o → b ≠ a → H' b = some o
theorem Kept.trans {a : Addr} {H H1 H2 : Hp} (h : Kept a H H1) (h2 : Kept a H1 H2) : Kept a H H2 := fun b o e n => h2 b o (h b o e n) n
theorem Same.kept {a : Addr} {H H' : Hp} (h : Same H H') : Kept a H H' := fun b o e _ => h b o e
theorem paired_get {α β : Type} {F : α → β → Prop} : ∀ {l1 : List α} {l2 : List β} {i : Nat} {a : α}, Paired F l1 l2 → l1[i]? = some a → ∃ b, l2[i]? = some b ∧ F a b
  | _, _, _, _, .nil, h => by simp at h
  | _, _, 0, _, .cons r _, h => ⟨_, rfl, by cases h; exact r⟩
  | _, _, i + 1, _, .cons _ t, h => by
    obtain ⟨b, h1, h2⟩ := paired_get (i := i) t (by simpa using h)
    exact ⟨b, by simpa using h1, h2⟩
theorem paired_mono {α β : Type} {F G : α → β → Prop} (h : ∀ a b, F a b → G a b) : ∀ {l1 : List α} {l2 : List β}, Paired F l1 l2 → Paired G l1 l2
  | _, _, .nil => .nil
  | _, _, .cons a r => .cons (h _ _ a) (paired_mono h r)
theorem paired_len {α β : Type} {F : α → β → Prop} : ∀ {l1 : List α} {l2 : List β}, Paired F l1 l2 → l1.length = l2.length
  | _, _, .nil => rfl
  | _, _, .cons _ r => congrArg Nat.succ (paired_len r)
def TupAt (H : Hp) (p : Addr) (e : Nat × Nat) : Prop := H p = some (.tup [.int (e.1 : Int), .int (e.2 : Int)])
def TiesAt (H : Hp) (t : Addr) (ts : List (Nat × Nat)) : Prop := ∃ tas : List Addr, H t = some (.lst (tas.map V.ref)) ∧ Paired (TupAt H) tas ts
theorem TiesAt.same {H H' : Hp} {t : Addr} {ts : List (Nat × Nat)} (h : TiesAt H t ts) (s : Same H H') : TiesAt H' t ts := by
  obtain ⟨tas, h1, h2⟩ := h
  exact ⟨tas, s _ _ h1, paired_mono (fun p e hp => s _ _ hp) h2⟩
structure OkWeb (N : Nat) (ts : List (Nat × Nat)) : Prop where
  n0 : 0 < N
  n1 : N ≤ 60
  m : ts.length ≤ 80
  ok : ∀ e ∈ ts, e.1 < N ∧ e.2 < N
section
variable {P : Program} {w : World} {K : PySem.W.Frag} {mg : Str → Option Value} {base : Heap} {C C2 : Addr}
def spis_integer (_ : PySem.W.Frag) (_ _ : Addr) : Sp := fun vs H Q _ => ∃ n : Int, vs = [.int n] ∧ Q (.bl true) H
theorem okis_integer (D : Def K mg "is_integer" sis_integer ["value"]) (B : Bs mg) (Glb : Glo mg) (WK : WebK K mg C) (PK : PieceK K mg C2) :
    Good P w K mg base "is_integer" sis_integer ["value"] 1 (spis_integer K C C2) := by
  refine D.good fun f fd F => ?_
  refine F.ok scis_integer (fun vs H Q E h => ?_) (fun cdv A outer s H vs Q E hr h => ?_)
  · obtain ⟨n, rfl, q⟩ := h
    first | rfl | (rcases h with ⟨_, _, rfl, _⟩ | ⟨_, rfl, _⟩ <;> rfl)
  obtain ⟨n, rfl, q⟩ := h
  refine ⟨_, (pss_one (ps_ret (pe_and (pe_callB call_isi (by rfl) B.isinstance (by decide +kernel) (pa_cons (pv 0) (pa_cons (pe_bltn (v := .ty "int") (by rfl) B.int (by decide +kernel) rfl) pa_nil))) (pe_one (pe_not (pe_callB call_isi (by rfl) B.isinstance (by decide +kernel) (pa_cons (pv 0) (pa_cons (pe_bltn (v := .ty "bool") (by rfl) B.bool (by decide +kernel) rfl) pa_nil)))))))), ?_⟩
  exact ⟨_, rfl, _, _, _, _, true, rfl, .ty _, .base (.int n), kit_ty (by decide +kernel), _, rfl, iteT ⟨_, rfl, _, _, _, _, false, rfl, .ty _, .base (.int n), kit_ty (by decide +kernel), _, rfl, q⟩⟩
def spis_count (_ : PySem.W.Frag) (_ _ : Addr) : Sp := fun vs H Q _ => ∃ n : Nat, vs = [.int (n : Int)] ∧ Q (.bl true) H
theorem okis_count (D : Def K mg "is_count" sis_count ["value"]) (B : Bs mg) (Glb : Glo mg) (WK : WebK K mg C) (PK : PieceK K mg C2)
    (his_integer : Good P w K mg base "is_integer" sis_integer ["value"] 1 (spis_integer K C C2)) :
    Good P w K mg base "is_count" sis_count ["value"] 2 (spis_count K C C2) := by
  refine D.good fun f fd F => ?_
  obtain ⟨fis_integer, dis_integer, Ois_integer, mis_integer, kis_integer, bis_integer, Fis_integer⟩ := his_integer
  refine F.ok scis_count (fun vs H Q E h => ?_) (fun cdv A outer s H vs Q E hr h => ?_)
  · obtain ⟨n, rfl, q⟩ := h
    first | rfl | (rcases h with ⟨_, _, rfl, _⟩ | ⟨_, rfl, _⟩ <;> rfl)
  obtain ⟨n, rfl, q⟩ := h
  refine ⟨_, (pss_one (ps_ret (pe_and (pe_call Ois_integer hr rfl mis_integer kis_integer bis_integer .nil pass0 (pa_cons (pv 0) pa_nil)) (pe_one (pe_cmpR op_ge (pv 0) pe_int (nomark _)))))), ?_⟩
  exact ⟨_, rfl, n, rfl, _, rfl, iteT ⟨_, rfl, _, _, rfl, rfl, bl_true (by omega) q⟩⟩
def spis_between (_ : PySem.W.Frag) (_ _ : Addr) : Sp := fun vs H Q _ => ∃ n a b : Int, vs = [.int n, .int a, .int b] ∧ a ≤ n ∧ n ≤ b ∧ Q (.bl true) H
theorem okis_between (D : Def K mg "is_between" sis_between ["value", "least", "most"]) (B : Bs mg) (Glb : Glo mg) (WK : WebK K mg C) (PK : PieceK K mg C2)
    (his_integer : Good P w K mg base "is_integer" sis_integer ["value"] 1 (spis_integer K C C2)) :
    Good P w K mg base "is_between" sis_between ["value", "least", "most"] 2 (spis_between K C C2) := by
  refine D.good fun f fd F => ?_
  obtain ⟨fis_integer, dis_integer, Ois_integer, mis_integer, kis_integer, bis_integer, Fis_integer⟩ := his_integer
  refine F.ok scis_between (fun vs H Q E h => ?_) (fun cdv A outer s H vs Q E hr h => ?_)
  · obtain ⟨n, a, b, rfl, h1, h2, q⟩ := h
    first | rfl | (rcases h with ⟨_, _, rfl, _⟩ | ⟨_, rfl, _⟩ <;> rfl)
  obtain ⟨n, a, b, rfl, h1, h2, q⟩ := h
  refine ⟨_, (pss_one (ps_ret (pe_and (pe_call Ois_integer hr rfl mis_integer kis_integer bis_integer .nil pass0 (pa_cons (pv 0) pa_nil)) (pe_one (pe_chain op_le op_le (pv 1) (pv 0) (pv 2)))))), ?_⟩
  exact ⟨_, rfl, n, rfl, _, rfl, iteT ⟨_, rfl, _, rfl, _, _, rfl, rfl, _, rfl, iteYes h1 ⟨_, rfl, _, _, rfl, rfl, bl_true h2 q⟩⟩⟩
def spis_below (_ : PySem.W.Frag) (_ _ : Addr) : Sp := fun vs H Q _ => ∃ n : Nat, ∃ m : Int, vs = [.int (n : Int), .int m] ∧ (n : Int) < m ∧ Q (.bl true) H
theorem okis_below (D : Def K mg "is_below" sis_below ["value", "limit"]) (B : Bs mg) (Glb : Glo mg) (WK : WebK K mg C) (PK : PieceK K mg C2)
    (his_count : Good P w K mg base "is_count" sis_count ["value"] 2 (spis_count K C C2)) :
    Good P w K mg base "is_below" sis_below ["value", "limit"] 3 (spis_below K C C2) := by
  refine D.good fun f fd F => ?_
  obtain ⟨fis_count, dis_count, Ois_count, mis_count, kis_count, bis_count, Fis_count⟩ := his_count
  refine F.ok scis_below (fun vs H Q E h => ?_) (fun cdv A outer s H vs Q E hr h => ?_)
  · obtain ⟨n, m, rfl, h1, q⟩ := h
    first | rfl | (rcases h with ⟨_, _, rfl, _⟩ | ⟨_, rfl, _⟩ <;> rfl)
  obtain ⟨n, m, rfl, h1, q⟩ := h
  refine ⟨_, (pss_one (ps_ret (pe_and (pe_call Ois_count hr rfl mis_count kis_count bis_count .nil pass0 (pa_cons (pv 0) pa_nil)) (pe_one (pe_cmpR op_lt (pv 0) (pv 1) (nomark _)))))), ?_⟩
  exact ⟨_, rfl, n, rfl, _, rfl, iteT ⟨_, rfl, _, rfl, _, _, rfl, rfl, bl_true h1 q⟩⟩
def spis_listed (_ : PySem.W.Frag) (_ _ : Addr) : Sp := fun vs H Q _ => ∃ a, vs = [.ref a] ∧ ((∃ xs, H a = some (.lst xs)) ∨ (∃ xs, H a = some (.tup xs))) ∧ ∀ H', Same H H' → Q (.bl true) H'
theorem okis_listed (D : Def K mg "is_listed" sis_listed ["value"]) (B : Bs mg) (Glb : Glo mg) (WK : WebK K mg C) (PK : PieceK K mg C2) :
    Good P w K mg base "is_listed" sis_listed ["value"] 1 (spis_listed K C C2) := by
  refine D.good fun f fd F => ?_
  refine F.ok scis_listed (fun vs H Q E h => ?_) (fun cdv A outer s H vs Q E hr h => ?_)
  · obtain ⟨a, rfl, ha, q⟩ := h
    first | rfl | (rcases h with ⟨_, _, rfl, _⟩ | ⟨_, rfl, _⟩ <;> rfl)
  obtain ⟨a, rfl, ha, q⟩ := h
  refine ⟨_, (pss_one (ps_ret (pe_callB call_isiT (by rfl) B.isinstance (by decide +kernel) (pa_cons (pv 0) (pa_cons (pe_tup (pa_cons (pe_bltn (v := .ty "list") (by rfl) B.list (by decide +kernel) rfl) (pa_cons (pe_bltn (v := .ty "tuple") (by rfl) B.tuple (by decide +kernel) rfl) pa_nil))) pa_nil))))), ?_⟩
  refine ⟨_, rfl, (by show 2 ≤ sizeLine; decide), fun tp ntp => ?_⟩
  rcases ha with ⟨xs, ha⟩ | ⟨xs, ha⟩
  · exact ⟨_, tp, [.ty "list", .ty "tuple"], .type "list", [.type "list", .type "tuple"], true, rfl, upd_same, .cons (.ty _) (.cons (.ty _) .nil), .base (.lst (same_new ntp _ _ _ ha)), kitAny_cons (b := true) (kit_ty (by decide +kernel)) (fun h => by cases h) (fun _ => rfl), q _ (same_new ntp _)⟩
  · exact ⟨_, tp, [.ty "list", .ty "tuple"], .type "tuple", [.type "list", .type "tuple"], true, rfl, upd_same, .cons (.ty _) (.cons (.ty _) .nil), .base (.tup (same_new ntp _ _ _ ha)), kitAny_cons (b := false) (kit_ty (by decide +kernel)) (fun _ => kitAny_cons (b := true) (kit_ty (by decide +kernel)) (fun h => by cases h) (fun _ => rfl)) (fun h => by cases h), q _ (same_new ntp _)⟩
def spare_ties (_ : PySem.W.Frag) (_ _ : Addr) : Sp := fun vs H Q _ => ∃ N : Nat, ∃ t ts, vs = [.int (N : Int), .ref t] ∧ OkWeb N ts ∧ TiesAt H t ts ∧ ∀ H', Same H H' → Q (.bl true) H'
theorem okare_ties (D : Def K mg "are_ties" sare_ties ["places", "value"]) (B : Bs mg) (Glb : Glo mg) (WK : WebK K mg C) (PK : PieceK K mg C2)
    (his_listed : Good P w K mg base "is_listed" sis_listed ["value"] 1 (spis_listed K C C2))
    (his_below : Good P w K mg base "is_below" sis_below ["value", "limit"] 3 (spis_below K C C2)) :
    Good P w K mg base "are_ties" sare_ties ["places", "value"] 4 (spare_ties K C C2) := by
  refine D.good fun f fd F => ?_
  obtain ⟨fis_listed, dis_listed, Ois_listed, mis_listed, kis_listed, bis_listed, Fis_listed⟩ := his_listed
  obtain ⟨fis_below, dis_below, Ois_below, mis_below, kis_below, bis_below, Fis_below⟩ := his_below
  refine F.ok scare_ties (fun vs H Q E h => ?_) (fun cdv A outer s H vs Q E hr h => ?_)
  · obtain ⟨N, t, ts, rfl, ho, ⟨tas, ht, hP⟩, q⟩ := h
    first | rfl | (rcases h with ⟨_, _, rfl, _⟩ | ⟨_, rfl, _⟩ <;> rfl)
  obtain ⟨N, t, ts, rfl, ho, ⟨tas, ht, hP⟩, q⟩ := h
  refine ⟨_, (pss_cons (ps_if (PW.pt (pw_or (pt_not (pt_val (pe_call Ois_listed (hr.mono (by decide)) rfl mis_listed kis_listed bis_listed .nil pass0 (pa_cons (pv 1) pa_nil)))) (pw_or1 (pt_cmpR op_gt (pe_callB call_len_seq (by rfl) B.len (by decide +kernel) (pa_cons (pv 1) pa_nil)) (pe_globI Glb.MOST_TIES) (nomark _)))))
    (pss_one (ps_ret pe_bl)) pss_nil)
  (pss_cons (ps_for PassesOwn.never rfl (pi_list (pv 1)) (pg_name (i := 2) scare_ties.nd rfl (by first | exact Or.inl rfl | exact Or.inr rfl))
    (pss_cons (ps_if (PW.pt (pw_or (pt_not (pt_val (pe_callB call_isi (by rfl) B.isinstance (by decide +kernel) (pa_cons (pv 2) (pa_cons (pe_bltn (v := .ty "tuple") (by rfl) B.tuple (by decide +kernel) rfl) pa_nil))))) (pw_or1 (pt_cmpR op_ne (pe_callB call_len_seq (by rfl) B.len (by decide +kernel) (pa_cons (pv 2) pa_nil)) pe_int (nomark _)))))
    (pss_one (ps_ret pe_bl)) pss_nil)
  (pss_one (ps_if (PW.pt (pw_or (pt_not (pt_val (pe_call Ois_below hr rfl mis_below kis_below bis_below .nil pass0 (pa_cons (pe_ix ix_tup (pv 2) pe_int (fun _ _ => rfl)) (pa_cons (pv 0) pa_nil))))) (pw_or1 (pt_not (pt_val (pe_call Ois_below hr rfl mis_below kis_below bis_below .nil pass0 (pa_cons (pe_ix ix_tup (pv 2) pe_int (fun _ _ => rfl)) (pa_cons (pv 0) pa_nil))))))))
    (pss_one (ps_ret pe_bl)) pss_nil))))
  (pss_one (ps_ret pe_bl)))), ?_⟩
  have hlen := paired_len hP
  have hm := ho.m
  refine ⟨_, rfl, t, rfl, .inl ⟨_, ht⟩, fun H1 hS1 => ⟨_, rfl, iteF ⟨_, rfl, _, _, rfl, .inl (SqL.of (hS1 _ _ ht)), _, _, rfl, rfl, _, rfl, iteNo (by rw [List.length_map]; omega) ?_⟩⟩⟩
  refine ⟨_, rfl, t, rfl, ⟨_, SqL.of (hS1 _ _ ht)⟩, for_list (K := K) (a := t) (xs := tas.map V.ref) (fun i σ H' => Same H H' ∧ ∃ v, σ = [some (.int (N : Int)), some (.ref t), v]) ⟨hS1, none, rfl⟩ (fun i σ H' _ ⟨hS', _⟩ => SqL.of (hS' _ _ ht)) ?_ ?_⟩
  · rintro i x σ H2 hx ⟨hS2, v, rfl⟩
    rw [List.getElem?_map] at hx
    obtain ⟨p, hp, rfl⟩ : ∃ p, tas[i]? = some p ∧ x = V.ref p := by
      cases e : tas[i]? with
      | none => rw [e] at hx; cases hx
      | some p => rw [e] at hx; exact ⟨p, rfl, (Option.some.inj hx).symm⟩
    obtain ⟨⟨u, v⟩, he, hpe⟩ := paired_get hP hp
    have hp2 : H2 p = some (.tup [.int (u : Int), .int (v : Int)]) := hS2 _ _ hpe
    obtain ⟨hu, hv⟩ := ho.ok _ (List.mem_of_getElem? he)
    refine ⟨_, rfl, _, _, _, _, true, rfl, .ty _, .base (.tup hp2), kit_ty (by decide +kernel), _, rfl, iteF ⟨_, rfl, _, _, rfl, .inr (SqT.of hp2), rfl, _, rfl, iteNS rfl ?_⟩⟩
    refine ⟨_, rfl, _, _, _, .int (u : Int), rfl, rfl, SqT.of hp2, rfl, _, rfl, u, N, rfl, by omega, _, rfl, iteF ⟨_, rfl, _, _, _, .int (v : Int), rfl, rfl, SqT.of hp2, rfl, _, rfl, v, N, rfl, by omega, _, rfl, iteF ?_⟩⟩
    exact ⟨hS2, _, rfl⟩
  · rintro σ H2 ⟨hS2, v, rfl⟩
    exact q H2 hS2
end
end My
namespace My
open PySem L2 PyProof.Rows
/-! ### numbers of ties from a place -/
def frmN (ts : List (Nat × Nat)) (p : Nat) : Nat → List Nat
  | 0 => []
  | i + 1 => if (ts[i]?.map Prod.fst) = some p then frmN ts p i ++ [i] else frmN ts p i
abbrev frm (ts : List (Nat × Nat)) (p : Nat) : List Nat := frmN ts p ts.length
theorem frmN_len (ts : List (Nat × Nat)) (p : Nat) : ∀ i, (frmN ts p i).length ≤ i
  | 0 => by simp [frmN]
  | i + 1 => by
    have := frmN_len ts p i
    unfold frmN
    split
    · simp; omega
    · omega
theorem frmN_mem (ts : List (Nat × Nat)) (p x : Nat) : ∀ i, x ∈ frmN ts p i ↔ x < i ∧ ts[x]?.map Prod.fst = some p
  | 0 => by simp [frmN]
  | i + 1 => by
    have ih := frmN_mem ts p x i
    unfold frmN
    split
    · rename_i c
      rw [List.mem_append, ih, List.mem_singleton]
      constructor
      · rintro (⟨h1, h2⟩ | rfl)
        · exact ⟨by omega, h2⟩
        · exact ⟨by omega, c⟩
      · rintro ⟨h1, h2⟩
        by_cases z : x = i
        · exact .inr z
        · exact .inl ⟨by omega, h2⟩
    · rename_i c
      rw [ih]
      constructor
      · rintro ⟨h1, h2⟩
        exact ⟨by omega, h2⟩
      · rintro ⟨h1, h2⟩
        refine ⟨?_, h2⟩
        by_cases z : x = i
        · subst z; exact absurd h2 c
        · omega
theorem nodup_get {α : Type} {L : List α} {j k : Nat} {x : α} (hn : L.Nodup) (h1 : L[j]? = some x) (h2 : L[k]? = some x) : j = k :=
  (List.getElem?_inj (List.getElem?_eq_some_iff.mp h1).1 hn).mp (h1.trans h2.symm)
/-! ### new empty lists -/
def Fresh (H1 : Hp) (D : Addr) (n : Nat) (H' : Hp) : Prop := ∃ fas : List Addr, fas.length = n ∧ fas.Nodup ∧ (∀ x ∈ fas, H1 x = none ∧ x ≠ D) ∧ Same H1 H' ∧ H' D = some (.lst (fas.map V.ref)) ∧ ∀ x ∈ fas, H' x = some (.lst [])
theorem Fresh.zero {H1 : Hp} {D : Addr} (h : H1 D = none) : Fresh H1 D 0 (upd H1 D (.lst [])) :=
  ⟨[], rfl, by simp, fun x h => by simp at h, same_new h _, upd_same, fun x h => by simp at h⟩
theorem Fresh.step {H1 H2 : Hp} {D p : Addr} {n : Nat} (h : Fresh H1 D n H2) (nD : H1 D = none) (hn : n < 1000) (np : H2 p = none) :
    ∃ acc, upd H2 p (.lst []) D = some (.lst acc) ∧ acc.length < sizeLine ∧ Fresh H1 D (n + 1) (upd (upd H2 p (.lst [])) D (.lst (acc ++ [.ref p]))) := by
  obtain ⟨fas, h1, h2, h3, h4, h5, h6⟩ := h
  have hpD : D ≠ p := ne_of_none h5 np
  refine ⟨fas.map V.ref, by rw [upd_ne hpD]; exact h5, by rw [List.length_map, h1]; exact Nat.lt_trans hn (by decide), fas ++ [p], by simp [h1], ?_, ?_, ?_, by rw [upd_same, List.map_append]; rfl, ?_⟩
  · rw [List.nodup_append]
    refine ⟨h2, by simp, fun x hx y hy => ?_⟩
    rw [List.mem_singleton.mp hy]
    rintro rfl
    rw [h6 _ hx] at np
    cases np
  · intro x hx
    rcases List.mem_append.mp hx with z | z
    · exact h3 x z
    · rw [List.mem_singleton.mp z]
      exact ⟨h4.free np, hpD.symm⟩
  · intro b o e
    rw [upd_ne (ne_of_none e nD), upd_ne (ne_of_none (h4 _ _ e) np)]
    exact h4 _ _ e
  · intro x hx
    rcases List.mem_append.mp hx with z | z
    · rw [upd_ne (h3 x z).2, upd_ne (ne_of_none (h6 x z) np)]
      exact h6 x z
    · rw [List.mem_singleton.mp z, upd_ne hpD.symm, upd_same]
/-- rows: heaps that keep what H held, but for these lists -/
def KeptR (R : List Addr) (H H' : Hp) : Prop := ∀ b o, H b = some o → b ∉ R → H' b = some o
theorem KeptR.refl (R : List Addr) (H : Hp) : KeptR R H H := fun _ _ h _ => h
theorem KeptR.new {R : List Addr} {H H' : Hp} {p : Addr} {o : HO} (h : KeptR R H H') (np : H' p = none) : KeptR R H (upd H' p o) := fun b u e n => by
  have := h b u e n
  rw [upd_ne (ne_of_none this np)]
  exact this
theorem KeptR.put {R : List Addr} {H H' : Hp} {p : Addr} {o : HO} (h : KeptR R H H') (hp : p ∈ R) : KeptR R H (upd H' p o) := fun b u e n => by
  rw [upd_ne (fun z => n (by rw [z]; exact hp))]
  exact h b u e n
/-! ### webs -/
def wf (N : Nat) (tl fl ol : Addr) : List (Str × V) := putF "_ties_to" (.ref ol) (putF "_ties_from" (.ref fl) (putF "_ties" (.ref tl) (putF "_places" (.int (N : Int)) [])))
theorem wf_P (N : Nat) (tl fl ol : Addr) : (wf N tl fl ol).lookup ("_places" : Str) = some (.int (N : Int)) := by
  unfold wf
  rw [lookup_putF, if_neg (by decide +kernel), lookup_putF, if_neg (by decide +kernel), lookup_putF, if_neg (by decide +kernel), lookup_putF, if_pos rfl]
theorem wf_T (N : Nat) (tl fl ol : Addr) : (wf N tl fl ol).lookup ("_ties" : Str) = some (.ref tl) := by
  unfold wf
  rw [lookup_putF, if_neg (by decide +kernel), lookup_putF, if_neg (by decide +kernel), lookup_putF, if_pos rfl]
theorem wf_F (N : Nat) (tl fl ol : Addr) : (wf N tl fl ol).lookup ("_ties_from" : Str) = some (.ref fl) := by
  unfold wf
  rw [lookup_putF, if_neg (by decide +kernel), lookup_putF, if_pos rfl]
theorem wf_O (N : Nat) (tl fl ol : Addr) : (wf N tl fl ol).lookup ("_ties_to" : Str) = some (.ref ol) := by
  unfold wf
  rw [lookup_putF, if_pos rfl]
theorem wf_no (N : Nat) (tl fl ol : Addr) {m : Str} (h1 : ¬ m = "_ties_to") (h2 : ¬ m = "_ties_from") (h3 : ¬ m = "_ties") (h4 : ¬ m = "_places") : (wf N tl fl ol).lookup m = none := by
  unfold wf
  rw [lookup_putF, if_neg h1, lookup_putF, if_neg h2, lookup_putF, if_neg h3, lookup_putF, if_neg h4]
  all_goals rfl
theorem putF_len (f : Str) (v : V) : ∀ l : List (Str × V), (putF f v l).length ≤ l.length + 1
  | [] => by simp [putF]
  | (g, x) :: r => by
    have := putF_len f v r
    unfold putF
    split
    · simp
    · simp; omega
def RowsAt (H : Hp) (p : Addr) (N : Nat) (f : Nat → List Nat) : Prop := ∃ fas : List Addr, H p = some (.lst (fas.map V.ref)) ∧ fas.length = N ∧ ∀ j x, fas[j]? = some x → H x = some (.lst (iv (f j)))
theorem RowsAt.same {H H' : Hp} {p : Addr} {N : Nat} {f : Nat → List Nat} (h : RowsAt H p N f) (s : Same H H') : RowsAt H' p N f := by
  obtain ⟨fas, h1, h2, h3⟩ := h
  exact ⟨fas, s _ _ h1, h2, fun j x e => s _ _ (h3 j x e)⟩
theorem RowsAt.get {H : Hp} {p : Addr} {N : Nat} {f : Nat → List Nat} (h : RowsAt H p N f) {j : Nat} (hj : j < N) : ∃ x xs, H p = some (.lst xs) ∧ atI xs (j : Int) = some (.ref x) ∧ H x = some (.lst (iv (f j))) := by
  obtain ⟨fas, h1, h2, h3⟩ := h
  have e : fas[j]? = some (fas[j]'(by omega)) := List.getElem?_eq_getElem _
  refine ⟨_, _, h1, atI_nat ?_, h3 j _ e⟩
  rw [List.getElem?_map, e]
  rfl
def WebAt (C a : Addr) (N : Nat) (ts : List (Nat × Nat)) (H : Hp) : Prop := ∃ dx tl fl ol, H a = some (.ins C dx (wf N tl fl ol)) ∧ TiesAt H tl ts ∧ RowsAt H fl N (frm ts)
theorem WebAt.same {C a : Addr} {N : Nat} {ts : List (Nat × Nat)} {H H' : Hp} (h : WebAt C a N ts H) (s : Same H H') : WebAt C a N ts H' := by
  obtain ⟨dx, tl, fl, ol, h1, h2, h3⟩ := h
  exact ⟨dx, tl, fl, ol, s _ _ h1, h2.same s, h3.same s⟩
/-- what is new in H' or a tuple, and what stands at a -/
noncomputable def Sub (H H' : Hp) (a : Addr) : Hp := fun b => by
  classical
  exact if H b = none ∨ b = a ∨ ∃ xs, H' b = some (.tup xs) then H' b else none
theorem Sub.of {H H' : Hp} {a b : Addr} {o : HO} (h : H' b = some o) (k : H b = none ∨ b = a ∨ ∃ xs, H' b = some (.tup xs)) : Sub H H' a b = some o := by
  unfold Sub
  rw [if_pos k]
  exact h
theorem Sub.same {H H' : Hp} {a : Addr} : Same (Sub H H' a) H' := fun b o e => by
  unfold Sub at e
  split at e
  · exact e
  · cases e
theorem Sub.none {H H' : Hp} {a b : Addr} {xs : List V} (h : H b = some (.lst xs)) (n : b ≠ a) (k : H' b = some (.lst xs)) : Sub H H' a b = Option.none := by
  unfold Sub
  rw [if_neg]
  rintro (z | z | ⟨ys, z⟩)
  · rw [h] at z; cases z
  · exact n z
  · rw [k] at z; cases z
section
variable {P : Program} {w : World} {K : PySem.W.Frag} {mg : Str → Option Value} {base : Heap} {C C2 : Addr}
def spWeb___init__ (_ : PySem.W.Frag) (C _ : Addr) : Sp := fun vs H Q _ => ∃ a dx N t ts, vs = [.ref a, .int ((N : Nat) : Int), .ref t] ∧ OkWeb N ts ∧ TiesAt H t ts ∧ H a = some (.ins C dx []) ∧ ∀ H', Kept a H H' → WebAt C a N ts (Sub H H' a) → Q .non H'
theorem okWeb___init__ (D : DefI K C "__init__" "Web.__init__" sWeb___init__ ["self", "places", "ties"]) (B : Bs mg) (Glb : Glo mg) (WK : WebK K mg C) (PK : PieceK K mg C2)
    (his_between : Good P w K mg base "is_between" sis_between ["value", "least", "most"] 2 (spis_between K C C2))
    (hare_ties : Good P w K mg base "are_ties" sare_ties ["places", "value"] 4 (spare_ties K C C2)) :
    GoodI P w K mg base C "__init__" "Web.__init__" sWeb___init__ ["self", "places", "ties"] 5 (spWeb___init__ K C C2) := by
  refine D.good fun f fd F => ?_
  obtain ⟨fis_between, dis_between, Ois_between, mis_between, kis_between, bis_between, Fis_between⟩ := his_between
  obtain ⟨fare_ties, dare_ties, Oare_ties, mare_ties, kare_ties, bare_ties, Fare_ties⟩ := hare_ties
  refine F.ok scWeb___init__ (fun vs H Q E h => ?_) (fun cdv A outer s H vs Q E hr h => ?_)
  · obtain ⟨a, dx, N, t, ts, rfl, ho, ht, ha, q⟩ := h
    first | rfl | (rcases h with ⟨_, _, rfl, _⟩ | ⟨_, rfl, _⟩ <;> rfl)
  obtain ⟨a, dx, N, t, ts, rfl, ho, ht, ha, q⟩ := h
  refine ⟨_, (pss_cons (ps_if (pt_not (pt_val (pe_call Ois_between (hr.mono (by decide)) rfl mis_between kis_between bis_between .nil pass0 (pa_cons (pv 1) (pa_cons pe_int (pa_cons (pe_globI Glb.MOST_PLACES) pa_nil))))))
    (pss_one ps_never) pss_nil)
  (pss_cons (ps_if (pt_not (pt_val (pe_call Oare_ties hr rfl mare_ties kare_ties bare_ties .nil pass0 (pa_cons (pv 1) (pa_cons (pv 2) pa_nil)))))
    (pss_one ps_never) pss_nil)
  (pss_cons (ps_fld (pv 0) (pv 1) rfl)
  (pss_cons (ps_fld (pv 0) (pe_callTy call_list_of (by rfl) B.list (by decide +kernel) (pa_cons (pv 2) pa_nil)) rfl)
  (pss_cons (ps_fld (pv 0) (pe_lc (own := [("_", 5)]) (g := gName 5) (by rfl) scWeb___init__.nd (pi_range1 (by rfl) B.range (pa_cons (pv 1) pa_nil)) (blkOk_by (own := [("_", 5)]) (N := ["self", "places", "ties", "tie", "ends", "_"]) (sc := defScope sWeb___init__) (by decide +kernel)) (fun _ _ _ _ _ => (pg_name (i := 5) scWeb___init__.nd rfl (by first | exact Or.inl rfl | exact Or.inr rfl))) (fun _ _ _ _ _ => pts_nil) (fun _ _ _ _ _ => (pe_lst pa_nil))) rfl)
  (pss_cons (ps_fld (pv 0) (pe_lc (own := [("_", 5)]) (g := gName 5) (by rfl) scWeb___init__.nd (pi_range1 (by rfl) B.range (pa_cons (pv 1) pa_nil)) (blkOk_by (own := [("_", 5)]) (N := ["self", "places", "ties", "tie", "ends", "_"]) (sc := defScope sWeb___init__) (by decide +kernel)) (fun _ _ _ _ _ => (pg_name (i := 5) scWeb___init__.nd rfl (by first | exact Or.inl rfl | exact Or.inr rfl))) (fun _ _ _ _ _ => pts_nil) (fun _ _ _ _ _ => (pe_lst pa_nil))) rfl)
  (pss_one (ps_for PassesOwn.never rfl (pi_enum (by rfl) B.enumerate (pa_cons (pe_fld (pv 0) rfl) pa_nil)) (pg_tup rfl (pgs_cons (pg_name (i := 3) scWeb___init__.nd rfl (by first | exact Or.inl rfl | exact Or.inr rfl)) (pgs_cons (pg_name (i := 4) scWeb___init__.nd rfl (by first | exact Or.inl rfl | exact Or.inr rfl)) pgs_nil)))
    (pss_cons (ps_expr (pe_bm PySem.F.plainAttrs_list PySem.F.slot_list_append PySem.F.type_list_append mt_append (pe_ix ix_list (pe_fld (pv 0) rfl) (pe_ix ix_tup (pv 4) pe_int (fun _ _ => rfl)) (fun _ _ => rfl)) (pa_cons (pv 3) pa_nil)))
  (pss_one (ps_expr (pe_bm PySem.F.plainAttrs_list PySem.F.slot_list_append PySem.F.type_list_append mt_append (pe_ix ix_list (pe_fld (pv 0) rfl) (pe_ix ix_tup (pv 4) pe_int (fun _ _ => rfl)) (fun _ _ => rfl)) (pa_cons (pv 3) pa_nil))))))))))))), ?_⟩
  refine ⟨_, rfl, (N : Int), 1, 60, rfl, by have := ho.n0; omega, by have := ho.n1; omega, _, rfl, iteF ?_⟩
  refine ⟨_, rfl, _, rfl, N, t, ts, rfl, ho, ht, fun H1 hS1 => ⟨_, rfl, iteF ?_⟩⟩
  have ha1 := hS1 _ _ ha
  obtain ⟨tas, ht1, hP1⟩ := ht.same hS1
  have nat : t ≠ a := ne_of ht1 ha1 (by intro q; cases q)
  have nta : ∀ p e, TupAt H1 p e → p ≠ a := fun p e hp => ne_of hp ha1 (by intro q; cases q)
  refine ⟨_, rfl, _, rfl, a, C, dx, [], rfl, ha1, WK.cl, WK.nP, (by decide), ?_⟩
  refine ⟨_, rfl, t, _, rfl, .inl (SqL.of (by rw [upd_ne nat]; exact ht1)), fun tl ntl => ?_⟩
  have natl : a ≠ tl := ne_of_none upd_same ntl
  have ntl1 : H1 tl = none := by rw [upd_ne natl.symm] at ntl; exact ntl
  refine ⟨_, rfl, a, C, dx, _, rfl, (by rw [upd_ne natl]; exact upd_same), WK.cl, WK.nT, Nat.lt_of_le_of_lt (putF_len _ _ _) (by decide), ?_⟩
  generalize e4 : upd (upd (upd H1 a (.ins C dx (putF "_places" (.int (N : Int)) []))) tl (.lst (tas.map V.ref))) a (.ins C dx (putF "_ties" (.ref tl) (putF "_places" (.int (N : Int)) []))) = H4
  have k4 : Kept a H1 H4 := fun b o e n => by rw [← e4, upd_ne n, upd_ne (ne_of_none e ntl1), upd_ne n]; exact e
  have ha4 : H4 a = some (.ins C dx (putF "_ties" (.ref tl) (putF "_places" (.int (N : Int)) []))) := by rw [← e4]; exact upd_same
  have htl4 : H4 tl = some (.lst (tas.map V.ref)) := by rw [← e4, upd_ne natl.symm]; exact upd_same
  have hN := ho.n1
  refine ⟨_, rfl, _, rfl, by omega, by omega, fun D1 nD1 => ?_⟩
  refine lc_range (lo := 0) (n := N) (fun i H' => Fresh H4 D1 i H') (Fresh.zero nD1) ?_ ?_
  · intro i H' hi hf
    exact ⟨rfl, Nat.zero_le _, fun p np => hf.step nD1 (by omega) np⟩
  rintro H5 ⟨fas, f1, f2, f3, f4, f5, f6⟩
  have ha5 := f4 _ _ ha4
  have fa : ∀ x ∈ fas, x ≠ a := fun x hx z => by
    have := (f3 x hx).1
    rw [z, ha4] at this
    cases this
  have naD1 : D1 ≠ a := fun z => by rw [z, ha4] at nD1; cases nD1
  refine ⟨_, rfl, a, C, dx, _, rfl, ha5, WK.cl, WK.nF, Nat.lt_of_le_of_lt (putF_len _ _ _) (Nat.lt_of_le_of_lt (Nat.succ_le_succ (putF_len _ _ _)) (by decide)), ?_⟩
  generalize e6 : upd H5 a (.ins C dx (putF "_ties_from" (.ref D1) (putF "_ties" (.ref tl) (putF "_places" (.int (N : Int)) [])))) = H6
  have k6 : Kept a H5 H6 := fun b o e n => by rw [← e6, upd_ne n]; exact e
  have ha6 : H6 a = some (.ins C dx (putF "_ties_from" (.ref D1) (putF "_ties" (.ref tl) (putF "_places" (.int (N : Int)) [])))) := by rw [← e6]; exact upd_same
  refine ⟨_, rfl, _, rfl, by omega, by omega, fun D2 nD2 => ?_⟩
  refine lc_range (lo := 0) (n := N) (fun i H' => Fresh H6 D2 i H') (Fresh.zero nD2) ?_ ?_
  · intro i H' hi hf
    exact ⟨rfl, Nat.zero_le _, fun p np => hf.step nD2 (by omega) np⟩
  rintro H7 ⟨os, g1, g2, g3, g4, g5, g6⟩
  have ha7 := g4 _ _ ha6
  refine ⟨_, rfl, a, C, dx, _, rfl, ha7, WK.cl, WK.nO, Nat.lt_of_le_of_lt (putF_len _ _ _) (Nat.lt_of_le_of_lt (Nat.succ_le_succ (putF_len _ _ _)) (Nat.lt_of_le_of_lt (Nat.succ_le_succ (Nat.succ_le_succ (putF_len _ _ _))) (by decide))), ?_⟩
  generalize e8 : upd H7 a (.ins C dx (putF "_ties_to" (.ref D2) (putF "_ties_from" (.ref D1) (putF "_ties" (.ref tl) (putF "_places" (.int (N : Int)) []))))) = H8
  have k8 : Kept a H7 H8 := fun b o e n => by rw [← e8, upd_ne n]; exact e
  have ha8 : H8 a = some (.ins C dx (wf N tl D1 D2)) := by rw [← e8]; exact upd_same
  have oa : ∀ x ∈ os, x ≠ a := fun x hx z => by
    have := (g3 x hx).1
    rw [z, ha6] at this
    cases this
  have naD2 : D2 ≠ a := fun z => by rw [z, ha6] at nD2; cases nD2
  have fo : ∀ x ∈ fas, x ∉ os := fun x hx z => by
    have h := (g3 x z).1
    rw [k6 _ _ (f6 x hx) (fa x hx)] at h
    cases h
  -- what stands before the lists is none of them
  have old : ∀ b o, H4 b = some o → b ≠ a → H8 b = some o ∧ b ∉ fas ∧ b ∉ os := fun b o e n => by
    have h5 := f4 _ _ e
    have h6 := k6 _ _ h5 n
    refine ⟨k8 _ _ (g4 _ _ h6) n, fun z => ?_, fun z => ?_⟩
    · rw [(f3 b z).1] at e; cases e
    · rw [(g3 b z).1] at h6; cases h6
  have ntla : tl ≠ a := natl.symm
  have oldA : a ∉ fas ∧ a ∉ os := ⟨fun z => fa a z rfl, fun z => oa a z rfl⟩
  have oldT := old _ _ htl4 ntla
  have oldE : ∀ p e, TupAt H1 p e → TupAt H8 p e ∧ p ∉ fas ∧ p ∉ os := fun p e hp => old _ _ (k4 _ _ hp (nta p e hp)) (nta p e hp)
  have f58 : H8 D1 = some (.lst (fas.map V.ref)) := k8 _ _ (g4 _ _ (k6 _ _ f5 naD1)) naD1
  have D1f : D1 ∉ fas := fun z => (f3 D1 z).2 rfl
  have D1o : D1 ∉ os := fun z => by
    have h := (g3 D1 z).1
    rw [k6 _ _ f5 naD1] at h
    cases h
  have g58 : H8 D2 = some (.lst (os.map V.ref)) := k8 _ _ g5 naD2
  have D2o : D2 ∉ os := fun z => (g3 D2 z).2 rfl
  have D2f : D2 ∉ fas := fun z => by
    have h := k6 _ _ (f6 D2 z) (fa D2 z)
    rw [nD2] at h
    cases h
  have fe8 : ∀ x ∈ fas, H8 x = some (.lst []) := fun x hx => k8 _ _ (g4 _ _ (k6 _ _ (f6 x hx) (fa x hx))) (fa x hx)
  have oe8 : ∀ x ∈ os, H8 x = some (.lst []) := fun x hx => k8 _ _ (g6 x hx) (oa x hx)
  have nin : ∀ {b : Addr}, b ∉ fas → b ∉ os → b ∉ fas ++ os := fun h1 h2 z => (List.mem_append.mp z).elim h1 h2
  refine ⟨_, rfl, a, C, dx, _, _, rfl, ha8, WK.cl, WK.nT, wf_T _ _ _ _, tl, _, rfl, SqL.of oldT.1, ?_⟩
  refine for_it (walk_enum (K := K) (a := tl) (xs := tas.map V.ref)) (fun i σ H' => ∃ v3 v4 v5 : Option V, σ = [some (.ref a), some (.int (N : Int)), some (.ref t), v3, v4, v5] ∧ KeptR (fas ++ os) H8 H' ∧ (∀ (j : Nat) (x : Addr), fas[j]? = some x → H' x = some (.lst (iv (frmN ts j i)))) ∧ (∀ (j : Nat) (x : Addr), os[j]? = some x → ∃ L : List V, H' x = some (.lst L) ∧ L.length ≤ i)) ?_ ?_ ?_ ?_
  · exact ⟨_, _, _, rfl, .refl _ _, fun j x e => fe8 x (List.mem_of_getElem? e), fun j x e => ⟨[], oe8 x (List.mem_of_getElem? e), Nat.zero_le _⟩⟩
  · rintro i σ H' hi ⟨v3, v4, v5, rfl, hk, _, _⟩
    exact SqL.of (hk _ _ oldT.1 (nin oldT.2.1 oldT.2.2))
  · rintro i x σ H9 H10 hi ⟨v3, v4, v5, rfl, hk, hf, hos⟩ ⟨T0, x1, x2, rfl, nT0, rfl, e1, e2⟩
    cases e1
    rw [List.length_map] at hi
    replace e2 : (tas.map V.ref)[i]? = some x2 := e2
    rw [List.getElem?_map, List.getElem?_eq_getElem hi] at e2
    cases e2
    obtain ⟨⟨u, v⟩, he, hpe⟩ := paired_get hP1 (List.getElem?_eq_getElem hi)
    obtain ⟨hu, hv⟩ := ho.ok _ (List.mem_of_getElem? he)
    have hp8 := oldE _ _ hpe
    have hp9 : H9 tas[i] = some (.tup [.int (u : Int), .int (v : Int)]) := hk _ _ hp8.1 (nin hp8.2.1 hp8.2.2)
    have hkN : KeptR (fas ++ os) H8 (upd H9 T0 (.tup [.int (i : Int), .ref tas[i]])) := hk.new nT0
    generalize e10 : upd H9 T0 (.tup [.int (i : Int), .ref tas[i]]) = H10
    rw [e10] at hkN
    have hT10 : H10 T0 = some (.tup [.int (i : Int), .ref tas[i]]) := by rw [← e10]; exact upd_same
    have hS10 : Same H9 H10 := by rw [← e10]; exact same_new nT0 _
    have hp10 := hS10 _ _ hp9
    have ha10 := hkN _ _ ha8 (nin oldA.1 oldA.2)
    have hfl10 := hkN _ _ f58 (nin D1f D1o)
    obtain ⟨xu, eu⟩ : ∃ x, fas[u]? = some x := ⟨fas[u]'(by omega), List.getElem?_eq_getElem _⟩
    obtain ⟨xv, ev⟩ : ∃ x, os[v]? = some x := ⟨os[v]'(by omega), List.getElem?_eq_getElem _⟩
    have mu := List.mem_of_getElem? eu
    have mv := List.mem_of_getElem? ev
    have hxu := hS10 _ _ (hf u xu eu)
    obtain ⟨Lv, hxv, hLv⟩ := hos v xv ev
    have nxu : ∀ {b : Addr}, b ∉ fas → b ≠ xu := fun h z => h (by rw [z]; exact mu)
    have nxv : ∀ {b : Addr}, b ∉ os → b ≠ xv := fun h z => h (by rw [z]; exact mv)
    have htl := ho.m
    have htsl : i < ts.length := by rw [← paired_len hP1]; exact hi
    refine ⟨T0, _, rfl, SqT.of hT10, rfl, _, _, rfl, _, _, rfl, rfl, ?_⟩
    refine ⟨_, rfl, a, C, dx, _, _, rfl, ha10, WK.cl, WK.nF, wf_F _ _ _ _, _, rfl, _, _, _, .int (u : Int), rfl, rfl, SqT.of hp10, rfl, _, _, _, .ref xu, rfl, rfl, SqL.of hfl10, atI_nat (by rw [List.getElem?_map, eu]; rfl), .inl ⟨rfl, _, SqL.of hxu⟩, _, rfl, xu, _, _, rfl, rfl, hxu, ?_, ?_⟩
    · rw [List.length_map]
      exact Nat.lt_of_le_of_lt (frmN_len ts u i) (Nat.lt_trans (by omega : i < 1000) (by decide))
    generalize e11 : upd H10 xu (.lst (iv (frmN ts u i) ++ [.int (i : Int)])) = H11
    have hk11 : KeptR (fas ++ os) H8 H11 := by rw [← e11]; exact hkN.put (List.mem_append_left _ mu)
    have ha11 := hk11 _ _ ha8 (nin oldA.1 oldA.2)
    have hol11 := hk11 _ _ g58 (nin D2f D2o)
    have hp11 : H11 tas[i] = some (.tup [.int (u : Int), .int (v : Int)]) := hk11 _ _ hp8.1 (nin hp8.2.1 hp8.2.2)
    have hxv11 : H11 xv = some (.lst Lv) := by
      rw [← e11, upd_ne (fun z => fo xu mu (by rw [← z]; exact mv))]
      exact hS10 _ _ hxv
    refine ⟨_, rfl, a, C, dx, _, _, rfl, ha11, WK.cl, WK.nO, wf_O _ _ _ _, _, rfl, _, _, _, .int (v : Int), rfl, rfl, SqT.of hp11, rfl, _, _, _, .ref xv, rfl, rfl, SqL.of hol11, atI_nat (by rw [List.getElem?_map, ev]; rfl), .inl ⟨rfl, _, SqL.of hxv11⟩, _, rfl, xv, _, _, rfl, rfl, hxv11, Nat.lt_of_le_of_lt hLv (Nat.lt_trans (by omega : i < 1000) (by decide)), ?_⟩
    refine ⟨_, _, _, rfl, hk11.put (List.mem_append_right _ mv), fun j x e => ?_, fun j x e => ?_⟩
    · have nx : x ≠ xv := fun z => fo x (List.mem_of_getElem? e) (by rw [z]; exact mv)
      rw [upd_ne nx]
      have eti : ts[i]?.map Prod.fst = some u := by rw [he]; rfl
      by_cases c : x = xu
      · have ej : j = u := nodup_get f2 e (by rw [c]; exact eu)
        subst ej
        rw [c, ← e11, upd_same, show frmN ts j (i + 1) = frmN ts j i ++ [i] from if_pos eti, iv_app]
      · have ej : ¬ (ts[i]?.map Prod.fst) = some j := fun z => by
          rw [eti] at z
          cases z
          rw [eu] at e
          exact c (Option.some.inj e).symm
        rw [← e11, upd_ne c, show frmN ts j (i + 1) = frmN ts j i from if_neg ej]
        exact hS10 _ _ (hf j x e)
    · by_cases c : x = xv
      · exact ⟨_, by rw [c]; exact upd_same, by rw [List.length_append, List.length_singleton]; omega⟩
      · obtain ⟨L, h1, h2⟩ := hos j x e
        refine ⟨L, ?_, by omega⟩
        rw [upd_ne c, ← e11, upd_ne (fun z => fo xu mu (by rw [← z]; exact List.mem_of_getElem? e))]
        exact hS10 _ _ h1
  · rintro σ H9 ⟨v3, v4, v5, rfl, hk, hf, hos⟩
    have hlen : (tas.map V.ref).length = ts.length := by rw [List.length_map]; exact paired_len hP1
    rw [hlen] at hf
    have to9 : ∀ b o, H4 b = some o → b ≠ a → H9 b = some o := fun b o e n => by
      have h := old b o e n
      exact hk _ _ h.1 (nin h.2.1 h.2.2)
    have g0 : ∀ b, b ≠ a → H4 b = none → H b = none := fun b n e => by
      cases e2 : H b with
      | none => rfl
      | some o =>
        rw [k4 _ _ (hS1 _ _ e2) n] at e
        cases e
    refine q H9 (fun b o e n => to9 b o (k4 _ _ (hS1 _ _ e) n) n) ⟨dx, tl, D1, D2, Sub.of (hk _ _ ha8 (nin oldA.1 oldA.2)) (.inr (.inl rfl)), ⟨tas, Sub.of (to9 _ _ htl4 ntla) (.inl (hS1.free ntl1)), ?_⟩, ⟨fas, Sub.of (hk _ _ f58 (nin D1f D1o)) (.inl (g0 _ naD1 nD1)), f1, fun j x e => Sub.of (hf j x e) (.inl ?_)⟩⟩
    · refine paired_mono (fun p e hp => ?_) hP1
      have hp9 := to9 _ _ (k4 _ _ hp (nta p e hp)) (nta p e hp)
      exact Sub.of hp9 (.inr (.inr ⟨_, hp9⟩))
    · have hm := List.mem_of_getElem? e
      exact g0 x (fa x hm) (f3 x hm).1
def spWeb_places (_ : PySem.W.Frag) (C _ : Addr) : Sp := fun vs H Q _ => ∃ a N ts, vs = [.ref a] ∧ WebAt C a N ts H ∧ Q (.int (N : Int)) H
theorem okWeb_places (D : DefP K C "places" "Web.places" sWeb_places ["self"]) (B : Bs mg) (Glb : Glo mg) (WK : WebK K mg C) (PK : PieceK K mg C2) :
    GoodP P w K mg base C "places" "Web.places" sWeb_places ["self"] 1 (spWeb_places K C C2) := by
  refine D.good fun f fd F => ?_
  refine F.ok scWeb_places (fun vs H Q E h => ?_) (fun cdv A outer s H vs Q E hr h => ?_)
  · obtain ⟨a, N, ts, rfl, ⟨dx, tl, fl, ol, h1, h2, h3⟩, q⟩ := h
    first | rfl | (rcases h with ⟨_, _, rfl, _⟩ | ⟨_, rfl, _⟩ <;> rfl)
  obtain ⟨a, N, ts, rfl, ⟨dx, tl, fl, ol, h1, h2, h3⟩, q⟩ := h
  refine ⟨_, (pss_one (ps_ret (pe_fld (pv 0) rfl))), ?_⟩
  exact ⟨_, rfl, a, C, dx, _, _, rfl, h1, WK.cl, WK.nP, wf_P _ _ _ _, q⟩
def spWeb_many (_ : PySem.W.Frag) (C _ : Addr) : Sp := fun vs H Q _ => ∃ a N ts, vs = [.ref a] ∧ WebAt C a N ts H ∧ Q (.int (ts.length : Int)) H
theorem okWeb_many (D : DefP K C "many" "Web.many" sWeb_many ["self"]) (B : Bs mg) (Glb : Glo mg) (WK : WebK K mg C) (PK : PieceK K mg C2) :
    GoodP P w K mg base C "many" "Web.many" sWeb_many ["self"] 1 (spWeb_many K C C2) := by
  refine D.good fun f fd F => ?_
  refine F.ok scWeb_many (fun vs H Q E h => ?_) (fun cdv A outer s H vs Q E hr h => ?_)
  · obtain ⟨a, N, ts, rfl, ⟨dx, tl, fl, ol, h1, ⟨tas, ht, hP⟩, h3⟩, q⟩ := h
    first | rfl | (rcases h with ⟨_, _, rfl, _⟩ | ⟨_, rfl, _⟩ <;> rfl)
  obtain ⟨a, N, ts, rfl, ⟨dx, tl, fl, ol, h1, ⟨tas, ht, hP⟩, h3⟩, q⟩ := h
  refine ⟨_, (pss_one (ps_ret (pe_callB call_len_seq (by rfl) B.len (by decide +kernel) (pa_cons (pe_fld (pv 0) rfl) pa_nil)))), ?_⟩
  refine ⟨_, rfl, a, C, dx, _, _, rfl, h1, WK.cl, WK.nT, wf_T _ _ _ _, _, _, rfl, .inl (SqL.of ht), ?_⟩
  rw [List.length_map, paired_len hP]
  exact q
def spWeb_ties (_ : PySem.W.Frag) (C _ : Addr) : Sp := fun vs H Q _ => ∃ a N ts, vs = [.ref a] ∧ WebAt C a N ts H ∧ ∀ H' l, H l = none → Same H H' → TiesAt H' l ts → Q (.ref l) H'
theorem okWeb_ties (D : DefM K C "ties" "Web.ties" sWeb_ties ["self"]) (B : Bs mg) (Glb : Glo mg) (WK : WebK K mg C) (PK : PieceK K mg C2) :
    GoodM P w K mg base C "ties" "Web.ties" sWeb_ties ["self"] 1 (spWeb_ties K C C2) := by
  refine D.good fun f fd F => ?_
  refine F.ok scWeb_ties (fun vs H Q E h => ?_) (fun cdv A outer s H vs Q E hr h => ?_)
  · obtain ⟨a, N, ts, rfl, ⟨dx, tl, fl, ol, h1, ⟨tas, ht, hP⟩, h3⟩, q⟩ := h
    first | rfl | (rcases h with ⟨_, _, rfl, _⟩ | ⟨_, rfl, _⟩ <;> rfl)
  obtain ⟨a, N, ts, rfl, ⟨dx, tl, fl, ol, h1, ⟨tas, ht, hP⟩, h3⟩, q⟩ := h
  refine ⟨_, (pss_one (ps_ret (pe_callTy call_list_of (by rfl) B.list (by decide +kernel) (pa_cons (pe_fld (pv 0) rfl) pa_nil)))), ?_⟩
  exact ⟨_, rfl, a, C, dx, _, _, rfl, h1, WK.cl, WK.nT, wf_T _ _ _ _, _, _, rfl, .inl (SqL.of ht), fun l nl => q _ l nl (same_new nl _) ⟨tas, upd_same, paired_mono (fun p e hp => same_new nl _ _ _ hp) hP⟩⟩
def spneed_web (_ : PySem.W.Frag) (C _ : Addr) : Sp := fun vs H Q _ => ∃ a N ts, vs = [.ref a] ∧ WebAt C a N ts H ∧ Q .non H
theorem okneed_web (D : Def K mg "need_web" sneed_web ["web"]) (B : Bs mg) (Glb : Glo mg) (WK : WebK K mg C) (PK : PieceK K mg C2) :
    Good P w K mg base "need_web" sneed_web ["web"] 3 (spneed_web K C C2) := by
  refine D.good fun f fd F => ?_
  refine F.ok scneed_web (fun vs H Q E h => ?_) (fun cdv A outer s H vs Q E hr h => ?_)
  · obtain ⟨a, N, ts, rfl, hw, q⟩ := h
    first | rfl | (rcases h with ⟨_, _, rfl, _⟩ | ⟨_, rfl, _⟩ <;> rfl)
  obtain ⟨a, N, ts, rfl, hw, q⟩ := h
  refine ⟨_, (pss_one (ps_if (pt_not (pt_val (pe_callB call_isi (by rfl) B.isinstance (by decide +kernel) (pa_cons (pv 0) (pa_cons (pe_glob (v := .ref C) (by rfl) WK.mgC rfl) pa_nil)))))
    (pss_one ps_never) pss_nil)), ?_⟩
  obtain ⟨dx, tl, fl, ol, h1, h2, h3⟩ := id hw
  exact ⟨_, rfl, _, _, _, _, true, rfl, .own C, .base (.ins h1 WK.cl WK.i1 WK.i2 WK.i3 WK.i4), WK.i5, _, rfl, iteF q⟩
def spneed_place (_ : PySem.W.Frag) (C _ : Addr) : Sp := fun vs H Q _ => ∃ a N ts p, vs = [.ref a, .int ((p : Nat) : Int)] ∧ WebAt C a N ts H ∧ p < N ∧ Q .non H
theorem okneed_place (D : Def K mg "need_place" sneed_place ["web", "place"]) (B : Bs mg) (Glb : Glo mg) (WK : WebK K mg C) (PK : PieceK K mg C2)
    (his_below : Good P w K mg base "is_below" sis_below ["value", "limit"] 3 (spis_below K C C2))
    (hWeb_places : GoodP P w K mg base C "places" "Web.places" sWeb_places ["self"] 1 (spWeb_places K C C2)) :
    Good P w K mg base "need_place" sneed_place ["web", "place"] 4 (spneed_place K C C2) := by
  refine D.good fun f fd F => ?_
  obtain ⟨fis_below, dis_below, Ois_below, mis_below, kis_below, bis_below, Fis_below⟩ := his_below
  obtain ⟨qWeb_places, fWeb_places, dWeb_places, OWeb_places, pWeb_places, bWeb_places⟩ := hWeb_places
  refine F.ok scneed_place (fun vs H Q E h => ?_) (fun cdv A outer s H vs Q E hr h => ?_)
  · obtain ⟨a, N, ts, p, rfl, hw, hp, q⟩ := h
    first | rfl | (rcases h with ⟨_, _, rfl, _⟩ | ⟨_, rfl, _⟩ <;> rfl)
  obtain ⟨a, N, ts, p, rfl, hw, hp, q⟩ := h
  refine ⟨_, (pss_one (ps_if (pt_not (pt_val (pe_call Ois_below hr rfl mis_below kis_below bis_below .nil pass0 (pa_cons (pv 1) (pa_cons (pe_prop (pv 0) WK.cl pWeb_places OWeb_places (hr.mono (by decide)) bWeb_places .nil pass0 (by rfl)) pa_nil)))))
    (pss_one ps_never) pss_nil)), ?_⟩
  obtain ⟨dx, tl, fl, ol, h1, _⟩ := id hw
  exact ⟨_, rfl, _, rfl, a, dx, _, rfl, h1, a, N, ts, rfl, hw, p, N, rfl, by omega, _, rfl, iteF q⟩
def spneed_tie (_ : PySem.W.Frag) (C _ : Addr) : Sp := fun vs H Q _ => ∃ a N ts p, vs = [.ref a, .int ((p : Nat) : Int)] ∧ WebAt C a N ts H ∧ p < ts.length ∧ Q .non H
theorem okneed_tie (D : Def K mg "need_tie" sneed_tie ["web", "tie"]) (B : Bs mg) (Glb : Glo mg) (WK : WebK K mg C) (PK : PieceK K mg C2)
    (his_below : Good P w K mg base "is_below" sis_below ["value", "limit"] 3 (spis_below K C C2))
    (hWeb_many : GoodP P w K mg base C "many" "Web.many" sWeb_many ["self"] 1 (spWeb_many K C C2)) :
    Good P w K mg base "need_tie" sneed_tie ["web", "tie"] 4 (spneed_tie K C C2) := by
  refine D.good fun f fd F => ?_
  obtain ⟨fis_below, dis_below, Ois_below, mis_below, kis_below, bis_below, Fis_below⟩ := his_below
  obtain ⟨qWeb_many, fWeb_many, dWeb_many, OWeb_many, pWeb_many, bWeb_many⟩ := hWeb_many
  refine F.ok scneed_tie (fun vs H Q E h => ?_) (fun cdv A outer s H vs Q E hr h => ?_)
  · obtain ⟨a, N, ts, p, rfl, hw, hp, q⟩ := h
    first | rfl | (rcases h with ⟨_, _, rfl, _⟩ | ⟨_, rfl, _⟩ <;> rfl)
  obtain ⟨a, N, ts, p, rfl, hw, hp, q⟩ := h
  refine ⟨_, (pss_one (ps_if (pt_not (pt_val (pe_call Ois_below hr rfl mis_below kis_below bis_below .nil pass0 (pa_cons (pv 1) (pa_cons (pe_prop (pv 0) WK.cl pWeb_many OWeb_many (hr.mono (by decide)) bWeb_many .nil pass0 (by rfl)) pa_nil)))))
    (pss_one ps_never) pss_nil)), ?_⟩
  obtain ⟨dx, tl, fl, ol, h1, _⟩ := id hw
  exact ⟨_, rfl, _, rfl, a, dx, _, rfl, h1, a, N, ts, rfl, hw, p, ts.length, rfl, by omega, _, rfl, iteF q⟩
/-- a list or a tuple of ints -/
def SeqAt (H : Hp) (s : Addr) (W : List Nat) : Prop := H s = some (.lst (iv W)) ∨ H s = some (.tup (iv W))
theorem SeqAt.same {H H' : Hp} {s : Addr} {W : List Nat} (h : SeqAt H s W) (hs : Same H H') : SeqAt H' s W := h.imp (hs _ _) (hs _ _)
def spare_numbers (_ : PySem.W.Frag) (C _ : Addr) : Sp := fun vs H Q _ => ∃ a N ts s W, vs = [.ref a, .ref s] ∧ WebAt C a N ts H ∧ SeqAt H s W ∧ (∀ x ∈ W, x < ts.length) ∧ ∀ H', Same H H' → Q (.bl true) H'
theorem okare_numbers (D : Def K mg "are_numbers" sare_numbers ["web", "value"]) (B : Bs mg) (Glb : Glo mg) (WK : WebK K mg C) (PK : PieceK K mg C2)
    (his_listed : Good P w K mg base "is_listed" sis_listed ["value"] 1 (spis_listed K C C2))
    (his_below : Good P w K mg base "is_below" sis_below ["value", "limit"] 3 (spis_below K C C2))
    (hWeb_many : GoodP P w K mg base C "many" "Web.many" sWeb_many ["self"] 1 (spWeb_many K C C2)) :
    Good P w K mg base "are_numbers" sare_numbers ["web", "value"] 4 (spare_numbers K C C2) := by
  refine D.good fun f fd F => ?_
  obtain ⟨fis_listed, dis_listed, Ois_listed, mis_listed, kis_listed, bis_listed, Fis_listed⟩ := his_listed
  obtain ⟨fis_below, dis_below, Ois_below, mis_below, kis_below, bis_below, Fis_below⟩ := his_below
  obtain ⟨qWeb_many, fWeb_many, dWeb_many, OWeb_many, pWeb_many, bWeb_many⟩ := hWeb_many
  refine F.ok scare_numbers (fun vs H Q E h => ?_) (fun cdv A outer s H vs Q E hr h => ?_)
  · obtain ⟨a, N, ts, s, W, rfl, hw, hs, hW, q⟩ := h
    first | rfl | (rcases h with ⟨_, _, rfl, _⟩ | ⟨_, rfl, _⟩ <;> rfl)
  obtain ⟨a, N, ts, s, W, rfl, hw, hs, hW, q⟩ := h
  refine ⟨_, (pss_cons (ps_if (pt_not (pt_val (pe_call Ois_listed (hr.mono (by decide)) rfl mis_listed kis_listed bis_listed .nil pass0 (pa_cons (pv 1) pa_nil))))
    (pss_one (ps_ret pe_bl)) pss_nil)
  (pss_cons (ps_for PassesOwn.never rfl (pi_or (pi_list (pv 1)) (pi_tup (pv 1))) (pg_name (i := 2) scare_numbers.nd rfl (by first | exact Or.inl rfl | exact Or.inr rfl))
    (pss_one (ps_if (pt_not (pt_val (pe_call Ois_below hr rfl mis_below kis_below bis_below .nil pass0 (pa_cons (pv 2) (pa_cons (pe_prop (pv 0) WK.cl pWeb_many OWeb_many (hr.mono (by decide)) bWeb_many .nil pass0 (by rfl)) pa_nil)))))
    (pss_one (ps_ret pe_bl)) pss_nil)))
  (pss_one (ps_ret pe_bl)))), ?_⟩
  refine ⟨_, rfl, s, rfl, hs.imp (fun h => ⟨_, h⟩) (fun h => ⟨_, h⟩), fun H1 hS1 => ⟨_, rfl, iteF ?_⟩⟩
  have key : ∀ (i : Nat) (x : V) (H2 : Hp), (iv W)[i]? = some x → Same H1 H2 → ∃ n : Nat, x = .int (n : Int) ∧ n < ts.length ∧ WebAt C a N ts H2 := fun i x H2 hx hS2 => by
    rw [List.getElem?_map] at hx
    cases e : W[i]? with
    | none => rw [e] at hx; cases hx
    | some n =>
      rw [e] at hx
      exact ⟨n, (Option.some.inj hx).symm, hW n (List.mem_of_getElem? e), (hw.same hS1).same hS2⟩
  rcases hs.same hS1 with h | h
  · refine .inl ⟨_, rfl, s, rfl, ⟨_, SqL.of h⟩, for_list (K := K) (a := s) (xs := iv W) (fun i σ H' => Same H1 H' ∧ ∃ v, σ = [some (.ref a), some (.ref s), v]) ⟨fun _ _ e => e, none, rfl⟩ (fun i σ H' _ ⟨hS', _⟩ => SqL.of (hS' _ _ h)) ?_ ?_⟩
    · rintro i x σ H2 hx ⟨hS2, v, rfl⟩
      obtain ⟨n, rfl, hn, hw2⟩ := key i x H2 hx hS2
      obtain ⟨dx, tl, fl, ol, h1, _⟩ := id hw2
      exact ⟨_, rfl, _, rfl, a, dx, _, rfl, h1, a, N, ts, rfl, hw2, n, _, rfl, by omega, _, rfl, iteF ⟨hS2, _, rfl⟩⟩
    · rintro σ H2 ⟨hS2, v, rfl⟩
      exact q H2 (hS1.trans hS2)
  · refine .inr ⟨_, rfl, s, rfl, ⟨_, SqT.of h⟩, for_tup (K := K) (a := s) (xs := iv W) (fun i σ H' => Same H1 H' ∧ ∃ v, σ = [some (.ref a), some (.ref s), v]) ⟨fun _ _ e => e, none, rfl⟩ (fun i σ H' _ ⟨hS', _⟩ => SqT.of (hS' _ _ h)) ?_ ?_⟩
    · rintro i x σ H2 hx ⟨hS2, v, rfl⟩
      obtain ⟨n, rfl, hn, hw2⟩ := key i x H2 hx hS2
      obtain ⟨dx, tl, fl, ol, h1, _⟩ := id hw2
      exact ⟨_, rfl, _, rfl, a, dx, _, rfl, h1, a, N, ts, rfl, hw2, n, _, rfl, by omega, _, rfl, iteF ⟨hS2, _, rfl⟩⟩
    · rintro σ H2 ⟨hS2, v, rfl⟩
      exact q H2 (hS1.trans hS2)
end
end My
namespace My
open PySem L2 PyProof.Rows
theorem SeqAt.seq {K : PySem.W.Frag} {H : Hp} {s : Addr} {W : List Nat} (h : SeqAt H s W) : SqL K H s (iv W) ∨ SqT K H s (iv W) := h.imp SqL.of SqT.of
theorem SeqAt.ix {K : PySem.W.Frag} {H : Hp} {s : Addr} {W : List Nat} {i : Int} {b : Nat} {Q : VK} (h : SeqAt H s W) (e : atI (iv W) i = some (.int (b : Int))) (q : Q (.int (b : Int)) H) : rIx K (.ref s) (.int i) H Q := by
  rcases h with h | h
  · exact .inl ⟨_, _, _, _, rfl, rfl, SqL.of h, e, q⟩
  · exact .inr (.inl ⟨_, _, _, _, rfl, rfl, SqT.of h, e, q⟩)
theorem TiesAt.at_ {H : Hp} {l : Addr} {ts : List (Nat × Nat)} (h : TiesAt H l ts) {x : Nat} {e : Nat × Nat} (hx : ts[x]? = some e) : ∃ xs p, H l = some (.lst xs) ∧ atI xs (x : Int) = some (.ref p) ∧ H p = some (.tup [.int (e.1 : Int), .int (e.2 : Int)]) := by
  obtain ⟨tas, h1, h2⟩ := h
  have hl := paired_len h2
  have hx2 := (List.getElem?_eq_some_iff.mp hx).1
  have e1 : tas[x]? = some (tas[x]'(by omega)) := List.getElem?_eq_getElem _
  obtain ⟨f, hf, hp⟩ := paired_get h2 e1
  rw [hx] at hf
  cases hf
  refine ⟨_, _, h1, atI_nat ?_, hp⟩
  rw [List.getElem?_map, e1]
  rfl
theorem atI_back {α : Type} {xs : List α} {v : α} (h : xs[xs.length - 1]? = some v) : atI xs (-1) = some v := by
  have h0 := (List.getElem?_eq_some_iff.mp h).1
  unfold atI ixN
  rw [if_neg (by decide), if_pos (by omega)]
  show xs[((-1 : Int) + (xs.length : Int)).toNat]? = _
  rw [show ((-1 : Int) + (xs.length : Int)).toNat = xs.length - 1 by omega]
  exact h
theorem iv_back {L : List Nat} {b : Nat} (h : L[L.length - 1]? = some b) : atI (iv L) (-1) = some (.int (b : Int)) := by
  refine atI_back ?_
  rw [List.length_map, List.getElem?_map, h]
  rfl
/-! ### walks and rounds -/
structure Chain (ts : List (Nat × Nat)) (R : List Nat) : Prop where
  n0 : 0 < R.length
  num : ∀ x ∈ R, x < ts.length
  on : ∀ i, i + 1 < R.length → ∃ x y e f, R[i]? = some x ∧ R[i + 1]? = some y ∧ ts[x]? = some e ∧ ts[y]? = some f ∧ f.1 = e.2
structure Tour (ts : List (Nat × Nat)) (R : List Nat) : Prop where
  ch : Chain ts R
  n1 : R.length ≤ 1000
  back : ∃ x y e f, R[0]? = some x ∧ R[R.length - 1]? = some y ∧ ts[x]? = some e ∧ ts[y]? = some f ∧ e.1 = f.2
section
variable {P : Program} {w : World} {K : PySem.W.Frag} {mg : Str → Option Value} {base : Heap} {C C2 : Addr}
def sp_go_on (_ : PySem.W.Frag) (C _ : Addr) : Sp := fun vs H Q _ => ∃ a N ts s R, ∃ m : Int, vs = [.ref a, .ref s, .int m] ∧ WebAt C a N ts H ∧ SeqAt H s R ∧ Chain ts R ∧ (R.length : Int) ≤ m ∧ R.length ≤ 1000 ∧ ∀ H', Same H H' → Q (.bl true) H'
theorem ok_go_on (D : Def K mg "_go_on" s_go_on ["web", "value", "longest"]) (B : Bs mg) (Glb : Glo mg) (WK : WebK K mg C) (PK : PieceK K mg C2)
    (his_listed : Good P w K mg base "is_listed" sis_listed ["value"] 1 (spis_listed K C C2))
    (his_between : Good P w K mg base "is_between" sis_between ["value", "least", "most"] 2 (spis_between K C C2))
    (hare_numbers : Good P w K mg base "are_numbers" sare_numbers ["web", "value"] 4 (spare_numbers K C C2))
    (hWeb_ties : GoodM P w K mg base C "ties" "Web.ties" sWeb_ties ["self"] 1 (spWeb_ties K C C2)) :
    Good P w K mg base "_go_on" s_go_on ["web", "value", "longest"] 5 (sp_go_on K C C2) := by
  refine D.good fun f fd F => ?_
  obtain ⟨fis_listed, dis_listed, Ois_listed, mis_listed, kis_listed, bis_listed, Fis_listed⟩ := his_listed
  obtain ⟨fis_between, dis_between, Ois_between, mis_between, kis_between, bis_between, Fis_between⟩ := his_between
  obtain ⟨fare_numbers, dare_numbers, Oare_numbers, mare_numbers, kare_numbers, bare_numbers, Fare_numbers⟩ := hare_numbers
  obtain ⟨fWeb_ties, dWeb_ties, OWeb_ties, tWeb_ties, bWeb_ties, FWeb_ties⟩ := hWeb_ties
  refine F.ok sc_go_on (fun vs H Q E h => ?_) (fun cdv A outer s H vs Q E hr h => ?_)
  · obtain ⟨a, N, ts, s, R, m, rfl, hw, hs, hc, hm, h1, q⟩ := h
    first | rfl | (rcases h with ⟨_, _, rfl, _⟩ | ⟨_, rfl, _⟩ <;> rfl)
  obtain ⟨a, N, ts, s, R, m, rfl, hw, hs, hc, hm, h1, q⟩ := h
  refine ⟨_, (pss_cons (ps_if (PW.pt (pw_or (pt_not (pt_val (pe_call Ois_listed (hr.mono (by decide)) rfl mis_listed kis_listed bis_listed .nil pass0 (pa_cons (pv 1) pa_nil)))) (pw_or (pt_not (pt_val (pe_call Ois_between (hr.mono (by decide)) rfl mis_between kis_between bis_between .nil pass0 (pa_cons (pe_callB call_len_seq (by rfl) B.len (by decide +kernel) (pa_cons (pv 1) pa_nil)) (pa_cons pe_int (pa_cons (pv 2) pa_nil)))))) (pw_or1 (pt_not (pt_val (pe_call Oare_numbers hr rfl mare_numbers kare_numbers bare_numbers .nil pass0 (pa_cons (pv 0) (pa_cons (pv 1) pa_nil)))))))))
    (pss_one (ps_ret pe_bl)) pss_nil)
  (pss_cons (ps_set (i := 3) sc_go_on.nd rfl (by first | exact Or.inl rfl | exact Or.inr rfl) (pe_meth0 (pv 0) WK.cl tWeb_ties OWeb_ties (hr.mono (by decide)) bWeb_ties .nil pass0))
  (pss_cons (ps_for PassesOwn.never rfl (pi_range2 (by rfl) B.range (pa_cons pe_int (pa_cons (pe_callB call_len_seq (by rfl) B.len (by decide +kernel) (pa_cons (pv 1) pa_nil)) pa_nil))) (pg_name (i := 4) sc_go_on.nd rfl (by first | exact Or.inl rfl | exact Or.inr rfl))
    (pss_one (ps_if (pt_cmpR op_ne (pe_ix ix_tup (pe_ix ix_list (pv 3) (pe_ix ix_seq (pv 1) (pv 4) (fun _ _ => rfl)) (fun _ _ => rfl)) pe_int (fun _ _ => rfl)) (pe_ix ix_tup (pe_ix ix_list (pv 3) (pe_ix ix_seq (pv 1) (pe_op op_sub (pv 4) pe_int) (fun _ _ => rfl)) (fun _ _ => rfl)) pe_int (fun _ _ => rfl)) (nomark _))
    (pss_one (ps_ret pe_bl)) pss_nil)))
  (pss_one (ps_ret pe_bl))))), ?_⟩
  have h0 := hc.n0
  refine ⟨_, rfl, s, rfl, hs.imp (fun h => ⟨_, h⟩) (fun h => ⟨_, h⟩), fun H1 hS1 => ⟨_, rfl, iteF ?_⟩⟩
  refine ⟨_, rfl, s, _, rfl, (hs.same hS1).seq, _, rfl, (R.length : Int), 1, m, ?_, by omega, hm, _, rfl, iteF ?_⟩
  · rw [List.length_map]
    rfl
  refine ⟨_, rfl, _, rfl, a, N, ts, s, R, rfl, hw.same hS1, hs.same hS1, hc.num, fun H2 hS2 => ⟨_, rfl, iteF ?_⟩⟩
  have hw2 := (hw.same hS1).same hS2
  obtain ⟨dx, tl, fl, ol, g1, _⟩ := id hw2
  refine ⟨_, rfl, a, dx, _, rfl, g1, wf_no _ _ _ _ (by decide +kernel) (by decide +kernel) (by decide +kernel) (by decide +kernel), a, N, ts, rfl, hw2, fun H3 l nl hS3 hT => ?_⟩
  have hs3 := ((hs.same hS1).same hS2).same hS3
  refine ⟨_, rfl, s, _, rfl, hs3.seq, _, _, rfl, ⟨by omega, by omega, by omega, by rw [List.length_map]; omega⟩, ?_⟩
  rw [List.length_map, show ((R.length : Int) - 1).toNat = R.length - 1 by omega]
  refine for_range (lo := 1) (n := R.length - 1) (fun i σ H' => H' = H3 ∧ ∃ v, σ = [some (.ref a), some (.ref s), some (.int m), some (.ref l), v]) ⟨rfl, none, rfl⟩ ?_ ?_
  · rintro i σ H4 hi ⟨rfl, v, rfl⟩
    rw [show (1 : Int) + (i : Int) = ((i + 1 : Nat) : Int) by omega]
    obtain ⟨x, y, e, f, e1, e2, e3, e4, e5⟩ := hc.on i (by omega)
    obtain ⟨xs, p, k1, k2, k3⟩ := hT.at_ e4
    obtain ⟨xs', p', k1', k2', k3'⟩ := hT.at_ e3
    refine ⟨_, rfl, _, rfl, _, rfl, hs3.ix (iv_at e2) ⟨_, _, _, _, rfl, rfl, SqL.of k1, k2, _, _, _, _, rfl, rfl, SqT.of k3, rfl, ?_⟩⟩
    refine ⟨_, rfl, _, rfl, _, rfl, _, _, rfl, rfl, hs3.ix (by rw [show ((i + 1 : Nat) : Int) - 1 = (i : Int) by omega]; exact iv_at e1) ⟨_, _, _, _, rfl, rfl, SqL.of k1', k2', _, _, _, _, rfl, rfl, SqT.of k3', rfl, rfl, _, rfl, ?_⟩⟩
    refine iteNot' (by rw [e5]) ⟨rfl, _, rfl⟩
  · rintro σ H4 ⟨rfl, v, rfl⟩
    exact q H4 ((hS1.trans hS2).trans hS3)
def spis_walk (_ : PySem.W.Frag) (C _ : Addr) : Sp := fun vs H Q _ => ∃ a N ts s R, vs = [.ref a, .ref s] ∧ WebAt C a N ts H ∧ SeqAt H s R ∧ Chain ts R ∧ R.length ≤ 400 ∧ ∀ H', Same H H' → Q (.bl true) H'
theorem okis_walk (D : Def K mg "is_walk" sis_walk ["web", "value"]) (B : Bs mg) (Glb : Glo mg) (WK : WebK K mg C) (PK : PieceK K mg C2)
    (hneed_web : Good P w K mg base "need_web" sneed_web ["web"] 3 (spneed_web K C C2))
    (h_go_on : Good P w K mg base "_go_on" s_go_on ["web", "value", "longest"] 5 (sp_go_on K C C2)) :
    Good P w K mg base "is_walk" sis_walk ["web", "value"] 6 (spis_walk K C C2) := by
  refine D.good fun f fd F => ?_
  obtain ⟨fneed_web, dneed_web, Oneed_web, mneed_web, kneed_web, bneed_web, Fneed_web⟩ := hneed_web
  obtain ⟨f_go_on, d_go_on, O_go_on, m_go_on, k_go_on, b_go_on, F_go_on⟩ := h_go_on
  refine F.ok scis_walk (fun vs H Q E h => ?_) (fun cdv A outer s H vs Q E hr h => ?_)
  · obtain ⟨a, N, ts, s, R, rfl, hw, hs, hc, h1, q⟩ := h
    first | rfl | (rcases h with ⟨_, _, rfl, _⟩ | ⟨_, rfl, _⟩ <;> rfl)
  obtain ⟨a, N, ts, s, R, rfl, hw, hs, hc, h1, q⟩ := h
  refine ⟨_, (pss_cons (ps_expr (pe_call Oneed_web (hr.mono (by decide)) rfl mneed_web kneed_web bneed_web .nil pass0 (pa_cons (pv 0) pa_nil)))
  (pss_one (ps_ret (pe_call O_go_on hr rfl m_go_on k_go_on b_go_on .nil pass0 (pa_cons (pv 0) (pa_cons (pv 1) (pa_cons (pe_globI Glb.LONGEST_WALK) pa_nil))))))), ?_⟩
  exact ⟨_, rfl, a, N, ts, rfl, hw, _, rfl, _, rfl, a, N, ts, s, R, 400, rfl, hw, hs, hc, by omega, by omega, q⟩
def spneed_walk (_ : PySem.W.Frag) (C _ : Addr) : Sp := fun vs H Q _ => ∃ a N ts s R, vs = [.ref a, .ref s] ∧ WebAt C a N ts H ∧ SeqAt H s R ∧ Chain ts R ∧ R.length ≤ 400 ∧ ∀ H', Same H H' → Q .non H'
theorem okneed_walk (D : Def K mg "need_walk" sneed_walk ["web", "walk"]) (B : Bs mg) (Glb : Glo mg) (WK : WebK K mg C) (PK : PieceK K mg C2)
    (his_walk : Good P w K mg base "is_walk" sis_walk ["web", "value"] 6 (spis_walk K C C2)) :
    Good P w K mg base "need_walk" sneed_walk ["web", "walk"] 7 (spneed_walk K C C2) := by
  refine D.good fun f fd F => ?_
  obtain ⟨fis_walk, dis_walk, Ois_walk, mis_walk, kis_walk, bis_walk, Fis_walk⟩ := his_walk
  refine F.ok scneed_walk (fun vs H Q E h => ?_) (fun cdv A outer s H vs Q E hr h => ?_)
  · obtain ⟨a, N, ts, s, R, rfl, hw, hs, hc, h1, q⟩ := h
    first | rfl | (rcases h with ⟨_, _, rfl, _⟩ | ⟨_, rfl, _⟩ <;> rfl)
  obtain ⟨a, N, ts, s, R, rfl, hw, hs, hc, h1, q⟩ := h
  refine ⟨_, (pss_one (ps_if (pt_not (pt_val (pe_call Ois_walk hr rfl mis_walk kis_walk bis_walk .nil pass0 (pa_cons (pv 0) (pa_cons (pv 1) pa_nil)))))
    (pss_one ps_never) pss_nil)), ?_⟩
  exact ⟨_, rfl, _, rfl, a, N, ts, s, R, rfl, hw, hs, hc, h1, fun H1 hS1 => ⟨_, rfl, iteF (q H1 hS1)⟩⟩
end
end My
namespace My
open PySem L2 PyProof.Rows
theorem of_a : Str.ofString "a" = ⟨#[97]⟩ := by decide +kernel
theorem of_z : Str.ofString "z" = ⟨#[122]⟩ := by decide +kernel
theorem not_lt_one {a b : Nat} (h : b ≤ a) : ¬ ((⟨#[a]⟩ : Str).cps.toList < (⟨#[b]⟩ : Str).cps.toList) := by
  show ¬ ([a] < [b])
  rw [List.cons_lt_cons_iff]
  rintro (z | ⟨_, z⟩)
  · omega
  · exact absurd z (List.lt_irrefl [])
/-- a text -/
structure OkT (x : Str) : Prop where
  len : x.length ≤ 400
  let_ : ∀ c ∈ x.cps.toList, 97 ≤ c ∧ c ≤ 122
theorem line400 {n : Nat} (h : n ≤ 400) : n ≤ sizeLine := Nat.le_trans h (by decide)
theorem ref_at {ts : List Addr} {i : Nat} {v : V} (h : (ts.map V.ref)[i]? = some v) : ∃ p, ts[i]? = some p ∧ v = .ref p := by
  rw [List.getElem?_map] at h
  cases e : ts[i]? with
  | none => rw [e] at h; cases h
  | some p => rw [e] at h; exact ⟨p, rfl, (Option.some.inj h).symm⟩
theorem str_at {xs : List Str} {i : Nat} {v : V} (h : (xs.map V.str)[i]? = some v) : ∃ x, xs[i]? = some x ∧ v = .str x := by
  rw [List.getElem?_map] at h
  cases e : xs[i]? with
  | none => rw [e] at h; cases h
  | some p => rw [e] at h; exact ⟨p, rfl, (Option.some.inj h).symm⟩
theorem take_snoc {α : Type} {L : List α} {i : Nat} {e : α} (h : L[i]? = some e) : L.take (i + 1) = L.take i ++ [e] := by rw [List.take_succ, h]; rfl
abbrev pc (x : Str) (s p : Nat) : Str := cutS x (some (p : Int)) (some ((p : Int) + (s : Int)))
def pcsN (x : Str) (s : Nat) : Nat → List Str
  | 0 => []
  | n + 1 => pcsN x s n ++ [pc x s n]
theorem pcsN_len (x : Str) (s : Nat) : ∀ n, (pcsN x s n).length = n
  | 0 => rfl
  | n + 1 => by unfold pcsN; rw [List.length_append, pcsN_len x s n]; rfl
abbrev pcs (x : Str) (s : Nat) : List Str := pcsN x s (x.length + 1 - s)
theorem T_len (l : List Nat) : (⟨l.toArray⟩ : Str).length = l.length := by simp [Str.length]
theorem T_line {l : List Nat} (h : l.length ≤ 1000) : (⟨l.toArray⟩ : Str).length ≤ sizeLine := by
  rw [T_len]
  exact Nat.le_of_lt (small1000 h)
theorem T_app (a b : List Nat) : (⟨a.toArray⟩ : Str) ++ (⟨b.toArray⟩ : Str) = ⟨(a ++ b).toArray⟩ := by
  exact congrArg Str.mk (show a.toArray ++ b.toArray = (a ++ b).toArray by simp)
theorem T_inj {a b : List Nat} : T a = T b ↔ a = b := by
  constructor
  · intro h
    have h2 : (⟨a.toArray⟩ : Str) = ⟨b.toArray⟩ := V.str.inj h
    have h3 : a.toArray = b.toArray := Str.mk.inj h2
    simpa using congrArg Array.toList h3
  · rintro rfl
    rfl
theorem T_nil : Str.ofString "" = ⟨([] : List Nat).toArray⟩ := by decide +kernel
theorem at_nat {l : List Nat} {i c : Nat} (h : l[i]? = some c) : atI (⟨l.toArray⟩ : Str).cps.toList (i : Int) = some c := by
  show atI l.toArray.toList (i : Int) = some c
  exact atI_nat (by simpa using h)
theorem cut_from {l : List Nat} {p : Nat} : cutS ⟨l.toArray⟩ (some (p : Int)) none = ⟨(l.drop p).toArray⟩ := by
  unfold cutS
  rw [T_len, HT.sIx_nat, HT.sIx_none]
  refine congrArg Str.mk ?_
  show ((l.toArray.toList.drop (min p l.length)).take (l.length - min p l.length)).toArray = _
  rw [List.toList_toArray]
  congr 1
  rw [List.take_of_length_le (by rw [List.length_drop]; omega)]
  rcases Nat.le_total p l.length with h | h
  · rw [Nat.min_eq_left h]
  · rw [Nat.min_eq_right h, List.drop_eq_nil_of_le h, List.drop_eq_nil_of_le (Nat.le_refl _)]
theorem cut_to {l : List Nat} {p : Nat} : cutS ⟨l.toArray⟩ none (some (p : Int)) = ⟨(l.take p).toArray⟩ := by
  unfold cutS
  rw [T_len, HT.sIx_nat, HT.sIx_none]
  refine congrArg Str.mk ?_
  show ((l.toArray.toList.drop 0).take (min p l.length - 0)).toArray = _
  rw [List.toList_toArray, List.drop_zero, Nat.sub_zero]
  congr 1
  rcases Nat.le_total p l.length with h | h
  · rw [Nat.min_eq_left h]
  · rw [Nat.min_eq_right h, List.take_of_length_le h, List.take_of_length_le (Nat.le_refl _)]
theorem join_T (l : List Nat) : Txt.join (Str.ofString "") (l.map fun c => (⟨#[c]⟩ : Str)) = ⟨l.toArray⟩ := by
  unfold Txt.join
  rw [PySem.StrLaws.glued_eq_join, T_nil]
  exact join_nil_signs ⟨l.toArray⟩
abbrev tS (l : List Nat) : Str := ⟨l.toArray⟩
theorem cutS_at (l : List Nat) (p s : Nat) : pc (tS l) s p = tS ((l.drop p).take s) := by
  unfold pc
  rw [show ((p : Int) + (s : Int)) = ((p + s : Nat) : Int) by omega]
  unfold cutS
  rw [T_len, HT.sIx_nat, HT.sIx_nat]
  refine congrArg Str.mk ?_
  show ((l.toArray.toList.drop (min p l.length)).take (min (p + s) l.length - min p l.length)).toArray = _
  rw [List.toList_toArray]
  congr 1
  rcases Nat.le_total p l.length with h | h
  · rw [Nat.min_eq_left h]
    rcases Nat.le_total (p + s) l.length with k | k
    · rw [Nat.min_eq_left k, show p + s - p = s by omega]
    · rw [Nat.min_eq_right k, List.take_of_length_le (by rw [List.length_drop]; exact Nat.le_refl _), List.take_of_length_le (by rw [List.length_drop]; omega)]
  · rw [Nat.min_eq_right h, List.drop_eq_nil_of_le h, List.drop_eq_nil_of_le (Nat.le_refl _)]
    simp
theorem pcsN_map (x : Str) (s : Nat) : ∀ n, pcsN x s n = (List.range n).map fun k => pc x s k
  | 0 => rfl
  | n + 1 => by
    unfold pcsN
    rw [pcsN_map x s n, List.range_succ, List.map_append]
    rfl
/-- the pieces of a ring, from place to place -/
theorem T_small {l : List Nat} (h : l.length ≤ 1000) : l.length ≤ sizeLine := Nat.le_trans h (by decide)
theorem tS_inj {a b : List Nat} (h : tS a = tS b) : a = b := by
  have := congrArg (fun v : Str => v.cps.toList) h
  simpa using this
theorem tS_lt {a b : List Nat} : sLt (tS a) (tS b) ↔ a < b := by
  unfold sLt
  simp
theorem cut_last (l : List Nat) : cutS (tS l) none (some (-1)) = tS l.dropLast := by
  unfold cutS
  rw [T_len, HT.sIx_none]
  refine congrArg Str.mk ?_
  have e : HT.sIx l.length l.length (some (-1)) = l.length - 1 := by
    show (if (-1 : Int) < 0 then ((-1 : Int) + (l.length : Int)).toNat else min (-1 : Int).toNat l.length) = _
    rw [if_pos (by decide)]
    omega
  rw [e]
  show ((l.toArray.toList.drop 0).take (l.length - 1 - 0)).toArray = _
  rw [List.toList_toArray, List.drop_zero, Nat.sub_zero, List.dropLast_eq_take]
/-- a list or a tuple of texts -/
def SqS (H : Hp) (l : Addr) (L : List Str) : Prop := H l = some (.lst (L.map V.str)) ∨ H l = some (.tup (L.map V.str))
theorem SqS.same {H H' : Hp} {l : Addr} {L : List Str} (h : SqS H l L) (s : Same H H') : SqS H' l L := h.imp (s _ _) (s _ _)
theorem SqS.seq {K : PySem.W.Frag} {H : Hp} {l : Addr} {L : List Str} (h : SqS H l L) : SqL K H l (L.map V.str) ∨ SqT K H l (L.map V.str) := h.imp SqL.of SqT.of
/-- the words of pieces: their beginnings and their ends -/
abbrev fst_ (x : Str) : Str := cutS x none (some (-1))
abbrev lst_ (x : Str) : Str := cutS x (some 1) none
def IsWords (L M : List Str) : Prop := M.Pairwise sLt ∧ ∀ k, k ∈ M ↔ k ∈ L.map fst_ ++ L.map lst_
theorem IsWords.unique {L M N : List Str} (h : IsWords L M) (k : IsWords L N) : M = N :=
  strict_ext (r := sLt) (fun a => sLt_irr a) (fun _ _ _ => sLt_trans) h.1 k.1 fun x => (h.2 x).trans (k.2 x).symm
def OkP (L : List Str) (s : Nat) : Prop := 1 ≤ L.length ∧ L.length ≤ 30 ∧ (∀ x ∈ L, OkT x ∧ x.length = s) ∧ 2 ≤ s ∧ s ≤ 8 ∧ L.Nodup
section
variable {P : Program} {w : World} {K : PySem.W.Frag} {mg : Str → Option Value} {base : Heap} {C C2 : Addr}
def spis_size (_ : PySem.W.Frag) (_ _ : Addr) : Sp := fun vs H Q _ => ∃ n : Nat, vs = [.int (n : Int)] ∧ 2 ≤ n ∧ n ≤ 8 ∧ Q (.bl true) H
theorem okis_size (D : Def K mg "is_size" sis_size ["value"]) (B : Bs mg) (Glb : Glo mg) (WK : WebK K mg C) (PK : PieceK K mg C2)
    (his_between : Good P w K mg base "is_between" sis_between ["value", "least", "most"] 2 (spis_between K C C2)) :
    Good P w K mg base "is_size" sis_size ["value"] 3 (spis_size K C C2) := by
  refine D.good fun f fd F => ?_
  obtain ⟨fis_between, dis_between, Ois_between, mis_between, kis_between, bis_between, Fis_between⟩ := his_between
  refine F.ok scis_size (fun vs H Q E h => ?_) (fun cdv A outer s H vs Q E hr h => ?_)
  · obtain ⟨n, rfl, h1, h2, q⟩ := h
    first | rfl | (rcases h with ⟨_, _, rfl, _⟩ | ⟨_, rfl, _⟩ <;> rfl)
  obtain ⟨n, rfl, h1, h2, q⟩ := h
  refine ⟨_, (pss_one (ps_ret (pe_call Ois_between hr rfl mis_between kis_between bis_between .nil pass0 (pa_cons (pv 0) (pa_cons pe_int (pa_cons pe_int pa_nil)))))), ?_⟩
  exact ⟨_, rfl, n, 2, 8, rfl, by omega, by omega, q⟩
def spis_letter (_ : PySem.W.Frag) (_ _ : Addr) : Sp := fun vs H Q _ => ∃ c : Nat, vs = [.str ⟨#[c]⟩] ∧ 97 ≤ c ∧ c ≤ 122 ∧ Q (.bl true) H
theorem okis_letter (D : Def K mg "is_letter" sis_letter ["sign"]) (B : Bs mg) (Glb : Glo mg) (WK : WebK K mg C) (PK : PieceK K mg C2) :
    Good P w K mg base "is_letter" sis_letter ["sign"] 1 (spis_letter K C C2) := by
  refine D.good fun f fd F => ?_
  refine F.ok scis_letter (fun vs H Q E h => ?_) (fun cdv A outer s H vs Q E hr h => ?_)
  · obtain ⟨c, rfl, h1, h2, q⟩ := h
    first | rfl | (rcases h with ⟨_, _, rfl, _⟩ | ⟨_, rfl, _⟩ <;> rfl)
  obtain ⟨c, rfl, h1, h2, q⟩ := h
  refine ⟨_, (pss_one (ps_ret (pe_chain op_le_str op_le_str pe_str (pv 0) pe_str))), ?_⟩
  have k1 : ¬ ((⟨#[c]⟩ : Str).cps.toList < (Str.ofString "a").cps.toList) := by
    rw [of_a]
    exact not_lt_one h1
  have k2 : ¬ ((Str.ofString "z").cps.toList < (⟨#[c]⟩ : Str).cps.toList) := by
    rw [of_z]
    exact not_lt_one h2
  refine ⟨_, rfl, _, _, rfl, rfl, _, rfl, iteNot k1 ⟨_, _, rfl, rfl, ?_⟩⟩
  show Q (.bl (!decide _)) _
  rw [decide_eq_false k2]
  exact q
def spis_text (_ : PySem.W.Frag) (_ _ : Addr) : Sp := fun vs H Q _ => ∃ x, vs = [.str x] ∧ OkT x ∧ Q (.bl true) H
theorem okis_text (D : Def K mg "is_text" sis_text ["value"]) (B : Bs mg) (Glb : Glo mg) (WK : WebK K mg C) (PK : PieceK K mg C2)
    (his_letter : Good P w K mg base "is_letter" sis_letter ["sign"] 1 (spis_letter K C C2)) :
    Good P w K mg base "is_text" sis_text ["value"] 2 (spis_text K C C2) := by
  refine D.good fun f fd F => ?_
  obtain ⟨fis_letter, dis_letter, Ois_letter, mis_letter, kis_letter, bis_letter, Fis_letter⟩ := his_letter
  refine F.ok scis_text (fun vs H Q E h => ?_) (fun cdv A outer s H vs Q E hr h => ?_)
  · obtain ⟨x, rfl, hl, q⟩ := h
    first | rfl | (rcases h with ⟨_, _, rfl, _⟩ | ⟨_, rfl, _⟩ <;> rfl)
  obtain ⟨x, rfl, hl, q⟩ := h
  refine ⟨_, (pss_cons (ps_if (PW.pt (pw_or (pt_not (pt_val (pe_callB call_isi (by rfl) B.isinstance (by decide +kernel) (pa_cons (pv 0) (pa_cons (pe_bltn (v := .ty "str") (by rfl) B.str (by decide +kernel) rfl) pa_nil))))) (pw_or1 (pt_cmpR op_gt (pe_callB call_len_str (by rfl) B.len (by decide +kernel) (pa_cons (pv 0) pa_nil)) (pe_globI Glb.MOST_LETTERS) (nomark _)))))
    (pss_one (ps_ret pe_bl)) pss_nil)
  (pss_one (ps_ret (pe_drop (pe_callB (cr_all rfl) (by rfl) B.all (by decide +kernel) (pa_cons (pe_lc (own := [("sign", 1)]) (g := gName 1) (by rfl) scis_text.nd (pi_str (pv 0)) (blkOk_by (own := [("sign", 1)]) (N := ["value", "sign"]) (sc := defScope sis_text) (by decide +kernel)) (fun _ _ _ _ _ => (pg_name (i := 1) scis_text.nd rfl (by first | exact Or.inl rfl | exact Or.inr rfl))) (fun _ _ _ _ _ => pts_nil) (fun _ _ _ _ _ => (pe_call Ois_letter hr rfl mis_letter kis_letter bis_letter .nil pass0 (pa_cons (pv 1) pa_nil)))) pa_nil)))))), ?_⟩
  have hlen := hl.len
  refine ⟨_, rfl, _, _, _, _, true, rfl, .ty _, .base (.str _), kit_ty (by decide +kernel), _, rfl, iteF ⟨_, rfl, _, rfl, line400 hlen, _, _, rfl, rfl, _, rfl, iteNo (by omega) ?_⟩⟩
  refine ⟨_, rfl, _, rfl, fun D nD => lc_it walk_str (fun i H' => H' = upd H D (.lst ((List.replicate i true).map V.bl))) rfl (fun _ _ _ _ => trivial) ?_ ?_⟩
  · rintro i y H1 H2 hi rfl ⟨rfl, c, hc, rfl⟩
    have hm := hl.let_ c (by
      have := Array.mem_of_getElem? hc
      simpa using this)
    refine ⟨rfl, _, rfl, c, rfl, hm.1, hm.2, _, upd_same, ?_, ?_⟩
    · rw [List.length_map, List.length_replicate]
      have hi2 : i < x.length := hi
      exact Nat.lt_of_lt_of_le (by omega : i < 1000) (by decide)
    · rw [upd_upd, List.replicate_succ', List.map_append]
      rfl
  · rintro H1 rfl
    refine ⟨D, _, rfl, SqL.of upd_same, D, _, H, rfl, nD, bl_is1 ?_ q⟩
    rw [List.all_eq_true]
    intro b hb
    rw [List.eq_of_mem_replicate hb]
    rfl
def spneed_text (_ : PySem.W.Frag) (_ _ : Addr) : Sp := fun vs H Q _ => ∃ x, vs = [.str x] ∧ OkT x ∧ Q .non H
theorem okneed_text (D : Def K mg "need_text" sneed_text ["text"]) (B : Bs mg) (Glb : Glo mg) (WK : WebK K mg C) (PK : PieceK K mg C2)
    (his_text : Good P w K mg base "is_text" sis_text ["value"] 2 (spis_text K C C2)) :
    Good P w K mg base "need_text" sneed_text ["text"] 3 (spneed_text K C C2) := by
  refine D.good fun f fd F => ?_
  obtain ⟨fis_text, dis_text, Ois_text, mis_text, kis_text, bis_text, Fis_text⟩ := his_text
  refine F.ok scneed_text (fun vs H Q E h => ?_) (fun cdv A outer s H vs Q E hr h => ?_)
  · obtain ⟨x, rfl, hl, q⟩ := h
    first | rfl | (rcases h with ⟨_, _, rfl, _⟩ | ⟨_, rfl, _⟩ <;> rfl)
  obtain ⟨x, rfl, hl, q⟩ := h
  refine ⟨_, (pss_one (ps_if (pt_not (pt_val (pe_call Ois_text hr rfl mis_text kis_text bis_text .nil pass0 (pa_cons (pv 0) pa_nil))))
    (pss_one ps_never) pss_nil)), ?_⟩
  exact ⟨_, rfl, x, rfl, hl, _, rfl, iteF q⟩
def sppieces_along (_ : PySem.W.Frag) (_ _ : Addr) : Sp := fun vs H Q _ => ∃ x s, vs = [.str x, .int ((s : Nat) : Int)] ∧ x.length ≤ 400 ∧ s ≤ 8 ∧ ∀ H' l, Same H H' → H l = none → H' l = some (.lst ((pcs x s).map V.str)) → Q (.ref l) H'
theorem okpieces_along (D : Def K mg "pieces_along" spieces_along ["text", "size"]) (B : Bs mg) (Glb : Glo mg) (WK : WebK K mg C) (PK : PieceK K mg C2) :
    Good P w K mg base "pieces_along" spieces_along ["text", "size"] 1 (sppieces_along K C C2) := by
  refine D.good fun f fd F => ?_
  refine F.ok scpieces_along (fun vs H Q E h => ?_) (fun cdv A outer s H vs Q E hr h => ?_)
  · obtain ⟨x, s, rfl, hx, hs, q⟩ := h
    first | rfl | (rcases h with ⟨_, _, rfl, _⟩ | ⟨_, rfl, _⟩ <;> rfl)
  obtain ⟨x, s, rfl, hx, hs, q⟩ := h
  refine ⟨_, (pss_one (ps_ret (pe_lc (own := [("place", 2)]) (g := gName 2) (by rfl) scpieces_along.nd (pi_range1 (by rfl) B.range (pa_cons (pe_op op_add (pe_op op_sub (pe_callB call_len_str (by rfl) B.len (by decide +kernel) (pa_cons (pv 0) pa_nil)) (pv 1)) pe_int) pa_nil)) (blkOk_by (own := [("place", 2)]) (N := ["text", "size", "place"]) (sc := defScope spieces_along) (by decide +kernel)) (fun _ _ _ _ _ => (pg_name (i := 2) scpieces_along.nd rfl (by first | exact Or.inl rfl | exact Or.inr rfl))) (fun _ _ _ _ _ => pts_nil) (fun _ _ _ _ _ => (pe_slice sl_str (pv 0) (po_some (pv 2)) (po_some (pe_op op_add (pv 2) (pv 1)))))))), ?_⟩
  refine ⟨_, rfl, _, rfl, line400 hx, _, rfl, _, _, rfl, rfl, _, _, rfl, rfl, _, rfl, by omega, by omega, fun D nD => ?_⟩
  rw [show ((x.length : Nat) : Int) - (s : Int) + 1 = ((x.length : Nat) : Int) + 1 - (s : Int) by omega]
  rw [show (((x.length : Nat) : Int) + 1 - (s : Int)).toNat = x.length + 1 - s by omega]
  refine lc_range (lo := 0) (n := x.length + 1 - s) (fun i H' => Same H H' ∧ H' D = some (.lst ((pcsN x s i).map V.str))) ⟨same_new nD _, upd_same⟩ ?_ ?_
  · rintro i H1 hi ⟨hS, hD⟩
    rw [Int.zero_add]
    refine ⟨rfl, _, rfl, _, rfl, _, rfl, _, rfl, _, rfl, _, _, rfl, rfl, _, rfl, _, rfl, line400 hx, _, hD, ?_, same_upd hS nD, ?_⟩
    · rw [List.length_map, pcsN_len]
      exact Nat.lt_of_le_of_lt (by omega : i ≤ 1000) (by decide)
    · rw [upd_same, show pcsN x s (i + 1) = pcsN x s i ++ [pc x s i] from rfl, List.map_append]
      rfl
  · rintro H1 ⟨hS, hD⟩
    exact q H1 D hS nD hD
/-- the texts of the readings and their numbers -/
def spwords_of (_ : PySem.W.Frag) (_ _ : Addr) : Sp := fun vs H Q _ => ∃ l L, vs = [.ref l] ∧ SqS H l L ∧ L.length ≤ 80 ∧ (∀ x ∈ L, x.length ≤ 8) ∧ ∀ (H' : Hp) (p : Addr) (M : List Str), Same H H' → H p = none → H' p = some (.lst (M.map V.str)) → M.length ≤ 2 * L.length → IsWords L M → Q (.ref p) H'
theorem okwords_of (D : Def K mg "words_of" swords_of ["pieces"]) (B : Bs mg) (Glb : Glo mg) (WK : WebK K mg C) (PK : PieceK K mg C2) :
    Good P w K mg base "words_of" swords_of ["pieces"] 1 (spwords_of K C C2) := by
  refine D.good fun f fd F => ?_
  refine F.ok scwords_of (fun vs H Q E h => ?_) (fun cdv A outer s H vs Q E hr h => ?_)
  · obtain ⟨l, L, rfl, hl, hlen, hsm, q⟩ := h
    first | rfl | (rcases h with ⟨_, _, rfl, _⟩ | ⟨_, rfl, _⟩ <;> rfl)
  obtain ⟨l, L, rfl, hl, hlen, hsm, q⟩ := h
  refine ⟨_, (pss_one (ps_ret (pe_callB (cr_sortTx rfl hr.units) (by rfl) B.sorted (by decide +kernel) (pa_cons (pe_callTy (cr_setTx rfl) (by rfl) B.set (by decide +kernel) (pa_cons (pe_op op_cat (pe_lc (own := [("piece", 1)]) (g := gName 1) (by rfl) scwords_of.nd (pi_or (pi_list (pv 0)) (pi_tup (pv 0))) (blkOk_by (own := [("piece", 1)]) (N := ["pieces", "piece"]) (sc := defScope swords_of) (by decide +kernel)) (fun _ _ _ _ _ => (pg_name (i := 1) scwords_of.nd rfl (by first | exact Or.inl rfl | exact Or.inr rfl))) (fun _ _ _ _ _ => pts_nil) (fun _ _ _ _ _ => (pe_slice sl_str (pv 1) po_none (po_some (pe_un un_neg pe_int))))) (pe_lc (own := [("piece", 1)]) (g := gName 1) (by rfl) scwords_of.nd (pi_or (pi_list (pv 0)) (pi_tup (pv 0))) (blkOk_by (own := [("piece", 1)]) (N := ["pieces", "piece"]) (sc := defScope swords_of) (by decide +kernel)) (fun _ _ _ _ _ => (pg_name (i := 1) scwords_of.nd rfl (by first | exact Or.inl rfl | exact Or.inr rfl))) (fun _ _ _ _ _ => pts_nil) (fun _ _ _ _ _ => (pe_slice sl_str (pv 1) (po_some pe_int) po_none)))) pa_nil)) pa_nil)))), ?_⟩
  rcases hl with hh | hh
  · refine .inl ⟨_, rfl, l, rfl, ⟨_, SqL.of hh⟩, fun D1 nD1 => ?_⟩
    refine lc_list (K := K) (a := l) (xs := L.map V.str) (fun j H' => Same H H' ∧ H' D1 = some (.lst (((L.take j).map fun x => cutS x none (some (-1))).map V.str))) ⟨same_new nD1 _, upd_same⟩ (fun j H' _ ⟨hS', _⟩ => SqL.of (hS' _ _ hh)) ?_ ?_
    · rintro j y H1 hy ⟨hS1, hD1⟩
      obtain ⟨x, hx, rfl⟩ := str_at hy
      have hj := (List.getElem?_eq_some_iff.mp hx).1
      have h8 := hsm x (List.mem_of_getElem? hx)
      refine ⟨rfl, _, rfl, _, rfl, _, rfl, _, rfl, line400 (by omega), _, hD1, ?_, same_upd hS1 nD1, ?_⟩
      · rw [List.length_map, List.length_map, List.length_take]
        exact Nat.lt_of_le_of_lt (Nat.min_le_left _ _) (Nat.lt_of_lt_of_le (by omega : j < 1000) (by decide))
      · rw [upd_same, take_snoc hx, List.map_append, List.map_append]
        rfl
    rintro H1 ⟨hS1, hD1⟩
    rw [List.length_map, List.take_length] at hD1
    refine .inl ⟨_, rfl, l, rfl, ⟨_, SqL.of (hS1 _ _ hh)⟩, fun D2 nD2 => ?_⟩
    refine lc_list (K := K) (a := l) (xs := L.map V.str) (fun j H' => Same H1 H' ∧ H' D2 = some (.lst (((L.take j).map fun x => cutS x (some 1) none).map V.str))) ⟨same_new nD2 _, upd_same⟩ (fun j H' _ ⟨hS', _⟩ => SqL.of (hS' _ _ (hS1 _ _ hh))) ?_ ?_
    · rintro j y H2 hy ⟨hS2, hD2⟩
      obtain ⟨x, hx, rfl⟩ := str_at hy
      have hj := (List.getElem?_eq_some_iff.mp hx).1
      have h8 := hsm x (List.mem_of_getElem? hx)
      refine ⟨rfl, _, rfl, _, rfl, _, rfl, line400 (by omega), _, hD2, ?_, same_upd hS2 nD2, ?_⟩
      · rw [List.length_map, List.length_map, List.length_take]
        exact Nat.lt_of_le_of_lt (Nat.min_le_left _ _) (Nat.lt_of_lt_of_le (by omega : j < 1000) (by decide))
      · rw [upd_same, take_snoc hx, List.map_append, List.map_append]
        rfl
    rintro H2 ⟨hS2, hD2⟩
    rw [List.length_map, List.take_length] at hD2
    have hS02 := hS1.trans hS2
    refine ⟨D1, D2, _, _, rfl, rfl, hS2 _ _ hD1, hD2, ?_, fun p np => ?_⟩
    · rw [List.length_map, List.length_map, List.length_map, List.length_map]
      exact line400 (by omega)
    have hS3 : Same H (upd H2 p (.lst (((L.map fun x => cutS x none (some (-1))).map V.str) ++ ((L.map fun x => cutS x (some 1) none).map V.str)))) := fun b o e => same_new np _ _ _ (hS02 _ _ e)
    have hp3 : (upd H2 p (.lst (((L.map fun x => cutS x none (some (-1))).map V.str) ++ ((L.map fun x => cutS x (some 1) none).map V.str)))) p = some (.lst (((L.map fun x => cutS x none (some (-1))) ++ (L.map fun x => cutS x (some 1) none)).map V.str)) := by rw [upd_same, List.map_append]
    generalize upd H2 p (.lst (((L.map fun x => cutS x none (some (-1))).map V.str) ++ ((L.map fun x => cutS x (some 1) none).map V.str))) = H3 at hS3 hp3
    have hxl : ((L.map fun x => cutS x none (some (-1))) ++ (L.map fun x => cutS x (some 1) none)).length = 2 * L.length := by
      rw [List.length_append, List.length_map, List.length_map]
      omega
    refine ⟨p, _, rfl, .inl (SqL.of hp3), by rw [hxl]; omega, fun sp n _ hle nsp => ⟨sp, _, n, rfl, upd_same, by rw [hxl] at hle; omega, fun M mp hPw hmem hM nmp => ?_⟩⟩
    refine q _ mp M (fun b o e => same_new nmp _ _ _ (same_new nsp _ _ _ (hS3 _ _ e))) (hS3.free ((same_new (o := TxO _ _ _ _) nsp).free nmp)) upd_same (by rw [hM, ← hxl]; exact hle) ⟨hPw, fun k => (hmem k).trans (by unfold hasT; exact decide_eq_true_iff)⟩
  · refine .inr ⟨_, rfl, l, rfl, ⟨_, SqT.of hh⟩, fun D1 nD1 => ?_⟩
    refine lc_tup (K := K) (a := l) (xs := L.map V.str) (fun j H' => Same H H' ∧ H' D1 = some (.lst (((L.take j).map fun x => cutS x none (some (-1))).map V.str))) ⟨same_new nD1 _, upd_same⟩ (fun j H' _ ⟨hS', _⟩ => SqT.of (hS' _ _ hh)) ?_ ?_
    · rintro j y H1 hy ⟨hS1, hD1⟩
      obtain ⟨x, hx, rfl⟩ := str_at hy
      have hj := (List.getElem?_eq_some_iff.mp hx).1
      have h8 := hsm x (List.mem_of_getElem? hx)
      refine ⟨rfl, _, rfl, _, rfl, _, rfl, _, rfl, line400 (by omega), _, hD1, ?_, same_upd hS1 nD1, ?_⟩
      · rw [List.length_map, List.length_map, List.length_take]
        exact Nat.lt_of_le_of_lt (Nat.min_le_left _ _) (Nat.lt_of_lt_of_le (by omega : j < 1000) (by decide))
      · rw [upd_same, take_snoc hx, List.map_append, List.map_append]
        rfl
    rintro H1 ⟨hS1, hD1⟩
    rw [List.length_map, List.take_length] at hD1
    refine .inr ⟨_, rfl, l, rfl, ⟨_, SqT.of (hS1 _ _ hh)⟩, fun D2 nD2 => ?_⟩
    refine lc_tup (K := K) (a := l) (xs := L.map V.str) (fun j H' => Same H1 H' ∧ H' D2 = some (.lst (((L.take j).map fun x => cutS x (some 1) none).map V.str))) ⟨same_new nD2 _, upd_same⟩ (fun j H' _ ⟨hS', _⟩ => SqT.of (hS' _ _ (hS1 _ _ hh))) ?_ ?_
    · rintro j y H2 hy ⟨hS2, hD2⟩
      obtain ⟨x, hx, rfl⟩ := str_at hy
      have hj := (List.getElem?_eq_some_iff.mp hx).1
      have h8 := hsm x (List.mem_of_getElem? hx)
      refine ⟨rfl, _, rfl, _, rfl, _, rfl, line400 (by omega), _, hD2, ?_, same_upd hS2 nD2, ?_⟩
      · rw [List.length_map, List.length_map, List.length_take]
        exact Nat.lt_of_le_of_lt (Nat.min_le_left _ _) (Nat.lt_of_lt_of_le (by omega : j < 1000) (by decide))
      · rw [upd_same, take_snoc hx, List.map_append, List.map_append]
        rfl
    rintro H2 ⟨hS2, hD2⟩
    rw [List.length_map, List.take_length] at hD2
    have hS02 := hS1.trans hS2
    refine ⟨D1, D2, _, _, rfl, rfl, hS2 _ _ hD1, hD2, ?_, fun p np => ?_⟩
    · rw [List.length_map, List.length_map, List.length_map, List.length_map]
      exact line400 (by omega)
    have hS3 : Same H (upd H2 p (.lst (((L.map fun x => cutS x none (some (-1))).map V.str) ++ ((L.map fun x => cutS x (some 1) none).map V.str)))) := fun b o e => same_new np _ _ _ (hS02 _ _ e)
    have hp3 : (upd H2 p (.lst (((L.map fun x => cutS x none (some (-1))).map V.str) ++ ((L.map fun x => cutS x (some 1) none).map V.str)))) p = some (.lst (((L.map fun x => cutS x none (some (-1))) ++ (L.map fun x => cutS x (some 1) none)).map V.str)) := by rw [upd_same, List.map_append]
    generalize upd H2 p (.lst (((L.map fun x => cutS x none (some (-1))).map V.str) ++ ((L.map fun x => cutS x (some 1) none).map V.str))) = H3 at hS3 hp3
    have hxl : ((L.map fun x => cutS x none (some (-1))) ++ (L.map fun x => cutS x (some 1) none)).length = 2 * L.length := by
      rw [List.length_append, List.length_map, List.length_map]
      omega
    refine ⟨p, _, rfl, .inl (SqL.of hp3), by rw [hxl]; omega, fun sp n _ hle nsp => ⟨sp, _, n, rfl, upd_same, by rw [hxl] at hle; omega, fun M mp hPw hmem hM nmp => ?_⟩⟩
    refine q _ mp M (fun b o e => same_new nmp _ _ _ (same_new nsp _ _ _ (hS3 _ _ e))) (hS3.free ((same_new (o := TxO _ _ _ _) nsp).free nmp)) upd_same (by rw [hM, ← hxl]; exact hle) ⟨hPw, fun k => (hmem k).trans (by unfold hasT; exact decide_eq_true_iff)⟩
def spare_pieces (_ : PySem.W.Frag) (_ _ : Addr) : Sp := fun vs H Q _ => ∃ l L, vs = [.ref l] ∧ SqS H l L ∧ 1 ≤ L.length ∧ L.length ≤ 30 ∧ (∀ x ∈ L, OkT x) ∧ (∃ s, 2 ≤ s ∧ s ≤ 8 ∧ ∀ x ∈ L, x.length = s) ∧ L.Nodup ∧ ∀ H', Same H H' → Q (.bl true) H'
theorem okare_pieces (D : Def K mg "are_pieces" sare_pieces ["value"]) (B : Bs mg) (Glb : Glo mg) (WK : WebK K mg C) (PK : PieceK K mg C2)
    (his_listed : Good P w K mg base "is_listed" sis_listed ["value"] 1 (spis_listed K C C2))
    (his_between : Good P w K mg base "is_between" sis_between ["value", "least", "most"] 2 (spis_between K C C2))
    (his_text : Good P w K mg base "is_text" sis_text ["value"] 2 (spis_text K C C2))
    (his_size : Good P w K mg base "is_size" sis_size ["value"] 3 (spis_size K C C2))
    (hwords_of : Good P w K mg base "words_of" swords_of ["pieces"] 1 (spwords_of K C C2)) :
    Good P w K mg base "are_pieces" sare_pieces ["value"] 4 (spare_pieces K C C2) := by
  refine D.good fun f fd F => ?_
  obtain ⟨fis_listed, dis_listed, Ois_listed, mis_listed, kis_listed, bis_listed, Fis_listed⟩ := his_listed
  obtain ⟨fis_between, dis_between, Ois_between, mis_between, kis_between, bis_between, Fis_between⟩ := his_between
  obtain ⟨fis_text, dis_text, Ois_text, mis_text, kis_text, bis_text, Fis_text⟩ := his_text
  obtain ⟨fis_size, dis_size, Ois_size, mis_size, kis_size, bis_size, Fis_size⟩ := his_size
  obtain ⟨fwords_of, dwords_of, Owords_of, mwords_of, kwords_of, bwords_of, Fwords_of⟩ := hwords_of
  refine F.ok scare_pieces (fun vs H Q E h => ?_) (fun cdv A outer s H vs Q E hr h => ?_)
  · obtain ⟨l, L, rfl, hl, h1, hlen, hok, ⟨s, hs1, hs2, hsz⟩, hnd, q⟩ := h
    first | rfl | (rcases h with ⟨_, _, rfl, _⟩ | ⟨_, rfl, _⟩ <;> rfl)
  obtain ⟨l, L, rfl, hl, h1, hlen, hok, ⟨s, hs1, hs2, hsz⟩, hnd, q⟩ := h
  refine ⟨_, (pss_cons (ps_if (PW.pt (pw_or (pt_not (pt_val (pe_call Ois_listed (hr.mono (by decide)) rfl mis_listed kis_listed bis_listed .nil pass0 (pa_cons (pv 0) pa_nil)))) (pw_or1 (pt_not (pt_val (pe_call Ois_between (hr.mono (by decide)) rfl mis_between kis_between bis_between .nil pass0 (pa_cons (pe_callB call_len_seq (by rfl) B.len (by decide +kernel) (pa_cons (pv 0) pa_nil)) (pa_cons pe_int (pa_cons (pe_globI Glb.MOST_PIECES) pa_nil)))))))))
    (pss_one (ps_ret pe_bl)) pss_nil)
  (pss_cons (ps_for PassesOwn.never rfl (pi_or (pi_list (pv 0)) (pi_tup (pv 0))) (pg_name (i := 1) scare_pieces.nd rfl (by first | exact Or.inl rfl | exact Or.inr rfl))
    (pss_one (ps_if (PW.pt (pw_or (pt_not (pt_val (pe_call Ois_text (hr.mono (by decide)) rfl mis_text kis_text bis_text .nil pass0 (pa_cons (pv 1) pa_nil)))) (pw_or (pt_not (pt_val (pe_call Ois_size hr rfl mis_size kis_size bis_size .nil pass0 (pa_cons (pe_callB call_len_str (by rfl) B.len (by decide +kernel) (pa_cons (pv 1) pa_nil)) pa_nil)))) (pw_or1 (pt_cmpR op_ne (pe_callB call_len_str (by rfl) B.len (by decide +kernel) (pa_cons (pv 1) pa_nil)) (pe_callB call_len_str (by rfl) B.len (by decide +kernel) (pa_cons (pe_ix ix_seq (pv 0) pe_int (fun _ _ => rfl)) pa_nil)) (nomark _))))))
    (pss_one (ps_ret pe_bl)) pss_nil)))
  (pss_one (ps_ret (pe_and (pe_cmpR op_eq (pe_callB cr_lenTx (by rfl) B.len (by decide +kernel) (pa_cons (pe_callTy (cr_setTx rfl) (by rfl) B.set (by decide +kernel) (pa_cons (pv 0) pa_nil)) pa_nil)) (pe_callB call_len_seq (by rfl) B.len (by decide +kernel) (pa_cons (pv 0) pa_nil)) (nomark _)) (pe_one (pe_cmpR op_le (pe_callB call_len_seq (by rfl) B.len (by decide +kernel) (pa_cons (pe_call Owords_of (hr.mono (by decide)) rfl mwords_of kwords_of bwords_of .nil pass0 (pa_cons (pv 0) pa_nil)) pa_nil)) (pe_globI Glb.MOST_WORDS) (nomark _)))))))), ?_⟩
  obtain ⟨x0, hx0⟩ : ∃ x, L[0]? = some x := ⟨L[0]'(by omega), List.getElem?_eq_getElem _⟩
  have hs0 := hsz x0 (List.mem_of_getElem? hx0)
  refine ⟨_, rfl, l, rfl, hl.imp (fun h => ⟨_, h⟩) (fun h => ⟨_, h⟩), fun H1 hS1 => ⟨_, rfl, iteF ?_⟩⟩
  have hl1 : SqS H1 l L := hl.imp (hS1 _ _) (hS1 _ _)
  refine ⟨_, rfl, l, _, rfl, hl1.imp (fun h => SqL.of h) (fun h => SqT.of h), _, 1, 80, rfl, by rw [List.length_map]; omega, by rw [List.length_map]; omega, _, rfl, iteF ?_⟩
  suffices fin : ∀ v : Option V, _ by
    rcases id hl1 with hh | hh
    · refine .inl ⟨_, rfl, l, rfl, ⟨_, SqL.of hh⟩, ?_⟩
      refine for_list (K := K) (a := l) (xs := L.map V.str) (fun i σ H' => H' = H1 ∧ ∃ v, σ = [some (.ref l), v]) ⟨rfl, none, rfl⟩ (fun i σ H' _ ⟨e, _⟩ => by rw [e]; exact SqL.of hh) ?_ ?_
      · rintro i y σ H2 hy ⟨rfl, v, rfl⟩
        obtain ⟨x, hx, rfl⟩ := str_at hy
        have hm := List.mem_of_getElem? hx
        have hxs := hsz x hm
        refine ⟨_, rfl, x, rfl, hok x hm, _, rfl, iteF ⟨_, rfl, _, rfl, line400 (by omega), x.length, rfl, by omega, by omega, _, rfl, iteF ?_⟩⟩
        refine ⟨_, rfl, _, rfl, line400 (by omega), _, rfl, .inl ⟨_, _, _, .str x0, rfl, rfl, SqL.of hh, atI_nat (j := 0) (by rw [List.getElem?_map, hx0]; rfl), x0, rfl, line400 (by omega), rfl, _, rfl, ?_⟩⟩
        exact iteNot' (by rw [hxs, hs0]) ⟨rfl, _, rfl⟩
      · rintro σ H2 ⟨hE, v, rfl⟩
        have hE := hE.symm
        subst hE
        exact fin v
    · refine .inr ⟨_, rfl, l, rfl, ⟨_, SqT.of hh⟩, ?_⟩
      refine for_tup (K := K) (a := l) (xs := L.map V.str) (fun i σ H' => H' = H1 ∧ ∃ v, σ = [some (.ref l), v]) ⟨rfl, none, rfl⟩ (fun i σ H' _ ⟨e, _⟩ => by rw [e]; exact SqT.of hh) ?_ ?_
      · rintro i y σ H2 hy ⟨rfl, v, rfl⟩
        obtain ⟨x, hx, rfl⟩ := str_at hy
        have hm := List.mem_of_getElem? hx
        have hxs := hsz x hm
        refine ⟨_, rfl, x, rfl, hok x hm, _, rfl, iteF ⟨_, rfl, _, rfl, line400 (by omega), x.length, rfl, by omega, by omega, _, rfl, iteF ?_⟩⟩
        refine ⟨_, rfl, _, rfl, line400 (by omega), _, rfl, .inr (.inl ⟨_, _, _, .str x0, rfl, rfl, SqT.of hh, atI_nat (j := 0) (by rw [List.getElem?_map, hx0]; rfl), x0, rfl, line400 (by omega), rfl, _, rfl, ?_⟩)⟩
        exact iteNot' (by rw [hxs, hs0]) ⟨rfl, _, rfl⟩
      · rintro σ H2 ⟨hE, v, rfl⟩
        have hE := hE.symm
        subst hE
        exact fin v
  intro v
  have hS2 := hS1
  have hl2 := hl1
  refine ⟨_, rfl, l, L, rfl, hl2.imp (fun h => SqL.of h) (fun h => SqT.of h), by omega, fun sp n hn hle nsp => ⟨sp, _, n, rfl, upd_same, by omega, ?_⟩⟩
  have hn2 := hn L hnd (fun k => Iff.rfl)
  have hS3 := same_new nsp (TxO w sp (hasT L) n)
  have hl3 : SqS (upd H1 sp (TxO w sp (hasT L) n)) l L := hl2.imp (hS3 _ _) (hS3 _ _)
  refine ⟨_, rfl, l, _, rfl, hl3.imp (fun h => SqL.of h) (fun h => SqT.of h), rfl, _, rfl, iteYes (by rw [List.length_map, hn2]) ?_⟩
  refine ⟨_, rfl, l, L, rfl, hl3, by omega, fun x hx => by have := hsz x hx; omega, fun H4 p M hS4 np hp hM _ => ⟨p, _, rfl, .inl (SqL.of hp), _, _, rfl, rfl, ?_⟩⟩
  exact bl_true (by rw [List.length_map]; omega) (q _ fun b o e => hS4 _ _ (hS3 _ _ (hS2 _ _ e)))
def spneed_pieces (_ : PySem.W.Frag) (_ _ : Addr) : Sp := fun vs H Q _ => ∃ l L s, vs = [.ref l] ∧ SqS H l L ∧ OkP L s ∧ ∀ H', Same H H' → Q .non H'
theorem okneed_pieces (D : Def K mg "need_pieces" sneed_pieces ["pieces"]) (B : Bs mg) (Glb : Glo mg) (WK : WebK K mg C) (PK : PieceK K mg C2)
    (hare_pieces : Good P w K mg base "are_pieces" sare_pieces ["value"] 4 (spare_pieces K C C2)) :
    Good P w K mg base "need_pieces" sneed_pieces ["pieces"] 5 (spneed_pieces K C C2) := by
  refine D.good fun f fd F => ?_
  obtain ⟨fare_pieces, dare_pieces, Oare_pieces, mare_pieces, kare_pieces, bare_pieces, Fare_pieces⟩ := hare_pieces
  refine F.ok scneed_pieces (fun vs H Q E h => ?_) (fun cdv A outer s H vs Q E hr h => ?_)
  · obtain ⟨l, L, s, rfl, hl, ⟨h1, h2, h3, h4, h5, h6⟩, q⟩ := h
    first | rfl | (rcases h with ⟨_, _, rfl, _⟩ | ⟨_, rfl, _⟩ <;> rfl)
  obtain ⟨l, L, s, rfl, hl, ⟨h1, h2, h3, h4, h5, h6⟩, q⟩ := h
  refine ⟨_, (pss_one (ps_if (pt_not (pt_val (pe_call Oare_pieces hr rfl mare_pieces kare_pieces bare_pieces .nil pass0 (pa_cons (pv 0) pa_nil))))
    (pss_one ps_never) pss_nil)), ?_⟩
  exact ⟨_, rfl, l, L, rfl, hl, h1, h2, fun x hx => (h3 x hx).1, ⟨s, h4, h5, fun x hx => (h3 x hx).2⟩, h6, fun H1 hS => ⟨_, rfl, iteF (q H1 hS)⟩⟩
end
end My
namespace My
open PySem L2 PyProof.Rows
abbrev tzD (e : Nat × Nat) : PyData := .tuple [.int (e.1 : Int), .int (e.2 : Int)]
abbrev tz (ts : List (Nat × Nat)) : PyData := .list (ts.map tzD)
theorem dpAll_tz {K : PySem.W.Frag} {H : Hp} : ∀ {tas : List Addr} {ts : List (Nat × Nat)}, Paired (TupAt H) tas ts → DpAll K H (tas.map V.ref) (ts.map tzD)
  | _, _, .nil => .nil
  | _, _, .cons h r => .cons (.tup (SqT.of h) (.cons (.int _) (.cons (.int _) .nil))) (dpAll_tz r)
theorem dp_tz {K : PySem.W.Frag} {H : Hp} {t : Addr} {ts : List (Nat × Nat)} (h : TiesAt H t ts) : Dp K H (.ref t) (tz ts) := by
  obtain ⟨tas, h1, h2⟩ := h
  exact .lst (SqL.of h1) (dpAll_tz h2)
theorem layAll_tz : ∀ ts : List (Nat × Nat), PyData.canLayAll0 (ts.map tzD) = true
  | [] => rfl
  | e :: r => by
    show (PyData.canLay0 (tzD e) && PyData.canLayAll0 (r.map tzD)) = true
    rw [layAll_tz r]
    rfl
theorem depthAll_tz (e : Nat × Nat) : ∀ r : List (Nat × Nat), PyData.depthAll ((e :: r).map tzD) = 1
  | [] => rfl
  | f :: r => by
    show max (PyData.depth (tzD e)) (PyData.depthAll ((f :: r).map tzD)) = 1
    rw [depthAll_tz f r]
    rfl
theorem shaped_tz : ∀ ts : List (Nat × Nat), SeqAt.shaped (tz ts) = true
  | [] => shaped_iz []
  | e :: r => by
    unfold SeqAt.shaped
    have h1 : PyData.canLay0 (tz (e :: r)) = true := by
      show PyData.canLay0 (.list ((e :: r).map tzD)) = true
      unfold PyData.canLay0
      exact layAll_tz _
    have h2 : PyData.depth (tz (e :: r)) = 2 := by
      show PyData.depth (.list ((e :: r).map tzD)) = 2
      unfold PyData.depth
      rw [depthAll_tz]
    rw [h1, h2]
    rfl
theorem eqv_tzs (ts : List (Nat × Nat)) : PyData.eqv (tz ts) (tz ts) = true := SeqAt.eqv_refl _ (SeqAt.canLay_of_shaped (shaped_tz ts))
def PotOk (x y : Int) : Prop := 0 ≤ x ∧ 0 ≤ y ∧ y < 2147483588
def PotAt (H : Hp) (a : Addr) : Prop := ∃ x y : Int, H a = some (.lst [.int x, .int y]) ∧ PotOk x y
theorem PotAt.new {H : Hp} {a p : Addr} {o : HO} (h : PotAt H a) (np : H p = none) : PotAt (upd H p o) a := by
  obtain ⟨x, y, e, h⟩ := h
  exact ⟨x, y, by rw [upd_ne (ne_of_none e np)]; exact e, h⟩
theorem PotAt.put {H : Hp} {a p : Addr} {o : HO} (h : PotAt H a) (np : p ≠ a) : PotAt (upd H p o) a := by
  obtain ⟨x, y, e, h⟩ := h
  exact ⟨x, y, by rw [upd_ne np.symm]; exact e, h⟩
theorem PotAt.same {H H' : Hp} {a : Addr} (h : PotAt H a) (s : Same H H') : PotAt H' a := by
  obtain ⟨x, y, e, h⟩ := h
  exact ⟨x, y, s _ _ e, h⟩
theorem PotAt.ne {H : Hp} {a p : Addr} (h : PotAt H a) (np : H p = none) : p ≠ a := by
  obtain ⟨x, y, e, h⟩ := h
  exact (ne_of_none e np).symm
theorem PotAt.ntup {H : Hp} {a p : Addr} {xs : List V} (h : PotAt H a) (hp : H p = some (.tup xs)) : p ≠ a := by
  obtain ⟨x, y, e, h⟩ := h
  exact ne_of hp e (by intro q; cases q)
theorem Kept.new {H H' : Hp} {a p : Addr} {o : HO} (h : Kept a H H') (np : H' p = none) : Kept a H (upd H' p o) := h.trans (Same.kept (same_new np o))
theorem Kept.put {H H' : Hp} {a p : Addr} {o : HO} (h : Kept a H H') (np : H p = none) : Kept a H (upd H' p o) := fun b u e n => by
  rw [upd_ne (ne_of_none e np)]
  exact h b u e n
theorem TiesAt.kept {H H' : Hp} {a t : Addr} {ts : List (Nat × Nat)} (h : TiesAt H t ts) (k : Kept a H H') (hp : PotAt H a) (hn : t ≠ a) : TiesAt H' t ts := by
  obtain ⟨tas, h1, h2⟩ := h
  exact ⟨tas, k _ _ h1 hn, paired_mono (fun p e hq => k _ _ hq (hp.ntup hq)) h2⟩
theorem paired_app {α β : Type} {F : α → β → Prop} {a : α} {b : β} : ∀ {l1 : List α} {l2 : List β}, Paired F l1 l2 → F a b → Paired F (l1 ++ [a]) (l2 ++ [b])
  | _, _, .nil, h => .cons h .nil
  | _, _, .cons r t, h => .cons r (paired_app t h)
theorem paired_apps {α β : Type} {F : α → β → Prop} : ∀ {l1 m1 : List α} {l2 m2 : List β}, Paired F l1 l2 → Paired F m1 m2 → Paired F (l1 ++ m1) (l2 ++ m2)
  | _, _, _, _, .nil, h => h
  | _, _, _, _, .cons r t, h => .cons r (paired_apps t h)
theorem paired_rev {α β : Type} {F : α → β → Prop} : ∀ {l1 : List α} {l2 : List β}, Paired F l1 l2 → Paired F l1.reverse l2.reverse
  | _, _, .nil => .nil
  | _, _, .cons r t => by
    rw [List.reverse_cons, List.reverse_cons]
    exact paired_app (paired_rev t) r
theorem TiesAt.push {H : Hp} {p tp : Addr} {ts : List (Nat × Nat)} {u v : Nat} (h : TiesAt H p ts) (nt : H tp = none) :
    ∃ xs, (upd H tp (.tup [.int (u : Int), .int (v : Int)])) p = some (.lst xs) ∧ xs.length = ts.length ∧ TiesAt (upd (upd H tp (.tup [.int (u : Int), .int (v : Int)])) p (.lst (xs ++ [.ref tp]))) p (ts ++ [(u, v)]) := by
  obtain ⟨tas, h1, h2⟩ := h
  have npt : p ≠ tp := ne_of_none h1 nt
  refine ⟨tas.map V.ref, by rw [upd_ne npt]; exact h1, by rw [List.length_map]; exact paired_len h2, tas ++ [tp], by rw [upd_same, List.map_append]; rfl, paired_app (paired_mono (fun q e hq => ?_) h2) ?_⟩
  · have nqp : q ≠ p := ne_of hq h1 (by intro z; cases z)
    show upd _ _ _ q = _
    rw [upd_ne nqp, upd_ne (ne_of_none hq nt)]
    exact hq
  · show upd _ _ _ tp = _
    rw [upd_ne npt.symm, upd_same]
theorem TiesAt.pushV {H : Hp} {p tp : Addr} {ts : List (Nat × Nat)} {u v : Nat} {x y : V} (hx : x = .int (u : Int)) (hy : y = .int (v : Int)) (h : TiesAt H p ts) (nt : H tp = none) :
    ∃ xs, (upd H tp (.tup [x, y])) p = some (.lst xs) ∧ xs.length = ts.length ∧ TiesAt (upd (upd H tp (.tup [x, y])) p (.lst (xs ++ [.ref tp]))) p (ts ++ [(u, v)]) := by
  subst hx hy
  exact h.push nt
theorem TiesAt.nil {H : Hp} {p : Addr} : TiesAt (upd H p (.lst [])) p [] := ⟨[], upd_same, .nil⟩
theorem TiesAt.cat {H : Hp} {l m p : Addr} {ts us : List (Nat × Nat)} (h : TiesAt H l ts) (k : TiesAt H m us) (np : H p = none) : ∃ xs zs, H l = some (.lst xs) ∧ H m = some (.lst zs) ∧ xs.length = ts.length ∧ zs.length = us.length ∧ TiesAt (upd H p (.lst (xs ++ zs))) p (ts ++ us) := by
  obtain ⟨tas, h1, h2⟩ := h
  obtain ⟨uas, k1, k2⟩ := k
  refine ⟨_, _, h1, k1, by rw [List.length_map]; exact paired_len h2, by rw [List.length_map]; exact paired_len k2, tas ++ uas, by rw [upd_same, List.map_append], paired_mono (fun q e hq => ?_) (paired_apps h2 k2)⟩
  exact same_new np _ _ _ hq
theorem TiesAt.get {H : Hp} {l : Addr} {ts : List (Nat × Nat)} (h : TiesAt H l ts) : ∃ xs, H l = some (.lst xs) ∧ xs.length = ts.length := by
  obtain ⟨tas, h1, h2⟩ := h
  exact ⟨_, h1, by rw [List.length_map]; exact paired_len h2⟩
theorem TiesAt.new {H : Hp} {l p : Addr} {ts : List (Nat × Nat)} {o : HO} (h : TiesAt H l ts) (np : H p = none) : TiesAt (upd H p o) l ts := h.same (same_new np o)
theorem TiesAt.rev {H : Hp} {l p : Addr} {ts : List (Nat × Nat)} (h : TiesAt H l ts) (np : H p = none) : ∃ xs, H l = some (.lst xs) ∧ TiesAt (upd H p (.lst xs.reverse)) p ts.reverse := by
  obtain ⟨tas, h1, h2⟩ := h
  refine ⟨_, h1, tas.reverse, by rw [upd_same, List.map_reverse], paired_mono (fun q e hq => same_new np _ _ _ hq) (paired_rev h2)⟩
theorem TiesAt.catOne {H : Hp} {l p : Addr} {ts : List (Nat × Nat)} {tp : Addr} {u v : Nat} (h : TiesAt H l ts) (ht : H tp = some (.tup [.int (u : Int), .int (v : Int)])) (np : H p = none) :
    ∃ xs, H l = some (.lst xs) ∧ xs.length = ts.length ∧ TiesAt (upd H p (.lst (xs ++ [.ref tp]))) p (ts ++ [(u, v)]) := by
  obtain ⟨tas, h1, h2⟩ := h
  refine ⟨_, h1, by rw [List.length_map]; exact paired_len h2, tas ++ [tp], by rw [upd_same, List.map_append]; rfl, paired_app (paired_mono (fun q e hq => same_new np _ _ _ hq) h2) (same_new np _ _ _ ht)⟩
theorem Kept.free {a p : Addr} {H H' : Hp} (h : Kept a H H') (hn : H' p = none) (np : p ≠ a) : H p = none := by
  cases e : H p with
  | none => rfl
  | some o =>
    have := h p o e np
    rw [hn] at this
    cases this
theorem ok_app {N : Nat} {ts us : List (Nat × Nat)} (h : ∀ e ∈ ts, e.1 < N ∧ e.2 < N) (k : ∀ e ∈ us, e.1 < N ∧ e.2 < N) : ∀ e ∈ ts ++ us, e.1 < N ∧ e.2 < N := fun e he => (List.mem_append.mp he).elim (h e) (k e)
theorem ok_one {N u v : Nat} (h1 : u < N) (h2 : v < N) : ∀ e ∈ [(u, v)], e.1 < N ∧ e.2 < N := fun e he => by rw [List.mem_singleton.mp he]; exact ⟨h1, h2⟩
theorem ok_up {N M : Nat} {ts : List (Nat × Nat)} (h : ∀ e ∈ ts, e.1 < N ∧ e.2 < N) (hm : N ≤ M) : ∀ e ∈ ts, e.1 < M ∧ e.2 < M := fun e he => ⟨Nat.lt_of_lt_of_le (h e he).1 hm, Nat.lt_of_lt_of_le (h e he).2 hm⟩
/-- a dict comprehension over anything that can be walked -/
theorem dc_it {J : It} {n : Nat} {G : Hp → Prop} {Y : Nat → Hp → V → Hp → Prop} (w : Walk J n G Y) {g : TG} {tt : TT} {tk tv : TE} {vs : List Nat} {σ : L2.St} {H1 : Hp} {D : Addr} {Qd : Hp → Prop} (Pv : Nat → Hp → Prop) (p0 : Pv 0 (upd H1 D (.dK []))) (pG : ∀ i H, i ≤ n → Pv i H → G H)
    (ps : ∀ i x H H', i < n → Pv i H → Y i H x H' → g x (wipe σ vs) H' fun σ2 H2 => wipe σ2 vs = wipe σ vs ∧ tt σ2 H2 fun b H3 =>
      if b = true then tk σ2 H3 fun y H4 => tv σ2 H4 fun z H5 => ∃ kvs k, y = kV k ∧ H5 D = some (.dK kvs) ∧ kvs.length < sizeLine ∧ Pv (i + 1) (upd H5 D (.dK (putK kvs k z))) else Pv (i + 1) H3) (pd : ∀ H, Pv n H → Qd H) :
    ∃ W : Nat → Nat → Hp → Prop, (∃ m, W 0 m (upd H1 D (.dK []))) ∧ ∀ i m H, W i m H →
      (J.stop i H ∧ Qd H) ∨ (J.go i H ∧ ∃ Nx : Hp → Prop, (∀ H', Nx H' → ∃ m', m' < m ∧ W (i + 1) m' H') ∧ ∀ x H', J.yld i H x H' → g x (wipe σ vs) H' fun σ2 H2 => wipe σ2 vs = wipe σ vs ∧ tt σ2 H2 fun b H3 =>
        if b = true then tk σ2 H3 fun y H4 => tv σ2 H4 fun z H5 => ∃ kvs k, y = kV k ∧ H5 D = some (.dK kvs) ∧ kvs.length < sizeLine ∧ Nx (upd H5 D (.dK (putK kvs k z))) else Nx H3) := by
  refine ⟨fun i m H => m = n - i ∧ i ≤ n ∧ Pv i H, ⟨n, rfl, Nat.zero_le _, p0⟩, ?_⟩
  rintro i m H ⟨rfl, hi, p⟩
  have hg := pG i H hi p
  rcases Nat.lt_or_ge i n with c | c
  · exact .inr ⟨w.goes i H c hg, Pv (i + 1), fun H' p' => ⟨n - (i + 1), by omega, rfl, c, p'⟩, fun x H' y => ps i x H H' c p (w.yields i H x H' c hg y)⟩
  · have e : i = n := by omega
    subst e
    exact .inl ⟨w.stops H hg, pd H p⟩
/-! ### texts numbered -/
def dN (L : List Str) : Nat → List (Key × V)
  | 0 => []
  | i + 1 => match L[i]? with
    | some x => dN L i ++ [(Sum.inr x, V.int (i : Int))]
    | none => dN L i
theorem dN_len (L : List Str) : ∀ i, (dN L i).length ≤ i
  | 0 => Nat.le_refl _
  | i + 1 => by
    have := dN_len L i
    unfold dN
    split
    · rw [List.length_append, List.length_singleton]; omega
    · omega
theorem valV_app (a b : List (Key × V)) (k : Key) : valV (a ++ b) k = (valV a k).or (valV b k) := by
  unfold valV
  rw [List.find?_append]
  cases a.find? fun kv => decide (kv.1 = k) <;> rfl
theorem dN_none {L : List Str} {x : Str} : ∀ {i : Nat}, x ∉ L.take i → valV (dN L i) (Sum.inr x : Key) = none
  | 0, _ => rfl
  | i + 1, h => by
    have ih := dN_none (L := L) (x := x) (i := i) (fun z => h (List.mem_of_mem_take (i := i) (by rw [List.take_take, Nat.min_eq_left (by omega)]; exact z)))
    unfold dN
    split
    · rename_i y hy
      rw [valV_app, ih, Option.none_or]
      have : ¬ y = x := fun z => h (by rw [take_snoc hy, z]; simp)
      unfold valV
      rw [List.find?_cons_of_neg (by simpa using this)]
      rfl
    · exact ih
theorem dN_at {L : List Str} (hn : L.Nodup) {x : Str} {j : Nat} (hj : L[j]? = some x) : ∀ {i : Nat}, j < i → valV (dN L i) (Sum.inr x : Key) = some (.int (j : Int))
  | i + 1, h => by
    unfold dN
    split
    · rename_i y hy
      rw [valV_app]
      by_cases c : j < i
      · rw [dN_at hn hj c]
        rfl
      · have e : j = i := by omega
        subst e
        rw [hj] at hy
        cases hy
        rw [dN_none (fun z => ?_), Option.none_or]
        · unfold valV
          rw [List.find?_cons_of_pos (by simp)]
          rfl
        · obtain ⟨k, hk⟩ := List.getElem?_of_mem z
          have hk1 := (List.getElem?_eq_some_iff.mp hk).1
          rw [List.length_take] at hk1
          rw [List.getElem?_take_of_lt (by omega)] at hk
          have := nodup_get hn hk hj
          omega
    · rename_i hy
      have hl := List.getElem?_eq_none_iff.mp hy
      have hjl := (List.getElem?_eq_some_iff.mp hj).1
      exact dN_at hn hj (by omega)
theorem dN_put {L : List Str} (hn : L.Nodup) {i : Nat} {x : Str} (h : L[i]? = some x) : putK (dN L i) (Sum.inr x : Key) (.int (i : Int)) = dN L (i + 1) := by
  rw [putK_new _ (dN_none (fun z => ?_))]
  · show _ = (match L[i]? with | some x => dN L i ++ [(Sum.inr x, V.int (i : Int))] | none => dN L i)
    rw [h]
  · obtain ⟨k, hk⟩ := List.getElem?_of_mem z
    have hk1 := (List.getElem?_eq_some_iff.mp hk).1
    rw [List.length_take] at hk1
    rw [List.getElem?_take_of_lt (by omega)] at hk
    have := nodup_get hn hk h
    omega
theorem IsWords.nodup {L W : List Str} (h : IsWords L W) : W.Nodup := h.1.imp fun {a b} (z : sLt a b) (e : a = b) => sLt_irr a (by rw [← e] at z; exact z)
/-- the ties of the pieces -/
def IsTies (W P : List Str) (ts : List (Nat × Nat)) : Prop := ts.length = P.length ∧ ∀ (i : Nat) (x : Str), P[i]? = some x → ∃ u v : Nat, ts[i]? = some (u, v) ∧ W[u]? = some (fst_ x) ∧ W[v]? = some (lst_ x)
theorem IsTies.unique {W P : List Str} {ts us : List (Nat × Nat)} (hn : W.Nodup) (h : IsTies W P ts) (k : IsTies W P us) : ts = us := by
  refine List.ext_getElem? fun i => ?_
  by_cases c : i < P.length
  · obtain ⟨u, v, e1, e2, e3⟩ := h.2 i _ (List.getElem?_eq_getElem c)
    obtain ⟨u', v', f1, f2, f3⟩ := k.2 i _ (List.getElem?_eq_getElem c)
    rw [e1, f1, nodup_get hn e2 f2, nodup_get hn e3 f3]
  · rw [List.getElem?_eq_none (by rw [h.1]; omega), List.getElem?_eq_none (by rw [k.1]; omega)]
/-! ### what is new -/
def NewS (H S : Hp) : Prop := ∀ b o, S b = some o → H b = none ∨ ∃ xs, o = .tup xs
theorem made_same {H H3 : Hp} {C x dx : Addr} (nx : H x = none) (ndx : H dx = none) (k : Kept x (upd (upd H dx (.own x)) x (.ins C dx [])) H3) : Same H H3 := fun b o e => k b o (by rw [upd_ne (ne_of_none e nx), upd_ne (ne_of_none e ndx)]; exact e) (ne_of_none e nx)
theorem made_new {H H3 : Hp} {C x dx : Addr} (nx : H x = none) (ndx : H dx = none) : NewS H (Sub (upd (upd H dx (.own x)) x (.ins C dx [])) H3 x) := fun b o e => by
  unfold Sub at e
  split at e
  · rename_i c
    rcases c with c | c | ⟨xs, c⟩
    · left
      by_cases hx : b = x
      · rw [hx]; exact nx
      · rw [upd_ne hx] at c
        by_cases hd : b = dx
        · rw [hd]; exact ndx
        · rw [upd_ne hd] at c; exact c
    · left; rw [c]; exact nx
    · rw [c] at e
      exact .inr ⟨xs, (Option.some.inj e).symm⟩
  · cases e
theorem NewS.mono {H H' S : Hp} (h : NewS H' S) (s : Same H H') : NewS H S := fun b o e => (h b o e).imp (s.free) id
section
variable {P : Program} {w : World} {K : PySem.W.Frag} {mg : Str → Option Value} {base : Heap} {C C2 : Addr}
def spWeb___eq__ (_ : PySem.W.Frag) (C _ : Addr) : Sp := fun vs H Q _ => ∃ a b N ts, vs = [.ref a, .ref b] ∧ WebAt C a N ts H ∧ WebAt C b N ts H ∧ Q (.bl true) H
theorem okWeb___eq__ (D : DefM K C "__eq__" "Web.__eq__" sWeb___eq__ ["self", "other"]) (B : Bs mg) (Glb : Glo mg) (WK : WebK K mg C) (PK : PieceK K mg C2) :
    GoodM P w K mg base C "__eq__" "Web.__eq__" sWeb___eq__ ["self", "other"] 1 (spWeb___eq__ K C C2) := by
  refine D.good fun f fd F => ?_
  refine F.ok scWeb___eq__ (fun vs H Q E h => ?_) (fun cdv A outer s H vs Q E hr h => ?_)
  · obtain ⟨a, b, N, ts, rfl, hw, hv, q⟩ := h
    first | rfl | (rcases h with ⟨_, _, rfl, _⟩ | ⟨_, rfl, _⟩ <;> rfl)
  obtain ⟨a, b, N, ts, rfl, hw, hv, q⟩ := h
  refine ⟨_, (pss_one (ps_ret (pe_and (pe_callB call_isi (by rfl) B.isinstance (by decide +kernel) (pa_cons (pv 1) (pa_cons (pe_glob (v := .ref C) (by rfl) WK.mgC rfl) pa_nil))) (pe_and (pe_cmpR op_eq (pe_fld (pv 0) rfl) (pe_fld (pv 1) rfl) (nomark _)) (pe_one (pe_cmpR (op_eqD hr.units) (pe_fld (pv 0) rfl) (pe_fld (pv 1) rfl) (nomark _))))))), ?_⟩
  obtain ⟨dx, tl, fl, ol, h1, h2, h3⟩ := id hw
  obtain ⟨dy, um, gl, pl, k1, k2, k3⟩ := id hv
  refine ⟨_, rfl, _, _, _, _, true, rfl, .own C, .base (.ins k1 WK.cl WK.i1 WK.i2 WK.i3 WK.i4), WK.i5, _, rfl, iteT ?_⟩
  refine ⟨_, rfl, a, C, dx, _, _, rfl, h1, WK.cl, WK.nP, wf_P _ _ _ _, _, rfl, b, C, dy, _, _, rfl, k1, WK.cl, WK.nP, wf_P _ _ _ _, rfl, _, rfl, iteYes rfl ?_⟩
  refine ⟨_, rfl, a, C, dx, _, _, rfl, h1, WK.cl, WK.nT, wf_T _ _ _ _, _, rfl, b, C, dy, _, _, rfl, k1, WK.cl, WK.nT, wf_T _ _ _ _, _, _, dp_tz h2, dp_tz k2, shaped_tz _, shaped_tz _, ?_⟩
  exact bl_is (eqv_tzs ts) q
def spcopied_web (_ : PySem.W.Frag) (C _ : Addr) : Sp := fun vs H Q _ => ∃ a N ts, vs = [.ref a] ∧ WebAt C a N ts H ∧ OkWeb N ts ∧ ∀ x H' S, WebAt C x N ts S → Same S H' → NewS H S → Same H H' → Q (.ref x) H'
theorem okcopied_web (D : Def K mg "copied_web" scopied_web ["web"]) (B : Bs mg) (Glb : Glo mg) (WK : WebK K mg C) (PK : PieceK K mg C2)
    (hWeb___init__ : GoodI P w K mg base C "__init__" "Web.__init__" sWeb___init__ ["self", "places", "ties"] 5 (spWeb___init__ K C C2))
    (hWeb_places : GoodP P w K mg base C "places" "Web.places" sWeb_places ["self"] 1 (spWeb_places K C C2))
    (hWeb_ties : GoodM P w K mg base C "ties" "Web.ties" sWeb_ties ["self"] 1 (spWeb_ties K C C2)) :
    Good P w K mg base "copied_web" scopied_web ["web"] 7 (spcopied_web K C C2) := by
  refine D.good fun f fd F => ?_
  obtain ⟨fWeb___init__, dWeb___init__, OWeb___init__, MKWeb, bWeb___init__⟩ := hWeb___init__
  obtain ⟨qWeb_places, fWeb_places, dWeb_places, OWeb_places, pWeb_places, bWeb_places⟩ := hWeb_places
  obtain ⟨fWeb_ties, dWeb_ties, OWeb_ties, tWeb_ties, bWeb_ties, FWeb_ties⟩ := hWeb_ties
  refine F.ok sccopied_web (fun vs H Q E h => ?_) (fun cdv A outer s H vs Q E hr h => ?_)
  · obtain ⟨a, N, ts, rfl, hw, ho, q⟩ := h
    first | rfl | (rcases h with ⟨_, _, rfl, _⟩ | ⟨_, rfl, _⟩ <;> rfl)
  obtain ⟨a, N, ts, rfl, hw, ho, q⟩ := h
  refine ⟨_, (pss_one (ps_ret (pe_make MKWeb OWeb___init__ (hr.mono (by decide)) rfl WK.mgC bWeb___init__ .nil pass0 (pa_cons (pe_prop (pv 0) WK.cl pWeb_places OWeb_places (hr.mono (by decide)) bWeb_places .nil pass0 (by rfl)) (pa_cons (pe_meth0 (pv 0) WK.cl tWeb_ties OWeb_ties (hr.mono (by decide)) bWeb_ties .nil pass0) pa_nil))))), ?_⟩
  obtain ⟨dx0, tl, fl, ol, g1, _⟩ := id hw
  refine ⟨_, rfl, a, dx0, _, rfl, g1, a, N, ts, rfl, hw, _, rfl, a, dx0, _, rfl, g1, wf_no _ _ _ _ (by decide +kernel) (by decide +kernel) (by decide +kernel) (by decide +kernel), a, N, ts, rfl, hw, fun H1 l nl hS1 hT1 => fun x dx nx ndx ndxx => ?_⟩
  have hS01 : Same H1 (upd (upd H1 dx (.own x)) x (.ins C dx [])) := fun b o e => by
    rw [upd_ne (ne_of_none e nx), upd_ne (ne_of_none e ndx)]
    exact e
  refine ⟨x, dx, N, l, ts, rfl, ho, hT1.same hS01, upd_same, fun H3 hk3 hw3 => ⟨rfl, ?_⟩⟩
  exact q x H3 _ hw3 Sub.same ((made_new nx ndx).mono hS1) (hS1.trans (made_same nx ndx hk3))
def sp_need_letters (_ : PySem.W.Frag) (_ _ : Addr) : Sp := fun vs H Q _ => ∃ n : Int, vs = [.int n] ∧ n ≤ 400 ∧ Q .non H
theorem ok_need_letters (D : Def K mg "_need_letters" s_need_letters ["many"]) (B : Bs mg) (Glb : Glo mg) (WK : WebK K mg C) (PK : PieceK K mg C2) :
    Good P w K mg base "_need_letters" s_need_letters ["many"] 3 (sp_need_letters K C C2) := by
  refine D.good fun f fd F => ?_
  refine F.ok sc_need_letters (fun vs H Q E h => ?_) (fun cdv A outer s H vs Q E hr h => ?_)
  · obtain ⟨n, rfl, h, q⟩ := h
    first | rfl | (rcases h with ⟨_, _, rfl, _⟩ | ⟨_, rfl, _⟩ <;> rfl)
  obtain ⟨n, rfl, h, q⟩ := h
  refine ⟨_, (pss_one (ps_if (pt_cmpR op_gt (pv 0) (pe_globI Glb.MOST_LETTERS) (nomark _))
    (pss_one ps_never) pss_nil)), ?_⟩
  exact ⟨_, rfl, _, _, rfl, rfl, _, rfl, iteNo (by omega) q⟩
def sp_web_of (_ : PySem.W.Frag) (C _ : Addr) : Sp := fun vs H Q _ => ∃ wl pl W L, vs = [.ref wl, .ref pl] ∧ H wl = some (.lst (W.map V.str)) ∧ H pl = some (.lst (L.map V.str)) ∧ IsWords L W ∧ 1 ≤ L.length ∧ L.length ≤ 30 ∧ W.length ≤ 60 ∧ (∀ x ∈ L, x.length ≤ 400) ∧ ∀ x H' S ts, IsTies W L ts → OkWeb W.length ts → WebAt C x W.length ts S → Same S H' → NewS H S → Same H H' → Q (.ref x) H'
theorem ok_web_of (D : Def K mg "_web_of" s_web_of ["words", "pieces"]) (B : Bs mg) (Glb : Glo mg) (WK : WebK K mg C) (PK : PieceK K mg C2)
    (hWeb___init__ : GoodI P w K mg base C "__init__" "Web.__init__" sWeb___init__ ["self", "places", "ties"] 5 (spWeb___init__ K C C2)) :
    Good P w K mg base "_web_of" s_web_of ["words", "pieces"] 7 (sp_web_of K C C2) := by
  refine D.good fun f fd F => ?_
  obtain ⟨fWeb___init__, dWeb___init__, OWeb___init__, MKWeb, bWeb___init__⟩ := hWeb___init__
  refine F.ok sc_web_of (fun vs H Q E h => ?_) (fun cdv A outer s H vs Q E hr h => ?_)
  · obtain ⟨wl, pl, W, L, rfl, hw, hp, hW, h1, h30, h60, h400, q⟩ := h
    first | rfl | (rcases h with ⟨_, _, rfl, _⟩ | ⟨_, rfl, _⟩ <;> rfl)
  obtain ⟨wl, pl, W, L, rfl, hw, hp, hW, h1, h30, h60, h400, q⟩ := h
  refine ⟨_, (pss_cons (ps_set (i := 2) sc_web_of.nd rfl (by first | exact Or.inl rfl | exact Or.inr rfl) (pe_dc (own := [("place", 3), ("word", 4)]) (g := gTup K 2 (gCons (gName 3) (gCons (gName 4) gNil))) (by rfl) sc_web_of.nd (pi_enum (by rfl) B.enumerate (pa_cons (pv 0) pa_nil)) (blkOk_by (own := [("place", 3), ("word", 4)]) (N := ["words", "pieces", "places", "place", "word", "piece"]) (sc := defScope s_web_of) (by decide +kernel)) (fun _ _ _ _ _ => (pg_tup rfl (pgs_cons (pg_name (i := 3) sc_web_of.nd rfl (by first | exact Or.inl rfl | exact Or.inr rfl)) (pgs_cons (pg_name (i := 4) sc_web_of.nd rfl (by first | exact Or.inl rfl | exact Or.inr rfl)) pgs_nil)))) (fun _ _ _ _ _ => pts_nil) (fun _ _ _ _ _ => (pv 4)) (fun _ _ _ _ _ => (pv 3))))
  (pss_one (ps_ret (pe_make MKWeb OWeb___init__ (hr.mono (by decide)) rfl WK.mgC bWeb___init__ .nil pass0 (pa_cons (pe_callB call_len_seq (by rfl) B.len (by decide +kernel) (pa_cons (pv 0) pa_nil)) (pa_cons (pe_lc (own := [("piece", 5)]) (g := gName 5) (by rfl) sc_web_of.nd (pi_list (pv 1)) (blkOk_by (own := [("piece", 5)]) (N := ["words", "pieces", "places", "place", "word", "piece"]) (sc := defScope s_web_of) (by decide +kernel)) (fun _ _ _ _ _ => (pg_name (i := 5) sc_web_of.nd rfl (by first | exact Or.inl rfl | exact Or.inr rfl))) (fun _ _ _ _ _ => pts_nil) (fun _ _ _ _ _ => (pe_tup (pa_cons (pe_dget (hu_of hr) (pv 2) (pe_slice sl_str (pv 5) po_none (po_some (pe_un un_neg pe_int))) (fun _ _ => rfl)) (pa_cons (pe_dget (hu_of hr) (pv 2) (pe_slice sl_str (pv 5) (po_some pe_int) po_none) (fun _ _ => rfl)) pa_nil))))) pa_nil)))))), ?_⟩
  have hn := hW.nodup
  refine ⟨_, rfl, wl, _, rfl, SqL.of hw, fun D nD => ?_⟩
  refine dc_it (walk_enum (K := K) (a := wl) (xs := W.map V.str)) (fun i H' => Same H H' ∧ H' D = some (.dK (dN W i))) ⟨same_new nD _, upd_same⟩ (fun i H' _ ⟨hS', _⟩ => SqL.of (hS' _ _ hw)) ?_ ?_
  · rintro i y H2 H3 hi ⟨hS2, hD2⟩ ⟨T0, x1, x2, rfl, nT0, rfl, e1, e2⟩
    cases e1
    obtain ⟨z, hz, rfl⟩ := str_at e2
    have hil := (List.getElem?_eq_some_iff.mp hz).1
    refine ⟨T0, _, rfl, SqT.of upd_same, rfl, _, _, rfl, _, _, rfl, rfl, rfl, _, rfl, _, rfl, dN W i, Sum.inr z, rfl, same_new nT0 _ _ _ hD2, ?_, same_upd (fun b o e => same_new nT0 _ _ _ (hS2 _ _ e)) nD, ?_⟩
    · exact Nat.lt_of_le_of_lt (dN_len W i) (Nat.lt_of_lt_of_le (by omega : i < 1000) (by decide))
    · rw [upd_same, dN_put hn hz]
  rintro H1 ⟨hS1, hD1⟩
  rw [List.length_map] at hD1
  refine ⟨_, rfl, wl, _, rfl, .inl (SqL.of (hS1 _ _ hw)), _, rfl, pl, rfl, ⟨_, SqL.of (hS1 _ _ hp)⟩, fun D2 nD2 => ?_⟩
  have tw : ∀ x ∈ L, (∃ u, W[u]? = some (fst_ x)) ∧ ∃ v, W[v]? = some (lst_ x) := fun x hx =>
    ⟨List.getElem?_of_mem ((hW.2 _).mpr (List.mem_append_left _ (List.mem_map.mpr ⟨x, hx, rfl⟩))), List.getElem?_of_mem ((hW.2 _).mpr (List.mem_append_right _ (List.mem_map.mpr ⟨x, hx, rfl⟩)))⟩
  refine lc_list (K := K) (a := pl) (xs := L.map V.str) (fun i H' => ∃ ts, Same H1 H' ∧ TiesAt H' D2 ts ∧ IsTies W (L.take i) ts) ⟨[], same_new nD2 _, TiesAt.nil, rfl, fun i x h => by simp at h⟩ (fun i H' _ ⟨_, hS', _⟩ => SqL.of (hS' _ _ (hS1 _ _ hp))) ?_ ?_
  · rintro i y H2 hy ⟨ts, hS2, hT2, hI⟩
    obtain ⟨z, hz, rfl⟩ := str_at hy
    have hil := (List.getElem?_eq_some_iff.mp hz).1
    have hm := List.mem_of_getElem? hz
    have h4 := h400 z hm
    obtain ⟨⟨u, hu⟩, ⟨v, hv⟩⟩ := tw z hm
    have hu1 := (List.getElem?_eq_some_iff.mp hu).1
    have hv1 := (List.getElem?_eq_some_iff.mp hv).1
    have hD2 := hS2 _ _ hD1
    have g1 : DGet H2 D (.str (fst_ z)) (some (.int (u : Int))) := by
      rw [← dN_at hn hu hu1]
      exact DGet.k (k := Sum.inr (fst_ z)) hD2
    have g2 : DGet H2 D (.str (lst_ z)) (some (.int (v : Int))) := by
      rw [← dN_at hn hv hv1]
      exact DGet.k (k := Sum.inr (lst_ z)) hD2
    refine ⟨rfl, _, rfl, _, rfl, _, rfl, _, rfl, _, rfl, line400 h4, D, _, rfl, g1, ?_⟩
    refine ⟨_, rfl, _, rfl, _, rfl, _, rfl, line400 h4, D, _, rfl, g2, (by show 2 ≤ sizeLine; decide), fun tp ntp => ?_⟩
    obtain ⟨xs, k1, k2, k3⟩ := hT2.push (u := u) (v := v) ntp
    refine ⟨xs, k1, ?_, ts ++ [(u, v)], same_upd (hS2.trans (same_new ntp _)) nD2, k3, ?_, ?_⟩
    · rw [k2, hI.1, List.length_take]
      exact Nat.lt_of_lt_of_le (by omega : _ < 1000) (by decide)
    · rw [List.length_append, hI.1, List.length_take, List.length_take, List.length_singleton]
      omega
    · intro j x hx
      have htl : ts.length = i := by rw [hI.1, List.length_take]; omega
      rw [take_snoc hz] at hx
      by_cases c : j < i
      · rw [List.getElem?_append_left (by rw [List.length_take]; omega)] at hx
        obtain ⟨u', v', a1, a2, a3⟩ := hI.2 j x hx
        exact ⟨u', v', by rw [List.getElem?_append_left (by omega)]; exact a1, a2, a3⟩
      · have hj := (List.getElem?_eq_some_iff.mp hx).1
        rw [List.length_append, List.length_take, List.length_singleton] at hj
        have e : j = i := by omega
        subst e
        rw [List.getElem?_append_right (by rw [List.length_take]; omega), List.length_take, Nat.min_eq_left (by omega), Nat.sub_self] at hx
        cases hx
        exact ⟨u, v, by rw [List.getElem?_append_right (by omega), htl, Nat.sub_self]; rfl, hu, hv⟩
  rintro H2 ⟨ts, hS2, hT2, hI⟩
  rw [List.length_map, List.take_length] at hI
  refine fun x dx nx ndx ndxx => ?_
  have hS01 : Same H2 (upd (upd H2 dx (.own x)) x (.ins C dx [])) := fun b o e => by
    rw [upd_ne (ne_of_none e nx), upd_ne (ne_of_none e ndx)]
    exact e
  have ho : OkWeb W.length ts := by
    obtain ⟨x0, hx0⟩ : ∃ x, L[0]? = some x := ⟨L[0]'(by omega), List.getElem?_eq_getElem _⟩
    obtain ⟨⟨u, hu⟩, _⟩ := tw x0 (List.mem_of_getElem? hx0)
    have hu1 := (List.getElem?_eq_some_iff.mp hu).1
    refine ⟨by omega, h60, by rw [hI.1]; omega, fun e he => ?_⟩
    obtain ⟨j, hj⟩ := List.getElem?_of_mem he
    have hj1 := (List.getElem?_eq_some_iff.mp hj).1
    rw [hI.1] at hj1
    obtain ⟨u', v', a1, a2, a3⟩ := hI.2 j _ (List.getElem?_eq_getElem hj1)
    rw [hj] at a1
    cases a1
    exact ⟨(List.getElem?_eq_some_iff.mp a2).1, (List.getElem?_eq_some_iff.mp a3).1⟩
  refine ⟨x, dx, W.length, D2, ts, by rw [List.length_map]; rfl, ho, hT2.same hS01, upd_same, fun H3 hk3 hw3 => ⟨rfl, ?_⟩⟩
  have hS02 := hS1.trans hS2
  exact q x H3 _ ts hI ho hw3 Sub.same ((made_new nx ndx).mono hS02) (hS02.trans (made_same nx ndx hk3))
end
end My
namespace My
open PySem L2 PyProof.Rows
theorem dp_strs {K : PySem.W.Frag} {H : Hp} : ∀ L : List Str, DpAll K H (L.map V.str) (L.map PyData.str)
  | [] => .nil
  | x :: r => .cons (.str x) (dp_strs r)
theorem dp_ls {K : PySem.W.Frag} {H : Hp} {p : Addr} {L : List Str} (h : H p = some (.lst (L.map V.str))) : Dp K H (.ref p) (.list (L.map PyData.str)) := .lst (SqL.of h) (dp_strs L)
theorem okT_str {x : Str} (h : OkT x) : PyData.strOk x = true := by
  unfold PyData.strOk
  rw [Array.all_eq_true']
  intro c hc
  have := h.let_ c (by simpa using hc)
  simp
  omega
theorem layAll_st : ∀ {L : List Str}, (∀ e ∈ L, OkT e) → PyData.canLayAll0 (L.map PyData.str) = true
  | [], _ => rfl
  | e :: r, h => by
    show (PyData.canLay0 (.str e) && PyData.canLayAll0 (r.map PyData.str)) = true
    rw [layAll_st fun f hf => h f (List.mem_cons_of_mem _ hf)]
    have hx := okT_str (h e List.mem_cons_self)
    simp only [PyData.canLay0, Bool.and_true]
    exact hx
theorem depthAll_st : ∀ L : List Str, PyData.depthAll (L.map PyData.str) = 0
  | [] => rfl
  | e :: r => by
    show max (PyData.depth (.str e)) (PyData.depthAll (r.map PyData.str)) = 0
    rw [depthAll_st r]
    rfl
theorem lay_st {L : List Str} (h : ∀ e ∈ L, OkT e) : PyData.canLay0 (.list (L.map PyData.str)) = true := by
  unfold PyData.canLay0
  exact layAll_st h
theorem shaped_st {L : List Str} (h : ∀ e ∈ L, OkT e) : SeqAt.shaped (.list (L.map PyData.str)) = true := by
  unfold SeqAt.shaped
  have h2 : PyData.depth (.list (L.map PyData.str)) = 1 := by
    unfold PyData.depth
    rw [depthAll_st]
  rw [lay_st h, h2]
  rfl
theorem eqvAll_s : ∀ L M : List Str, PyData.eqvAll (L.map PyData.str) (M.map PyData.str) = decide (L = M)
  | [], [] => rfl
  | [], _ :: _ => rfl
  | _ :: _, [] => rfl
  | a :: L, b :: M => by
    show ((a == b) && PyData.eqvAll (L.map PyData.str) (M.map PyData.str)) = _
    rw [eqvAll_s L M]
    by_cases h : a = b
    · subst h
      by_cases k : L = M
      · subst k; simp
      · simp [k]
    · have h2 : (a == b) = false := beq_eq_false_iff_ne.mpr h
      rw [h2, Bool.false_and]
      exact (decide_eq_false (fun z => h (List.cons.inj z).1)).symm
theorem eqv_s (L M : List Str) : PyData.eqv (.list (L.map PyData.str)) (.list (M.map PyData.str)) = decide (L = M) := eqvAll_s L M
theorem sorted_same {M L : List Str} (hM : M.Pairwise sLt) (hL : L.Nodup) : M = L.mergeSort leS ↔ ∀ k, k ∈ M ↔ k ∈ L := by
  constructor
  · rintro rfl k
    exact (List.mergeSort_perm _ _).mem_iff
  · intro h
    exact strict_ext (r := sLt) (fun a => sLt_irr a) (fun _ _ _ => sLt_trans) hM (texts_of hL) fun k => (h k).trans (List.mergeSort_perm _ _).mem_iff.symm
/-! ### webs of pieces in the heap -/
def wfP (pl wl x : Addr) : List (Str × V) := putF "_web" (.ref x) (putF "_words" (.ref wl) (putF "_pieces" (.ref pl) []))
theorem wfP_P (pl wl x : Addr) : (wfP pl wl x).lookup ("_pieces" : Str) = some (.ref pl) := by
  unfold wfP
  rw [lookup_putF, if_neg (by decide +kernel), lookup_putF, if_neg (by decide +kernel), lookup_putF, if_pos rfl]
theorem wfP_W (pl wl x : Addr) : (wfP pl wl x).lookup ("_words" : Str) = some (.ref wl) := by
  unfold wfP
  rw [lookup_putF, if_neg (by decide +kernel), lookup_putF, if_pos rfl]
theorem wfP_B (pl wl x : Addr) : (wfP pl wl x).lookup ("_web" : Str) = some (.ref x) := by
  unfold wfP
  rw [lookup_putF, if_pos rfl]
theorem wfP_no (pl wl x : Addr) {m : Str} (h1 : ¬ m = "_web") (h2 : ¬ m = "_words") (h3 : ¬ m = "_pieces") : (wfP pl wl x).lookup m = none := by
  unfold wfP
  rw [lookup_putF, if_neg h1, lookup_putF, if_neg h2, lookup_putF, if_neg h3]
  all_goals rfl
def PieceAt (C C2 a : Addr) (P W : List Str) (ts : List (Nat × Nat)) (S : Hp) : Prop := ∃ dx pl wl x, S a = some (.ins C2 dx (wfP pl wl x)) ∧ S pl = some (.lst (P.map V.str)) ∧ S wl = some (.lst (W.map V.str)) ∧ WebAt C x W.length ts S
theorem PieceAt.same {C C2 a : Addr} {P W : List Str} {ts : List (Nat × Nat)} {H H' : Hp} (h : PieceAt C C2 a P W ts H) (s : Same H H') : PieceAt C C2 a P W ts H' := by
  obtain ⟨dx, pl, wl, x, h1, h2, h3, h4⟩ := h
  exact ⟨dx, pl, wl, x, s _ _ h1, s _ _ h2, s _ _ h3, h4.same s⟩
/-- what a web of pieces is -/
structure PW (P W : List Str) (ts : List (Nat × Nat)) (s : Nat) : Prop where
  p : OkP P s
  w : IsWords P W
  t : IsTies W P ts
  o : OkWeb W.length ts
def NewA (a : Addr) (H S : Hp) : Prop := ∀ b o, S b = some o → H b = none ∨ b = a ∨ ∃ xs, o = .tup xs
theorem IsWords.perm {L M W : List Str} (h : IsWords L W) (p : L.Perm M) : IsWords M W := ⟨h.1, fun k => by
  rw [h.2 k, List.mem_append, List.mem_append, (p.map fst_).mem_iff, (p.map lst_).mem_iff]⟩
theorem OkP.perm {L M : List Str} {s : Nat} (h : OkP L s) (p : L.Perm M) : OkP M s := by
  obtain ⟨h1, h2, h3, h4, h5, h6⟩ := h
  rw [p.length_eq] at h1 h2
  exact ⟨h1, h2, fun x hx => h3 x (p.mem_iff.mpr hx), h4, h5, p.nodup_iff.mp h6⟩
theorem few3 {f g h : Str} {u v w : V} : (putF f u (putF g v (putF h w []))).length ≤ 3 := Nat.le_trans (putF_len _ _ _) (Nat.succ_le_succ (Nat.le_trans (putF_len _ _ _) (Nat.succ_le_succ (putF_len _ _ _))))
section
variable {P : Program} {w : World} {K : PySem.W.Frag} {mg : Str → Option Value} {base : Heap} {C C2 : Addr}
def spPieceWeb___init__ (_ : PySem.W.Frag) (C C2 : Addr) : Sp := fun vs H Q _ => ∃ a dx l L s, vs = [.ref a, .ref l] ∧ H a = some (.ins C2 dx []) ∧ SqS H l L ∧ OkP L s ∧ ∀ H' W ts S, PW (L.mergeSort leS) W ts s → PieceAt C C2 a (L.mergeSort leS) W ts S → Same S H' → NewA a H S → Kept a H H' → Q .non H'
theorem okPieceWeb___init__ (D : DefI K C2 "__init__" "PieceWeb.__init__" sPieceWeb___init__ ["self", "pieces"]) (B : Bs mg) (Glb : Glo mg) (WK : WebK K mg C) (PK : PieceK K mg C2)
    (hneed_pieces : Good P w K mg base "need_pieces" sneed_pieces ["pieces"] 5 (spneed_pieces K C C2))
    (hwords_of : Good P w K mg base "words_of" swords_of ["pieces"] 1 (spwords_of K C C2))
    (h_web_of : Good P w K mg base "_web_of" s_web_of ["words", "pieces"] 7 (sp_web_of K C C2)) :
    GoodI P w K mg base C2 "__init__" "PieceWeb.__init__" sPieceWeb___init__ ["self", "pieces"] 8 (spPieceWeb___init__ K C C2) := by
  refine D.good fun f fd F => ?_
  obtain ⟨fneed_pieces, dneed_pieces, Oneed_pieces, mneed_pieces, kneed_pieces, bneed_pieces, Fneed_pieces⟩ := hneed_pieces
  obtain ⟨fwords_of, dwords_of, Owords_of, mwords_of, kwords_of, bwords_of, Fwords_of⟩ := hwords_of
  obtain ⟨f_web_of, d_web_of, O_web_of, m_web_of, k_web_of, b_web_of, F_web_of⟩ := h_web_of
  refine F.ok scPieceWeb___init__ (fun vs H Q E h => ?_) (fun cdv A outer s H vs Q E hr h => ?_)
  · obtain ⟨a, dx, l, L, s, rfl, ha, hl, ho, q⟩ := h
    first | rfl | (rcases h with ⟨_, _, rfl, _⟩ | ⟨_, rfl, _⟩ <;> rfl)
  obtain ⟨a, dx, l, L, s, rfl, ha, hl, ho, q⟩ := h
  refine ⟨_, (pss_cons (ps_expr (pe_call Oneed_pieces (hr.mono (by decide)) rfl mneed_pieces kneed_pieces bneed_pieces .nil pass0 (pa_cons (pv 1) pa_nil)))
  (pss_cons (ps_fld (pv 0) (pe_callB (cr_sortSq hr.units) (by rfl) B.sorted (by decide +kernel) (pa_cons (pv 1) pa_nil)) rfl)
  (pss_cons (ps_fld (pv 0) (pe_call Owords_of (hr.mono (by decide)) rfl mwords_of kwords_of bwords_of .nil pass0 (pa_cons (pv 1) pa_nil)) rfl)
  (pss_one (ps_fld (pv 0) (pe_call O_web_of hr rfl m_web_of k_web_of b_web_of .nil pass0 (pa_cons (pe_fld (pv 0) rfl) (pa_cons (pe_fld (pv 0) rfl) pa_nil))) rfl))))), ?_⟩
  obtain ⟨o1, o2, o3, o4, o5, o6⟩ := id ho
  have hperm : L.Perm (L.mergeSort leS) := (List.mergeSort_perm L leS).symm
  refine ⟨_, rfl, l, L, s, rfl, hl, ho, fun H1 hS1 => ?_⟩
  have hl1 := hl.same hS1
  have ha1 := hS1 _ _ ha
  have hla : l ≠ a := by
    rcases hl1 with h | h
    · exact ne_of h ha1 (by intro z; cases z)
    · exact ne_of h ha1 (by intro z; cases z)
  refine ⟨_, rfl, l, L, rfl, hl1.seq, by omega, fun pl npl => ⟨_, rfl, a, C2, dx, [], rfl, same_new npl _ _ _ ha1, PK.cl, PK.nP, (by decide), ?_⟩⟩
  have hpa : pl ≠ a := (ne_of_none ha1 npl).symm
  have e2 : ∀ b o, H1 b = some o → b ≠ a → (upd (upd H1 pl (.lst ((L.mergeSort leS).map V.str))) a (.ins C2 dx (putF "_pieces" (.ref pl) []))) b = some o := fun b o e n => by rw [upd_ne n]; exact same_new npl _ _ _ e
  have hp2 : (upd (upd H1 pl (.lst ((L.mergeSort leS).map V.str))) a (.ins C2 dx (putF "_pieces" (.ref pl) []))) pl = some (.lst ((L.mergeSort leS).map V.str)) := by rw [upd_ne hpa]; exact upd_same
  have ha2 : (upd (upd H1 pl (.lst ((L.mergeSort leS).map V.str))) a (.ins C2 dx (putF "_pieces" (.ref pl) []))) a = some (.ins C2 dx (putF "_pieces" (.ref pl) [])) := upd_same
  generalize upd (upd H1 pl (.lst ((L.mergeSort leS).map V.str))) a (.ins C2 dx (putF "_pieces" (.ref pl) [])) = H2 at e2 hp2 ha2
  have k2 : Kept a H H2 := fun b o e n => e2 b o (hS1 b o e) n
  have hl2 : SqS H2 l L := hl1.imp (fun h => e2 _ _ h hla) (fun h => e2 _ _ h hla)
  refine ⟨_, rfl, l, L, rfl, hl2, by omega, fun x hx => by have := (o3 x hx).2; omega, fun H3 wl W hS3 nwl hwl hWl hW => ⟨_, rfl, a, C2, dx, _, rfl, hS3 _ _ ha2, PK.cl, PK.nW, Nat.lt_of_le_of_lt (putF_len _ _ _) (by decide), ?_⟩⟩
  have hwa : wl ≠ a := fun z => by rw [z, ha2] at nwl; cases nwl
  have hwp : wl ≠ pl := fun z => by rw [z, hp2] at nwl; cases nwl
  have e4 : ∀ b o, H3 b = some o → b ≠ a → (upd H3 a (.ins C2 dx (putF "_words" (.ref wl) (putF "_pieces" (.ref pl) [])))) b = some o := fun b o e n => by rw [upd_ne n]; exact e
  have ha4 : (upd H3 a (.ins C2 dx (putF "_words" (.ref wl) (putF "_pieces" (.ref pl) [])))) a = some (.ins C2 dx (putF "_words" (.ref wl) (putF "_pieces" (.ref pl) []))) := upd_same
  generalize upd H3 a (.ins C2 dx (putF "_words" (.ref wl) (putF "_pieces" (.ref pl) []))) = H4 at e4 ha4
  have k4 : Kept a H H4 := fun b o e n => e4 b o (hS3 b o (k2 b o e n)) n
  have hp4 : H4 pl = some (.lst ((L.mergeSort leS).map V.str)) := e4 _ _ (hS3 _ _ hp2) hpa
  have hw4 : H4 wl = some (.lst (W.map V.str)) := e4 _ _ hwl hwa
  have nplH : H pl = none := hS1.free npl
  have nwlH : H wl = none := by
    cases e : H wl with
    | none => rfl
    | some o => rw [k2 _ _ e hwa] at nwl; cases nwl
  have hWs : IsWords (L.mergeSort leS) W := hW.perm hperm
  have hPs : OkP (L.mergeSort leS) s := ho.perm hperm
  refine ⟨_, rfl, a, C2, dx, _, _, rfl, ha4, PK.cl, PK.nW, by rw [lookup_putF, if_pos rfl], _, rfl, a, C2, dx, _, _, rfl, ha4, PK.cl, PK.nP, by rw [lookup_putF, if_neg (by decide +kernel), lookup_putF, if_pos rfl], wl, pl, W, _, rfl, hw4, hp4, hWs, hPs.1, hPs.2.1, by omega, fun x hx => by have := (hPs.2.2.1 x hx).2; omega, fun x H5 SW ts hts how hweb hSW hnew hS5 => ⟨_, rfl, a, C2, dx, _, rfl, hS5 _ _ ha4, PK.cl, PK.nB, Nat.lt_of_le_of_lt (Nat.le_trans (putF_len _ _ _) (Nat.succ_le_succ (putF_len _ _ _))) (by decide), ?_⟩⟩
  have off : ∀ b o, H4 b = some o → (∀ xs, o ≠ .tup xs) → SW b = none := fun b o e nt => by
    cases eb : SW b with
    | none => rfl
    | some u =>
      rcases hnew b u eb with z | ⟨xs, z⟩
      · rw [e] at z; cases z
      · have h5 := hSW _ _ eb
        rw [hS5 _ _ e] at h5
        cases h5
        exact absurd z (nt xs)
  have oa := off _ _ ha4 (by intro xs z; cases z)
  have op := off _ _ hp4 (by intro xs z; cases z)
  have ow := off _ _ hw4 (by intro xs z; cases z)
  have s1 : Same SW (upd SW pl (.lst ((L.mergeSort leS).map V.str))) := same_new op _
  have ow1 : upd SW pl (.lst ((L.mergeSort leS).map V.str)) wl = none := by rw [upd_ne hwp]; exact ow
  have s2 := s1.trans (same_new ow1 (.lst (W.map V.str)))
  have oa2 : upd (upd SW pl (.lst ((L.mergeSort leS).map V.str))) wl (.lst (W.map V.str)) a = none := by rw [upd_ne hwa.symm, upd_ne hpa.symm]; exact oa
  have s3 := s2.trans (same_new oa2 (.ins C2 dx (wfP pl wl x)))
  refine q _ W ts (upd (upd (upd SW pl (.lst ((L.mergeSort leS).map V.str))) wl (.lst (W.map V.str))) a (.ins C2 dx (wfP pl wl x))) ⟨hPs, hWs, hts, how⟩ ⟨dx, pl, wl, x, upd_same, ?_, ?_, hweb.same s3⟩ ?_ ?_ ?_
  · rw [upd_ne hpa, upd_ne hwp.symm, upd_same]
  · rw [upd_ne hwa, upd_same]
  · intro b o e
    by_cases z1 : b = a
    · subst z1
      rw [upd_same] at e ⊢
      exact e
    · rw [upd_ne z1] at e ⊢
      by_cases z2 : b = wl
      · subst z2
        rw [upd_same] at e
        rw [← e]
        exact hS5 _ _ hw4
      · rw [upd_ne z2] at e
        by_cases z3 : b = pl
        · subst z3
          rw [upd_same] at e
          rw [← e]
          exact hS5 _ _ hp4
        · rw [upd_ne z3] at e
          exact hSW _ _ e
  · intro b o e
    by_cases z1 : b = a
    · exact .inr (.inl z1)
    · rw [upd_ne z1] at e
      by_cases z2 : b = wl
      · left; rw [z2]; exact nwlH
      · rw [upd_ne z2] at e
        by_cases z3 : b = pl
        · left; rw [z3]; exact nplH
        · rw [upd_ne z3] at e
          rcases hnew b o e with z | z
          · left
            cases eb : H b with
            | none => rfl
            | some u => rw [k4 _ _ eb z1] at z; cases z
          · exact .inr (.inr z)
  · intro b o e n
    rw [upd_ne n]
    exact hS5 _ _ (k4 b o e n)
def spPieceWeb___eq__ (_ : PySem.W.Frag) (C C2 : Addr) : Sp := fun vs H Q _ => ∃ a, (∃ b P, vs = [.ref a, .ref b] ∧ ∃ W ts P' W' ts', PieceAt C C2 a P W ts H ∧ PieceAt C C2 b P' W' ts' H ∧ (∀ x ∈ P, OkT x) ∧ (∀ x ∈ P', OkT x) ∧ Q (.bl (decide (P = P'))) H) ∨ (∃ l, vs = [.ref a, .ref l] ∧ ∃ xs P W ts, PieceAt C C2 a P W ts H ∧ H l = some (.lst xs) ∧ Q (.bl false) H)
theorem okPieceWeb___eq__ (D : DefM K C2 "__eq__" "PieceWeb.__eq__" sPieceWeb___eq__ ["self", "other"]) (B : Bs mg) (Glb : Glo mg) (WK : WebK K mg C) (PK : PieceK K mg C2) :
    GoodM P w K mg base C2 "__eq__" "PieceWeb.__eq__" sPieceWeb___eq__ ["self", "other"] 1 (spPieceWeb___eq__ K C C2) := by
  refine D.good fun f fd F => ?_
  refine F.ok scPieceWeb___eq__ (fun vs H Q E h => ?_) (fun cdv A outer s H vs Q E hr h => ?_)
  · obtain ⟨a, h⟩ := h
    first | rfl | (rcases h with ⟨_, _, rfl, _⟩ | ⟨_, rfl, _⟩ <;> rfl)
  obtain ⟨a, h⟩ := h
  rcases h with ⟨b, P', rfl, W', ts', P2, W2, ts2, hw, hv, ok1, ok2, q⟩ | ⟨l, rfl, xs, P', W', ts', hw, hl, q⟩
  · obtain ⟨dx, pl, wl, x, h1, h2, h3, h4⟩ := id hw
    obtain ⟨dy, pl2, wl2, y, k1, k2, k3, k4⟩ := id hv
    refine ⟨_, (pss_one (ps_ret (pe_and (pe_callB call_isi (by rfl) B.isinstance (by decide +kernel) (pa_cons (pv 1) (pa_cons (pe_glob (v := .ref C2) (by rfl) PK.mgC rfl) pa_nil))) (pe_one (pe_cmpR (op_eqD hr.units) (pe_fld (pv 0) rfl) (pe_fld (pv 1) rfl) (nomark _)))))), ?_⟩
    refine ⟨_, rfl, _, _, _, _, true, rfl, .own C2, .base (.ins k1 PK.cl PK.i1 PK.i2 PK.i3 PK.i4), PK.i5, _, rfl, iteT ?_⟩
    refine ⟨_, rfl, a, C2, dx, _, _, rfl, h1, PK.cl, PK.nP, wfP_P _ _ _, _, rfl, b, C2, dy, _, _, rfl, k1, PK.cl, PK.nP, wfP_P _ _ _, _, _, dp_ls h2, dp_ls k2, shaped_st ok1, shaped_st ok2, ?_⟩
    rw [eqv_s]
    exact q
  · refine ⟨_, (pss_one (ps_ret (pe_and (pe_callB call_isi (by rfl) B.isinstance (by decide +kernel) (pa_cons (pv 1) (pa_cons (pe_glob (v := .ref C2) (by rfl) PK.mgC rfl) pa_nil))) (pe_one (pe_cmpR (op_eqD hr.units) (pe_fld (pv 0) rfl) (pe_fld (pv 1) rfl) (nomark _)))))), ?_⟩
    exact ⟨_, rfl, _, _, _, _, false, rfl, .own C2, .base (.lst hl), PK.kl, _, rfl, iteF q⟩
def spPieceWeb_size (_ : PySem.W.Frag) (C C2 : Addr) : Sp := fun vs H Q _ => ∃ a P W ts s, vs = [.ref a] ∧ PieceAt C C2 a P W ts H ∧ OkP P s ∧ Q (.int (s : Int)) H
theorem okPieceWeb_size (D : DefP K C2 "size" "PieceWeb.size" sPieceWeb_size ["self"]) (B : Bs mg) (Glb : Glo mg) (WK : WebK K mg C) (PK : PieceK K mg C2) :
    GoodP P w K mg base C2 "size" "PieceWeb.size" sPieceWeb_size ["self"] 1 (spPieceWeb_size K C C2) := by
  refine D.good fun f fd F => ?_
  refine F.ok scPieceWeb_size (fun vs H Q E h => ?_) (fun cdv A outer s H vs Q E hr h => ?_)
  · obtain ⟨a, P', W', ts, s, rfl, ⟨dx, pl, wl, x, h1, h2, h3, h4⟩, ho, q⟩ := h
    first | rfl | (rcases h with ⟨_, _, rfl, _⟩ | ⟨_, rfl, _⟩ <;> rfl)
  obtain ⟨a, P', W', ts, s, rfl, ⟨dx, pl, wl, x, h1, h2, h3, h4⟩, ho, q⟩ := h
  refine ⟨_, (pss_one (ps_ret (pe_callB call_len_str (by rfl) B.len (by decide +kernel) (pa_cons (pe_ix ix_list (pe_fld (pv 0) rfl) pe_int (fun _ _ => rfl)) pa_nil)))), ?_⟩
  obtain ⟨o1, o2, o3, o4, o5, o6⟩ := id ho
  obtain ⟨x0, hx0⟩ : ∃ x, P'[0]? = some x := ⟨P'[0]'(by omega), List.getElem?_eq_getElem _⟩
  have hs0 := (o3 x0 (List.mem_of_getElem? hx0)).2
  refine ⟨_, rfl, a, C2, dx, _, _, rfl, h1, PK.cl, PK.nP, wfP_P _ _ _, _, _, _, .str x0, rfl, rfl, SqL.of h2, atI_nat (j := 0) (by rw [List.getElem?_map, hx0]; rfl), x0, rfl, line400 (by omega), ?_⟩
  rw [hs0]
  exact q
def spPieceWeb_web (_ : PySem.W.Frag) (C C2 : Addr) : Sp := fun vs H Q _ => ∃ a P W ts, vs = [.ref a] ∧ PieceAt C C2 a P W ts H ∧ OkWeb W.length ts ∧ ∀ y H' S, WebAt C y W.length ts S → Same S H' → NewS H S → Same H H' → Q (.ref y) H'
theorem okPieceWeb_web (D : DefM K C2 "web" "PieceWeb.web" sPieceWeb_web ["self"]) (B : Bs mg) (Glb : Glo mg) (WK : WebK K mg C) (PK : PieceK K mg C2)
    (hcopied_web : Good P w K mg base "copied_web" scopied_web ["web"] 7 (spcopied_web K C C2)) :
    GoodM P w K mg base C2 "web" "PieceWeb.web" sPieceWeb_web ["self"] 8 (spPieceWeb_web K C C2) := by
  refine D.good fun f fd F => ?_
  obtain ⟨fcopied_web, dcopied_web, Ocopied_web, mcopied_web, kcopied_web, bcopied_web, Fcopied_web⟩ := hcopied_web
  refine F.ok scPieceWeb_web (fun vs H Q E h => ?_) (fun cdv A outer s H vs Q E hr h => ?_)
  · obtain ⟨a, P', W', ts, rfl, ⟨dx, pl, wl, x, h1, h2, h3, h4⟩, ho, q⟩ := h
    first | rfl | (rcases h with ⟨_, _, rfl, _⟩ | ⟨_, rfl, _⟩ <;> rfl)
  obtain ⟨a, P', W', ts, rfl, ⟨dx, pl, wl, x, h1, h2, h3, h4⟩, ho, q⟩ := h
  refine ⟨_, (pss_one (ps_ret (pe_call Ocopied_web hr rfl mcopied_web kcopied_web bcopied_web .nil pass0 (pa_cons (pe_fld (pv 0) rfl) pa_nil)))), ?_⟩
  exact ⟨_, rfl, a, C2, dx, _, _, rfl, h1, PK.cl, PK.nB, wfP_B _ _ _, x, W'.length, ts, rfl, h4, ho, q⟩
def spPieceWeb_pieces (_ : PySem.W.Frag) (C C2 : Addr) : Sp := fun vs H Q _ => ∃ a P W ts, vs = [.ref a] ∧ PieceAt C C2 a P W ts H ∧ ∀ p, H p = none → Q (.ref p) (upd H p (.lst (P.map V.str)))
theorem okPieceWeb_pieces (D : DefM K C2 "pieces" "PieceWeb.pieces" sPieceWeb_pieces ["self"]) (B : Bs mg) (Glb : Glo mg) (WK : WebK K mg C) (PK : PieceK K mg C2) :
    GoodM P w K mg base C2 "pieces" "PieceWeb.pieces" sPieceWeb_pieces ["self"] 1 (spPieceWeb_pieces K C C2) := by
  refine D.good fun f fd F => ?_
  refine F.ok scPieceWeb_pieces (fun vs H Q E h => ?_) (fun cdv A outer s H vs Q E hr h => ?_)
  · obtain ⟨a, P', W', ts, rfl, ⟨dx, pl, wl, x, h1, h2, h3, h4⟩, q⟩ := h
    first | rfl | (rcases h with ⟨_, _, rfl, _⟩ | ⟨_, rfl, _⟩ <;> rfl)
  obtain ⟨a, P', W', ts, rfl, ⟨dx, pl, wl, x, h1, h2, h3, h4⟩, q⟩ := h
  refine ⟨_, (pss_one (ps_ret (pe_callTy call_list_of (by rfl) B.list (by decide +kernel) (pa_cons (pe_fld (pv 0) rfl) pa_nil)))), ?_⟩
  exact ⟨_, rfl, a, C2, dx, _, _, rfl, h1, PK.cl, PK.nP, wfP_P _ _ _, _, _, rfl, .inl (SqL.of h2), q⟩
def spPieceWeb_words (_ : PySem.W.Frag) (C C2 : Addr) : Sp := fun vs H Q _ => ∃ a P W ts, vs = [.ref a] ∧ PieceAt C C2 a P W ts H ∧ ∀ p, H p = none → Q (.ref p) (upd H p (.lst (W.map V.str)))
theorem okPieceWeb_words (D : DefM K C2 "words" "PieceWeb.words" sPieceWeb_words ["self"]) (B : Bs mg) (Glb : Glo mg) (WK : WebK K mg C) (PK : PieceK K mg C2) :
    GoodM P w K mg base C2 "words" "PieceWeb.words" sPieceWeb_words ["self"] 1 (spPieceWeb_words K C C2) := by
  refine D.good fun f fd F => ?_
  refine F.ok scPieceWeb_words (fun vs H Q E h => ?_) (fun cdv A outer s H vs Q E hr h => ?_)
  · obtain ⟨a, P', W', ts, rfl, ⟨dx, pl, wl, x, h1, h2, h3, h4⟩, q⟩ := h
    first | rfl | (rcases h with ⟨_, _, rfl, _⟩ | ⟨_, rfl, _⟩ <;> rfl)
  obtain ⟨a, P', W', ts, rfl, ⟨dx, pl, wl, x, h1, h2, h3, h4⟩, q⟩ := h
  refine ⟨_, (pss_one (ps_ret (pe_callTy call_list_of (by rfl) B.list (by decide +kernel) (pa_cons (pe_fld (pv 0) rfl) pa_nil)))), ?_⟩
  exact ⟨_, rfl, a, C2, dx, _, _, rfl, h1, PK.cl, PK.nW, wfP_W _ _ _, _, _, rfl, .inl (SqL.of h3), q⟩
def spPieceWeb_word_at (_ : PySem.W.Frag) (C C2 : Addr) : Sp := fun vs H Q _ => ∃ a P W ts, ∃ i : Nat, ∃ y, vs = [.ref a, .int (i : Int)] ∧ PieceAt C C2 a P W ts H ∧ W[i]? = some y ∧ Q (.str y) H
theorem okPieceWeb_word_at (D : DefM K C2 "word_at" "PieceWeb.word_at" sPieceWeb_word_at ["self", "place"]) (B : Bs mg) (Glb : Glo mg) (WK : WebK K mg C) (PK : PieceK K mg C2)
    (hneed_place : Good P w K mg base "need_place" sneed_place ["web", "place"] 4 (spneed_place K C C2)) :
    GoodM P w K mg base C2 "word_at" "PieceWeb.word_at" sPieceWeb_word_at ["self", "place"] 5 (spPieceWeb_word_at K C C2) := by
  refine D.good fun f fd F => ?_
  obtain ⟨fneed_place, dneed_place, Oneed_place, mneed_place, kneed_place, bneed_place, Fneed_place⟩ := hneed_place
  refine F.ok scPieceWeb_word_at (fun vs H Q E h => ?_) (fun cdv A outer s H vs Q E hr h => ?_)
  · obtain ⟨a, P', W', ts, i, y, rfl, ⟨dx, pl, wl, x, h1, h2, h3, h4⟩, hy, q⟩ := h
    first | rfl | (rcases h with ⟨_, _, rfl, _⟩ | ⟨_, rfl, _⟩ <;> rfl)
  obtain ⟨a, P', W', ts, i, y, rfl, ⟨dx, pl, wl, x, h1, h2, h3, h4⟩, hy, q⟩ := h
  refine ⟨_, (pss_cons (ps_expr (pe_call Oneed_place hr rfl mneed_place kneed_place bneed_place .nil pass0 (pa_cons (pe_fld (pv 0) rfl) (pa_cons (pv 1) pa_nil))))
  (pss_one (ps_ret (pe_ix ix_list (pe_fld (pv 0) rfl) (pv 1) (fun _ _ => rfl))))), ?_⟩
  have hi := (List.getElem?_eq_some_iff.mp hy).1
  refine ⟨_, rfl, a, C2, dx, _, _, rfl, h1, PK.cl, PK.nB, wfP_B _ _ _, _, rfl, x, W'.length, ts, i, rfl, h4, hi, ?_⟩
  exact ⟨_, rfl, a, C2, dx, _, _, rfl, h1, PK.cl, PK.nW, wfP_W _ _ _, _, rfl, _, _, _, .str y, rfl, rfl, SqL.of h3, atI_nat (by rw [List.getElem?_map, hy]; rfl), q⟩
end
end My
namespace My
open PySem L2 PyProof.Rows
theorem ones_len (l : List Nat) : ((l.map fun c => (⟨#[c]⟩ : Str)).map (·.length)).sum = l.length := by
  induction l with
  | nil => rfl
  | cons a r ih =>
    rw [List.map_cons, List.map_cons, List.sum_cons, ih, List.length_cons]
    show 1 + r.length = r.length + 1
    omega
/-- the last letter of a piece -/
def ltr (x : Str) : Nat := x.cps.toList.getD (x.cps.toList.length - 1) 0
theorem str_len (x : Str) : x.cps.toList.length = x.length := by
  show x.cps.toList.length = x.cps.size
  simp
theorem ltr_at {x : Str} (h : 0 < x.length) : atI x.cps.toList (-1) = some (ltr x) := by
  have := str_len x
  exact atI_back (getD_lt (by omega))
/-- the piece of a number -/
abbrev pce (P : List Str) (t : Nat) : Str := P.getD t (Str.ofString "")
theorem pce_at {P : List Str} {t : Nat} (h : t < P.length) : P[t]? = some (pce P t) := by
  rw [pce, List.getD_eq_getElem?_getD, List.getElem?_eq_getElem h]
  rfl
abbrev letters (P : List Str) (R : List Nat) : List Nat := R.map fun t => ltr (pce P t)
/-- the text of a walk -/
def textOf (P : List Str) (R : List Nat) : Str := fst_ (pce P (R.getD 0 0)) ++ tS (letters P R)
def IsAlong (P L : List Str) (R : List Nat) : Prop := R.length = L.length ∧ ∀ (i : Nat) (z : Str), L[i]? = some z → ∃ t : Nat, R[i]? = some t ∧ P[t]? = some z
theorem IsAlong.unique {P L : List Str} {R S : List Nat} (hn : P.Nodup) (h : IsAlong P L R) (k : IsAlong P L S) : R = S := by
  refine List.ext_getElem? fun i => ?_
  by_cases c : i < L.length
  · obtain ⟨t, e1, e2⟩ := h.2 i _ (List.getElem?_eq_getElem c)
    obtain ⟨t', f1, f2⟩ := k.2 i _ (List.getElem?_eq_getElem c)
    rw [e1, f1, nodup_get hn e2 f2]
  · rw [List.getElem?_eq_none (by rw [h.1]; omega), List.getElem?_eq_none (by rw [k.1]; omega)]
theorem fst_len {x : Str} : (fst_ x).length ≤ x.length := by
  have e : x = tS x.cps.toList := by cases x; simp
  rw [e, fst_, cut_last, T_len, T_len, List.length_dropLast]
  omega
section
variable {P : Program} {w : World} {K : PySem.W.Frag} {mg : Str → Option Value} {base : Heap} {C C2 : Addr}
def spPieceWeb_letter_of (_ : PySem.W.Frag) (C C2 : Addr) : Sp := fun vs H Q _ => ∃ a P W ts s, ∃ i : Nat, vs = [.ref a, .int (i : Int)] ∧ PieceAt C C2 a P W ts H ∧ PW P W ts s ∧ i < P.length ∧ Q (.str ⟨#[ltr (pce P i)]⟩) H
theorem okPieceWeb_letter_of (D : DefM K C2 "letter_of" "PieceWeb.letter_of" sPieceWeb_letter_of ["self", "tie"]) (B : Bs mg) (Glb : Glo mg) (WK : WebK K mg C) (PK : PieceK K mg C2)
    (hneed_tie : Good P w K mg base "need_tie" sneed_tie ["web", "tie"] 4 (spneed_tie K C C2)) :
    GoodM P w K mg base C2 "letter_of" "PieceWeb.letter_of" sPieceWeb_letter_of ["self", "tie"] 5 (spPieceWeb_letter_of K C C2) := by
  refine D.good fun f fd F => ?_
  obtain ⟨fneed_tie, dneed_tie, Oneed_tie, mneed_tie, kneed_tie, bneed_tie, Fneed_tie⟩ := hneed_tie
  refine F.ok scPieceWeb_letter_of (fun vs H Q E h => ?_) (fun cdv A outer s H vs Q E hr h => ?_)
  · obtain ⟨a, P', W', ts, s, i, rfl, ⟨dx, pl, wl, x, h1, h2, h3, h4⟩, hP, hi, q⟩ := h
    first | rfl | (rcases h with ⟨_, _, rfl, _⟩ | ⟨_, rfl, _⟩ <;> rfl)
  obtain ⟨a, P', W', ts, s, i, rfl, ⟨dx, pl, wl, x, h1, h2, h3, h4⟩, hP, hi, q⟩ := h
  refine ⟨_, (pss_cons (ps_expr (pe_call Oneed_tie hr rfl mneed_tie kneed_tie bneed_tie .nil pass0 (pa_cons (pe_fld (pv 0) rfl) (pa_cons (pv 1) pa_nil))))
  (pss_one (ps_ret (pe_ix ix_str (pe_ix ix_list (pe_fld (pv 0) rfl) (pv 1) (fun _ _ => rfl)) (pe_un un_neg pe_int) (fun _ _ => rfl))))), ?_⟩
  have hy := pce_at hi
  obtain ⟨o1, o2, o3, o4, o5, o6⟩ := id hP.p
  obtain ⟨y1, y2⟩ := o3 _ (List.mem_of_getElem? hy)
  refine ⟨_, rfl, a, C2, dx, _, _, rfl, h1, PK.cl, PK.nB, wfP_B _ _ _, _, rfl, x, W'.length, ts, i, rfl, h4, by rw [hP.t.1]; exact hi, ?_⟩
  exact ⟨_, rfl, a, C2, dx, _, _, rfl, h1, PK.cl, PK.nP, wfP_P _ _ _, _, rfl, _, _, _, .str (pce P' i), rfl, rfl, SqL.of h2, atI_nat (by rw [List.getElem?_map, hy]; rfl), _, rfl, _, _, _, rfl, rfl, line400 (by omega), ltr_at (by omega), q⟩
def spPieceWeb__letters_of (_ : PySem.W.Frag) (C C2 : Addr) : Sp := fun vs H Q _ => ∃ a P W ts s r R, vs = [.ref a, .ref r] ∧ PieceAt C C2 a P W ts H ∧ PW P W ts s ∧ SeqAt H r R ∧ (∀ t ∈ R, t < P.length) ∧ R.length ≤ 100 ∧ ∀ H', Same H H' → Q (.str (tS (letters P R))) H'
theorem okPieceWeb__letters_of (D : DefM K C2 "_letters_of" "PieceWeb._letters_of" sPieceWeb__letters_of ["self", "ties"]) (B : Bs mg) (Glb : Glo mg) (WK : WebK K mg C) (PK : PieceK K mg C2) :
    GoodM P w K mg base C2 "_letters_of" "PieceWeb._letters_of" sPieceWeb__letters_of ["self", "ties"] 1 (spPieceWeb__letters_of K C C2) := by
  refine D.good fun f fd F => ?_
  refine F.ok scPieceWeb__letters_of (fun vs H Q E h => ?_) (fun cdv A outer s H vs Q E hr h => ?_)
  · obtain ⟨a, P', W', ts, s, r, R, rfl, hw, hP, hrr, hR, h100, q⟩ := h
    first | rfl | (rcases h with ⟨_, _, rfl, _⟩ | ⟨_, rfl, _⟩ <;> rfl)
  obtain ⟨a, P', W', ts, s, r, R, rfl, hw, hP, hrr, hR, h100, q⟩ := h
  refine ⟨_, (pss_one (ps_ret (pe_join pe_str (pe_lc (own := [("tie", 2)]) (g := gName 2) (by rfl) scPieceWeb__letters_of.nd (pi_or (pi_list (pv 1)) (pi_tup (pv 1))) (blkOk_by (own := [("tie", 2)]) (N := ["self", "ties", "tie"]) (sc := defScope sPieceWeb__letters_of) (by decide +kernel)) (fun _ _ _ _ _ => (pg_name (i := 2) scPieceWeb__letters_of.nd rfl (by first | exact Or.inl rfl | exact Or.inr rfl))) (fun _ _ _ _ _ => pts_nil) (fun _ _ _ _ _ => (pe_ix ix_str (pe_ix (ix_listK (K := K) rfl) (pe_fldK (K := K) rfl (pv 0)) (pv 2) (by exact fun _ _ => rfl)) (pe_un un_neg pe_int) (by exact fun _ _ => rfl))))))), ?_⟩
  obtain ⟨o1, o2, o3, o4, o5, o6⟩ := id hP.p
  have turn : ∀ (D : Addr) (i : Nat) (y : V) (H1 : Hp), (iv R)[i]? = some y → Same H H1 → ∃ t dx pl wl x, y = .int ((t : Nat) : Int) ∧ R[i]? = some t ∧ H1 a = some (.ins C2 dx (wfP pl wl x)) ∧ H1 pl = some (.lst (P'.map V.str)) ∧ (P'.map V.str)[t]? = some (.str (pce P' t)) ∧ (pce P' t).length ≤ 400 ∧ 0 < (pce P' t).length ∧ ((((R.take i).map fun t => ltr (pce P' t)).map fun c => (⟨#[c]⟩ : Str)).map V.str).length < sizeLine := fun D i y H1 hy hS1 => by
    rw [List.getElem?_map] at hy
    cases e : R[i]? with
    | none => rw [e] at hy; cases hy
    | some t =>
      rw [e] at hy
      obtain ⟨dx, pl, wl, x, h1, h2, h3, h4⟩ := hw.same hS1
      have ht := hR t (List.mem_of_getElem? e)
      have hp := pce_at ht
      obtain ⟨y1, y2⟩ := o3 _ (List.mem_of_getElem? hp)
      refine ⟨t, dx, pl, wl, x, (Option.some.inj hy).symm, rfl, h1, h2, by rw [List.getElem?_map, hp]; rfl, by omega, by omega, ?_⟩
      rw [List.length_map, List.length_map, List.length_map, List.length_take]
      exact Nat.lt_of_lt_of_le (by omega : _ < 1000) (by decide)
  have fin : ∀ (D : Addr) (H1 : Hp), Same H H1 → H1 D = some (.lst ((((R.take R.length).map fun t => ltr (pce P' t)).map fun c => (⟨#[c]⟩ : Str)).map V.str)) → ∃ a' p ys, V.str (Str.ofString "") = .str a' ∧ [V.ref D] = [V.ref p] ∧ (SqL K H1 p (List.map V.str ys) ∨ SqT K H1 p (List.map V.str ys)) ∧ (ys.map (·.length)).sum + ys.length * a'.length ≤ 16777216 ∧ Q (.str (Txt.join a' ys)) H1 := fun D H1 hS1 hD => by
    rw [List.take_length] at hD
    refine ⟨_, _, (letters P' R).map fun c => (⟨#[c]⟩ : Str), rfl, rfl, .inl (SqL.of hD), ?_, ?_⟩
    · rw [ones_len, T_nil, List.length_map]
      show R.length + _ * 0 ≤ _
      omega
    · rw [join_T]
      exact q H1 hS1
  rcases hrr with hh | hh
  · refine ⟨⟨_, rfl⟩, .inl ⟨_, rfl, r, rfl, ⟨_, SqL.of hh⟩, fun D nD => ?_⟩⟩
    refine lc_list (K := K) (a := r) (xs := iv R) (fun i H' => Same H H' ∧ H' D = some (.lst ((((R.take i).map fun t => ltr (pce P' t)).map fun c => (⟨#[c]⟩ : Str)).map V.str))) ⟨same_new nD _, upd_same⟩ (fun i H' _ ⟨hS', _⟩ => SqL.of (hS' _ _ hh)) ?_ ?_
    · rintro i y H1 hy ⟨hS1, hD1⟩
      obtain ⟨t, dx, pl, wl, x, rfl, e1, t1, t2, t3, t4, t5, t6⟩ := turn D i y H1 hy hS1
      refine ⟨rfl, _, rfl, a, C2, dx, _, _, rfl, t1, PK.cl, PK.nP, wfP_P _ _ _, _, rfl, _, _, _, .str (pce P' t), rfl, rfl, SqL.of t2, atI_nat t3, _, rfl, _, _, _, rfl, rfl, line400 t4, ltr_at t5, _, hD1, t6, same_upd hS1 nD, ?_⟩
      rw [upd_same, take_snoc e1, List.map_append, List.map_append, List.map_append]
      rfl
    · rintro H1 ⟨hS1, hD1⟩
      rw [List.length_map] at hD1
      exact fin D H1 hS1 hD1
  · refine ⟨⟨_, rfl⟩, .inr ⟨_, rfl, r, rfl, ⟨_, SqT.of hh⟩, fun D nD => ?_⟩⟩
    refine lc_tup (K := K) (a := r) (xs := iv R) (fun i H' => Same H H' ∧ H' D = some (.lst ((((R.take i).map fun t => ltr (pce P' t)).map fun c => (⟨#[c]⟩ : Str)).map V.str))) ⟨same_new nD _, upd_same⟩ (fun i H' _ ⟨hS', _⟩ => SqT.of (hS' _ _ hh)) ?_ ?_
    · rintro i y H1 hy ⟨hS1, hD1⟩
      obtain ⟨t, dx, pl, wl, x, rfl, e1, t1, t2, t3, t4, t5, t6⟩ := turn D i y H1 hy hS1
      refine ⟨rfl, _, rfl, a, C2, dx, _, _, rfl, t1, PK.cl, PK.nP, wfP_P _ _ _, _, rfl, _, _, _, .str (pce P' t), rfl, rfl, SqL.of t2, atI_nat t3, _, rfl, _, _, _, rfl, rfl, line400 t4, ltr_at t5, _, hD1, t6, same_upd hS1 nD, ?_⟩
      rw [upd_same, take_snoc e1, List.map_append, List.map_append, List.map_append]
      rfl
    · rintro H1 ⟨hS1, hD1⟩
      rw [List.length_map] at hD1
      exact fin D H1 hS1 hD1
def spPieceWeb_text_of (_ : PySem.W.Frag) (C C2 : Addr) : Sp := fun vs H Q _ => ∃ a P W ts s r R, vs = [.ref a, .ref r] ∧ PieceAt C C2 a P W ts H ∧ PW P W ts s ∧ SeqAt H r R ∧ Chain ts R ∧ R.length ≤ 100 ∧ ∀ H', Same H H' → Q (.str (textOf P R)) H'
theorem okPieceWeb_text_of (D : DefM K C2 "text_of" "PieceWeb.text_of" sPieceWeb_text_of ["self", "walk"]) (B : Bs mg) (Glb : Glo mg) (WK : WebK K mg C) (PK : PieceK K mg C2)
    (hneed_walk : Good P w K mg base "need_walk" sneed_walk ["web", "walk"] 7 (spneed_walk K C C2))
    (h_need_letters : Good P w K mg base "_need_letters" s_need_letters ["many"] 3 (sp_need_letters K C C2))
    (hPieceWeb__letters_of : GoodM P w K mg base C2 "_letters_of" "PieceWeb._letters_of" sPieceWeb__letters_of ["self", "ties"] 1 (spPieceWeb__letters_of K C C2))
    (hPieceWeb_size : GoodP P w K mg base C2 "size" "PieceWeb.size" sPieceWeb_size ["self"] 1 (spPieceWeb_size K C C2)) :
    GoodM P w K mg base C2 "text_of" "PieceWeb.text_of" sPieceWeb_text_of ["self", "walk"] 8 (spPieceWeb_text_of K C C2) := by
  refine D.good fun f fd F => ?_
  obtain ⟨fneed_walk, dneed_walk, Oneed_walk, mneed_walk, kneed_walk, bneed_walk, Fneed_walk⟩ := hneed_walk
  obtain ⟨f_need_letters, d_need_letters, O_need_letters, m_need_letters, k_need_letters, b_need_letters, F_need_letters⟩ := h_need_letters
  obtain ⟨fPieceWeb__letters_of, dPieceWeb__letters_of, OPieceWeb__letters_of, tPieceWeb__letters_of, bPieceWeb__letters_of, FPieceWeb__letters_of⟩ := hPieceWeb__letters_of
  obtain ⟨qPieceWeb_size, fPieceWeb_size, dPieceWeb_size, OPieceWeb_size, pPieceWeb_size, bPieceWeb_size⟩ := hPieceWeb_size
  refine F.ok scPieceWeb_text_of (fun vs H Q E h => ?_) (fun cdv A outer s H vs Q E hr h => ?_)
  · obtain ⟨a, P', W', ts, s, r, R, rfl, hw, hP, hrr, hc, h100, q⟩ := h
    first | rfl | (rcases h with ⟨_, _, rfl, _⟩ | ⟨_, rfl, _⟩ <;> rfl)
  obtain ⟨a, P', W', ts, s, r, R, rfl, hw, hP, hrr, hc, h100, q⟩ := h
  refine ⟨_, (pss_cons (ps_expr (pe_call Oneed_walk hr rfl mneed_walk kneed_walk bneed_walk .nil pass0 (pa_cons (pe_fld (pv 0) rfl) (pa_cons (pv 1) pa_nil))))
  (pss_cons (ps_expr (pe_call O_need_letters (hr.mono (by decide)) rfl m_need_letters k_need_letters b_need_letters .nil pass0 (pa_cons (pe_op op_add (pe_op op_sub (pe_prop (pv 0) PK.cl pPieceWeb_size OPieceWeb_size (hr.mono (by decide)) bPieceWeb_size .nil pass0 (by rfl)) pe_int) (pe_callB call_len_seq (by rfl) B.len (by decide +kernel) (pa_cons (pv 1) pa_nil))) pa_nil)))
  (pss_one (ps_ret (pe_op op_add_str (pe_slice sl_str (pe_ix ix_list (pe_fld (pv 0) rfl) (pe_ix ix_seq (pv 1) pe_int (fun _ _ => rfl)) (fun _ _ => rfl)) po_none (po_some (pe_un un_neg pe_int))) (pe_meth (pv 0) PK.cl tPieceWeb__letters_of OPieceWeb__letters_of (hr.mono (by decide)) bPieceWeb__letters_of .nil pass0 (pa_cons (pv 1) pa_nil))))))), ?_⟩
  obtain ⟨o1, o2, o3, o4, o5, o6⟩ := id hP.p
  obtain ⟨dx, pl, wl, x, h1, h2, h3, h4⟩ := id hw
  have h0 := hc.n0
  have hnum : ∀ t ∈ R, t < P'.length := fun t ht => by rw [← hP.t.1]; exact hc.num t ht
  have er : R[0]? = some (R.getD 0 0) := getD_lt h0
  have hy := pce_at (hnum _ (List.mem_of_getElem? er))
  obtain ⟨y1, y2⟩ := o3 _ (List.mem_of_getElem? hy)
  refine ⟨_, rfl, a, C2, dx, _, _, rfl, h1, PK.cl, PK.nB, wfP_B _ _ _, _, rfl, x, W'.length, ts, r, R, rfl, h4, hrr, hc, by omega, fun H1 hS1 => ?_⟩
  have hw1 := hw.same hS1
  have k1 := hS1 _ _ h1
  refine ⟨_, rfl, a, dx, _, rfl, k1, a, P', W', ts, s, rfl, hw1, hP.p, _, _, rfl, rfl, _, rfl, r, _, rfl, (hrr.same hS1).seq, _, _, rfl, rfl, _, rfl, by rw [List.length_map]; omega, ?_⟩
  refine ⟨_, rfl, a, C2, dx, _, _, rfl, k1, PK.cl, PK.nP, wfP_P _ _ _, _, rfl, (hrr.same hS1).ix (iv_at (j := 0) er) ⟨_, _, _, .str (pce P' (R.getD 0 0)), rfl, rfl, SqL.of (hS1 _ _ h2), atI_nat (by rw [List.getElem?_map, hy]; rfl), _, rfl, _, rfl, _, rfl, line400 (by omega), ?_⟩⟩
  refine ⟨_, rfl, a, dx, _, rfl, k1, wfP_no _ _ _ (by decide +kernel) (by decide +kernel) (by decide +kernel), _, rfl, a, P', W', ts, s, r, R, rfl, hw1, hP, hrr.same hS1, hnum, h100, fun H2 hS2 => ⟨_, _, rfl, rfl, ?_, ?_⟩⟩
  · have e1 := fst_len (x := pce P' (R.getD 0 0))
    have e2 : (tS (letters P' R)).length = R.length := by rw [T_len, List.length_map]
    show (fst_ (pce P' (R.getD 0 0))).length + (tS (letters P' R)).length ≤ sizeLine
    rw [e2]
    exact Nat.le_trans (by omega : _ ≤ 1000) (by decide)
  · exact q H2 (hS1.trans hS2)
end
end My
namespace My
open PySem L2 PyProof.Rows
/-- what the walk of a text is -/
def WalkIs (P : List Str) (x : Str) (s : Nat) (v : V) (H : Hp) : Prop := (v = .non ∧ (pcs x s = [] ∨ ¬ ∀ z ∈ pcs x s, z ∈ P)) ∨ (∃ l R, v = .ref l ∧ H l = some (.lst (iv R)) ∧ pcs x s ≠ [] ∧ IsAlong P (pcs x s) R)
theorem WalkIs.same {P : List Str} {x : Str} {s : Nat} {v : V} {H H' : Hp} (h : WalkIs P x s v H) (k : Same H H') : WalkIs P x s v H' := by
  rcases h with h | ⟨l, R, h1, h2, h3⟩
  · exact .inl h
  · exact .inr ⟨l, R, h1, k _ _ h2, h3⟩
theorem WalkIs.dp {K : PySem.W.Frag} {P : List Str} {x : Str} {s : Nat} {u v : V} {H : Hp} (hn : P.Nodup) (h : WalkIs P x s u H) (k : WalkIs P x s v H) : ∃ d, Dp K H u d ∧ Dp K H v d ∧ SeqAt.shaped d = true ∧ PyData.eqv d d = true := by
  have imp : ∀ {R}, pcs x s ≠ [] → IsAlong P (pcs x s) R → (pcs x s = [] ∨ ¬ ∀ z ∈ pcs x s, z ∈ P) → False := fun a b c => c.elim a fun c => c fun z hz => by
    obtain ⟨i, hi⟩ := List.getElem?_of_mem hz
    obtain ⟨t, _, e⟩ := b.2 i z hi
    exact List.mem_of_getElem? e
  rcases h with ⟨rfl, h⟩ | ⟨l, R, rfl, h2, h3, h4⟩
  · rcases k with ⟨rfl, k⟩ | ⟨m, S, rfl, k2, k3, k4⟩
    · exact ⟨.none, .non, .non, rfl, rfl⟩
    · exact (imp k3 k4 h).elim
  · rcases k with ⟨rfl, k⟩ | ⟨m, S, rfl, k2, k3, k4⟩
    · exact (imp h3 h4 k).elim
    · have e := h4.unique hn k4
      subst e
      rw [iv_iz] at h2 k2
      exact ⟨_, dp_iz h2, dp_iz k2, shaped_iz _, eqv_same _⟩
theorem pcs_nil {x : Str} {s : Nat} (h : x.length < s) : pcs x s = [] := List.length_eq_zero_iff.mp (by rw [pcsN_len]; omega)
theorem pcs_some {x : Str} {s : Nat} (h : ¬ x.length < s) : pcs x s ≠ [] := fun e => by
  have := congrArg List.length e
  rw [pcsN_len, List.length_nil] at this
  omega
theorem IsAlong.nil {P : List Str} : IsAlong P [] [] := ⟨rfl, fun i z h => by simp at h⟩
theorem IsAlong.snoc {P L : List Str} {R : List Nat} {z : Str} {t : Nat} (h : IsAlong P L R) (e : P[t]? = some z) : IsAlong P (L ++ [z]) (R ++ [t]) := by
  have hl := h.1
  refine ⟨by rw [List.length_append, List.length_append, hl]; rfl, fun i y hy => ?_⟩
  by_cases c : i < L.length
  · rw [List.getElem?_append_left c] at hy
    obtain ⟨u, a1, a2⟩ := h.2 i y hy
    exact ⟨u, by rw [List.getElem?_append_left (by omega)]; exact a1, a2⟩
  · have hi := (List.getElem?_eq_some_iff.mp hy).1
    rw [List.length_append, List.length_singleton] at hi
    have ei : i = L.length := by omega
    subst ei
    rw [List.getElem?_append_right (Nat.le_refl _), Nat.sub_self] at hy
    cases hy
    exact ⟨t, by rw [← hl, List.getElem?_append_right (Nat.le_refl _), Nat.sub_self]; rfl, e⟩
section
variable {P : Program} {w : World} {K : PySem.W.Frag} {mg : Str → Option Value} {base : Heap} {C C2 : Addr}
def spPieceWeb__ties_along (_ : PySem.W.Frag) (C C2 : Addr) : Sp := fun vs H Q _ => ∃ a P W ts s x, vs = [.ref a, .str x] ∧ PieceAt C C2 a P W ts H ∧ PW P W ts s ∧ OkT x ∧ ¬ x.length < s ∧ ∀ v H', Same H H' → WalkIs P x s v H' → Q v H'
theorem okPieceWeb__ties_along (D : DefM K C2 "_ties_along" "PieceWeb._ties_along" sPieceWeb__ties_along ["self", "text"]) (B : Bs mg) (Glb : Glo mg) (WK : WebK K mg C) (PK : PieceK K mg C2)
    (hpieces_along : Good P w K mg base "pieces_along" spieces_along ["text", "size"] 1 (sppieces_along K C C2))
    (hPieceWeb_size : GoodP P w K mg base C2 "size" "PieceWeb.size" sPieceWeb_size ["self"] 1 (spPieceWeb_size K C C2)) :
    GoodM P w K mg base C2 "_ties_along" "PieceWeb._ties_along" sPieceWeb__ties_along ["self", "text"] 3 (spPieceWeb__ties_along K C C2) := by
  refine D.good fun f fd F => ?_
  obtain ⟨fpieces_along, dpieces_along, Opieces_along, mpieces_along, kpieces_along, bpieces_along, Fpieces_along⟩ := hpieces_along
  obtain ⟨qPieceWeb_size, fPieceWeb_size, dPieceWeb_size, OPieceWeb_size, pPieceWeb_size, bPieceWeb_size⟩ := hPieceWeb_size
  refine F.ok scPieceWeb__ties_along (fun vs H Q E h => ?_) (fun cdv A outer s H vs Q E hr h => ?_)
  · obtain ⟨a, P', W', ts, s, x, rfl, hw, hP, hx, hxs, q⟩ := h
    first | rfl | (rcases h with ⟨_, _, rfl, _⟩ | ⟨_, rfl, _⟩ <;> rfl)
  obtain ⟨a, P', W', ts, s, x, rfl, hw, hP, hx, hxs, q⟩ := h
  refine ⟨_, (pss_cons (ps_set (i := 2) scPieceWeb__ties_along.nd rfl (by first | exact Or.inl rfl | exact Or.inr rfl) (pe_dc (own := [("tie", 3), ("piece", 4)]) (g := gTup K 2 (gCons (gName 3) (gCons (gName 4) gNil))) (by rfl) scPieceWeb__ties_along.nd (pi_enum (by rfl) B.enumerate (pa_cons (pe_fld (pv 0) rfl) pa_nil)) (blkOk_by (own := [("tie", 3), ("piece", 4)]) (N := ["self", "text", "numbers", "tie", "piece", "read"]) (sc := defScope sPieceWeb__ties_along) (by decide +kernel)) (fun _ _ _ _ _ => (pg_tup rfl (pgs_cons (pg_name (i := 3) scPieceWeb__ties_along.nd rfl (by first | exact Or.inl rfl | exact Or.inr rfl)) (pgs_cons (pg_name (i := 4) scPieceWeb__ties_along.nd rfl (by first | exact Or.inl rfl | exact Or.inr rfl)) pgs_nil)))) (fun _ _ _ _ _ => pts_nil) (fun _ _ _ _ _ => (pv 4)) (fun _ _ _ _ _ => (pv 3))))
  (pss_cons (ps_set (i := 5) scPieceWeb__ties_along.nd rfl (by first | exact Or.inl rfl | exact Or.inr rfl) (pe_call Opieces_along (hr.mono (by decide)) rfl mpieces_along kpieces_along bpieces_along .nil pass0 (pa_cons (pv 1) (pa_cons (pe_prop (pv 0) PK.cl pPieceWeb_size OPieceWeb_size (hr.mono (by decide)) bPieceWeb_size .nil pass0 (by rfl)) pa_nil))))
  (pss_cons (ps_if (pt_not (pt_val (pe_callB (cr_all rfl) (by rfl) B.all (by decide +kernel) (pa_cons (pe_lc (own := [("piece", 4)]) (g := gName 4) (by rfl) scPieceWeb__ties_along.nd (pi_list (pv 5)) (blkOk_by (own := [("piece", 4)]) (N := ["self", "text", "numbers", "tie", "piece", "read"]) (sc := defScope sPieceWeb__ties_along) (by decide +kernel)) (fun _ _ _ _ _ => (pg_name (i := 4) scPieceWeb__ties_along.nd rfl (by first | exact Or.inl rfl | exact Or.inr rfl))) (fun _ _ _ _ _ => pts_nil) (fun _ _ _ _ _ => (pe_cmp (pc_din (hu_of hr) (pv 4) (pv 2)) rfl))) pa_nil))))
    (pss_one (ps_ret pe_non)) pss_nil)
  (pss_one (ps_ret (pe_lc (own := [("piece", 4)]) (g := gName 4) (by rfl) scPieceWeb__ties_along.nd (pi_list (pv 5)) (blkOk_by (own := [("piece", 4)]) (N := ["self", "text", "numbers", "tie", "piece", "read"]) (sc := defScope sPieceWeb__ties_along) (by decide +kernel)) (fun _ _ _ _ _ => (pg_name (i := 4) scPieceWeb__ties_along.nd rfl (by first | exact Or.inl rfl | exact Or.inr rfl))) (fun _ _ _ _ _ => pts_nil) (fun _ _ _ _ _ => (pe_dget (hu_of hr) (pv 2) (pv 4) (by exact fun _ _ => rfl))))))))), ?_⟩
  obtain ⟨o1, o2, o3, o4, o5, o6⟩ := id hP.p
  obtain ⟨dx, pl, wl, y, h1, h2, h3, h4⟩ := id hw
  have hxl := hx.len
  refine ⟨_, rfl, a, C2, dx, _, _, rfl, h1, PK.cl, PK.nP, wfP_P _ _ _, pl, _, rfl, SqL.of h2, fun D nD => ?_⟩
  refine dc_it (walk_enum (K := K) (a := pl) (xs := P'.map V.str)) (fun i H' => Same H H' ∧ H' D = some (.dK (dN P' i))) ⟨same_new nD _, upd_same⟩ (fun i H' _ ⟨hS', _⟩ => SqL.of (hS' _ _ h2)) ?_ ?_
  · rintro i y H2 H3 hi ⟨hS2, hD2⟩ ⟨T0, x1, x2, rfl, nT0, rfl, e1, e2⟩
    cases e1
    obtain ⟨z, hz, rfl⟩ := str_at e2
    have hil := (List.getElem?_eq_some_iff.mp hz).1
    refine ⟨T0, _, rfl, SqT.of upd_same, rfl, _, _, rfl, _, _, rfl, rfl, rfl, _, rfl, _, rfl, dN P' i, Sum.inr z, rfl, same_new nT0 _ _ _ hD2, ?_, same_upd (fun b o e => same_new nT0 _ _ _ (hS2 _ _ e)) nD, ?_⟩
    · exact Nat.lt_of_le_of_lt (dN_len P' i) (Nat.lt_of_lt_of_le (by omega : i < 1000) (by decide))
    · rw [upd_same, dN_put o6 hz]
  rintro H1 ⟨hS1, hD1⟩
  rw [List.length_map] at hD1
  refine ⟨_, rfl, _, rfl, a, dx, _, rfl, hS1 _ _ h1, a, P', W', ts, s, rfl, hw.same hS1, hP.p, x, s, rfl, hxl, o5, fun H2 r hS2 nr hr2 => ?_⟩
  have hD2 := hS2 _ _ hD1
  have hsome : ∀ z, (valV (dN P' P'.length) (Sum.inr z : Key)).isSome = decide (z ∈ P') := fun z => by
    by_cases c : z ∈ P'
    · obtain ⟨j, hj⟩ := List.getElem?_of_mem c
      rw [dN_at o6 hj (List.getElem?_eq_some_iff.mp hj).1, decide_eq_true c]
      rfl
    · rw [dN_none (by rw [List.take_length]; exact c), decide_eq_false c]
      rfl
  have hpl : (pcs x s).length ≤ 401 := by rw [pcsN_len]; omega
  refine ⟨_, rfl, r, rfl, ⟨_, SqL.of hr2⟩, fun D2 nD2 => ?_⟩
  refine lc_list (K := K) (a := r) (xs := (pcs x s).map V.str) (fun i H' => Same H2 H' ∧ H' D2 = some (.lst ((((pcs x s).take i).map fun z => decide (z ∈ P')).map V.bl))) ⟨same_new nD2 _, upd_same⟩ (fun i H' _ ⟨hS', _⟩ => SqL.of (hS' _ _ hr2)) ?_ ?_
  · rintro i y H3 hy ⟨hS3, hD3⟩
    obtain ⟨z, hz, rfl⟩ := str_at hy
    have hg : DGet H3 D (.str z) (valV (dN P' P'.length) (Sum.inr z : Key)) := DGet.k (k := Sum.inr z) (hS3 _ _ hD2)
    refine ⟨rfl, _, rfl, _, rfl, D, _, rfl, hg, _, hD3, ?_, same_upd hS3 nD2, ?_⟩
    · rw [List.length_map, List.length_map, List.length_take]
      exact Nat.lt_of_lt_of_le (by omega : _ < 1000) (by decide)
    · rw [upd_same, take_snoc hz, List.map_append, List.map_append, hsome]
      rfl
  rintro H3 ⟨hS3, hD3⟩
  rw [List.length_map, List.take_length] at hD3
  have hS03 := (hS1.trans hS2).trans hS3
  have hr3 := hS3 _ _ hr2
  refine ⟨D2, _, rfl, SqL.of hD3, _, rfl, ?_⟩
  refine ite2 (fun c1 => ?_) (fun c1 => ?_)
  · refine q _ _ hS03 (.inl ⟨rfl, .inr fun hz => ?_⟩)
    have : ((pcs x s).map fun z => decide (z ∈ P')).all id = true := by
      rw [List.all_eq_true]
      intro b hb
      obtain ⟨z, h, rfl⟩ := List.mem_map.mp hb
      exact decide_eq_true (hz z h)
    simp_all
  · have hz : ∀ z ∈ pcs x s, z ∈ P' := by
      simp only [Bool.not_eq_true, Bool.not_eq_false', List.all_eq_true] at c1
      intro z h
      have := c1 _ (List.mem_map.mpr ⟨z, h, rfl⟩)
      simpa using this
    refine ⟨_, rfl, r, rfl, ⟨_, SqL.of hr3⟩, fun D3 nD3 => ?_⟩
    refine lc_list (K := K) (a := r) (xs := (pcs x s).map V.str) (fun i H' => ∃ R, Same H3 H' ∧ H' D3 = some (.lst (iv R)) ∧ IsAlong P' ((pcs x s).take i) R) ⟨[], same_new nD3 _, upd_same, IsAlong.nil⟩ (fun i H' _ ⟨_, hS', _⟩ => SqL.of (hS' _ _ hr3)) ?_ ?_
    · rintro i y H4 hy ⟨R, hS4, hD4, hA⟩
      obtain ⟨z, hzi, rfl⟩ := str_at hy
      obtain ⟨j, hj⟩ := List.getElem?_of_mem (hz z (List.mem_of_getElem? hzi))
      have hg : DGet H4 D (.str z) (some (.int (j : Int))) := by
        rw [← dN_at o6 hj (List.getElem?_eq_some_iff.mp hj).1]
        exact DGet.k (k := Sum.inr z) (hS4 _ _ (hS3 _ _ hD2))
      refine ⟨rfl, _, rfl, _, rfl, D, _, rfl, hg, _, hD4, ?_, R ++ [j], same_upd hS4 nD3, ?_, ?_⟩
      · rw [List.length_map, hA.1, List.length_take]
        exact Nat.lt_of_lt_of_le (by omega : _ < 1000) (by decide)
      · rw [upd_same, iv_app]
      · rw [take_snoc hzi]
        exact hA.snoc hj
    rintro H4 ⟨R, hS4, hD4, hA⟩
    rw [List.length_map, List.take_length] at hA
    exact q _ _ (hS03.trans hS4) (.inr ⟨D3, R, rfl, hD4, pcs_some hxs, hA⟩)
def spPieceWeb_walk_of (_ : PySem.W.Frag) (C C2 : Addr) : Sp := fun vs H Q _ => ∃ a P W ts s x, vs = [.ref a, .str x] ∧ PieceAt C C2 a P W ts H ∧ PW P W ts s ∧ OkT x ∧ ∀ v H', Same H H' → WalkIs P x s v H' → Q v H'
theorem okPieceWeb_walk_of (D : DefM K C2 "walk_of" "PieceWeb.walk_of" sPieceWeb_walk_of ["self", "text"]) (B : Bs mg) (Glb : Glo mg) (WK : WebK K mg C) (PK : PieceK K mg C2)
    (hneed_text : Good P w K mg base "need_text" sneed_text ["text"] 3 (spneed_text K C C2))
    (hPieceWeb_size : GoodP P w K mg base C2 "size" "PieceWeb.size" sPieceWeb_size ["self"] 1 (spPieceWeb_size K C C2))
    (hPieceWeb__ties_along : GoodM P w K mg base C2 "_ties_along" "PieceWeb._ties_along" sPieceWeb__ties_along ["self", "text"] 3 (spPieceWeb__ties_along K C C2)) :
    GoodM P w K mg base C2 "walk_of" "PieceWeb.walk_of" sPieceWeb_walk_of ["self", "text"] 5 (spPieceWeb_walk_of K C C2) := by
  refine D.good fun f fd F => ?_
  obtain ⟨fneed_text, dneed_text, Oneed_text, mneed_text, kneed_text, bneed_text, Fneed_text⟩ := hneed_text
  obtain ⟨qPieceWeb_size, fPieceWeb_size, dPieceWeb_size, OPieceWeb_size, pPieceWeb_size, bPieceWeb_size⟩ := hPieceWeb_size
  obtain ⟨fPieceWeb__ties_along, dPieceWeb__ties_along, OPieceWeb__ties_along, tPieceWeb__ties_along, bPieceWeb__ties_along, FPieceWeb__ties_along⟩ := hPieceWeb__ties_along
  refine F.ok scPieceWeb_walk_of (fun vs H Q E h => ?_) (fun cdv A outer s H vs Q E hr h => ?_)
  · obtain ⟨a, P', W', ts, s, x, rfl, hw, hP, hx, q⟩ := h
    first | rfl | (rcases h with ⟨_, _, rfl, _⟩ | ⟨_, rfl, _⟩ <;> rfl)
  obtain ⟨a, P', W', ts, s, x, rfl, hw, hP, hx, q⟩ := h
  refine ⟨_, (pss_cons (ps_expr (pe_call Oneed_text (hr.mono (by decide)) rfl mneed_text kneed_text bneed_text .nil pass0 (pa_cons (pv 1) pa_nil)))
  (pss_cons (ps_if (pt_cmpR op_lt (pe_callB call_len_str (by rfl) B.len (by decide +kernel) (pa_cons (pv 1) pa_nil)) (pe_prop (pv 0) PK.cl pPieceWeb_size OPieceWeb_size (hr.mono (by decide)) bPieceWeb_size .nil pass0 (by rfl)) (nomark _))
    (pss_one (ps_ret pe_non)) pss_nil)
  (pss_one (ps_ret (pe_meth (pv 0) PK.cl tPieceWeb__ties_along OPieceWeb__ties_along (hr.mono (by decide)) bPieceWeb__ties_along .nil pass0 (pa_cons (pv 1) pa_nil)))))), ?_⟩
  obtain ⟨dx, pl, wl, y, h1, h2, h3, h4⟩ := id hw
  have hxl := hx.len
  refine ⟨_, rfl, x, rfl, hx, _, rfl, _, rfl, line400 hxl, _, rfl, a, dx, _, rfl, h1, a, P', W', ts, s, rfl, hw, hP.p, _, _, rfl, rfl, _, rfl, ?_⟩
  refine ite2 (fun c1 => ?_) (fun c1 => ?_)
  · exact q _ _ (Same.refl _) (.inl ⟨rfl, .inl (pcs_nil (by simpa using c1))⟩)
  · exact ⟨_, rfl, a, dx, _, rfl, h1, wfP_no _ _ _ (by decide +kernel) (by decide +kernel) (by decide +kernel), _, rfl, a, P', W', ts, s, x, rfl, hw, hP, hx, by simpa using c1, q⟩
end
end My
namespace My
open PySem L2 PyProof.Rows
theorem inV_st (x : Str) (L : List Str) : inV (.str x) (L.map V.str) = decide (x ∈ L) := by
  unfold inV
  induction L with
  | nil => rfl
  | cons a r ih =>
    rw [List.map_cons, List.any_cons, ih]
    show ((a == x) || _) = _
    by_cases h : a = x
    · subst h
      simp
    · have e : (a == x) = false := beq_eq_false_iff_ne.mpr h
      rw [e, Bool.false_or]
      have : ¬ x = a := fun z => h z.symm
      simp [this]
theorem flat_st (L : List Str) : (L.map V.str).all flatV = true := by
  rw [List.all_eq_true]
  intro x hx
  obtain ⟨n, _, rfl⟩ := List.mem_map.mp hx
  rfl
theorem eqV_st (x y : Str) : eqV (.str x) (.str y) = decide (x = y) := by
  show (x == y) = _
  by_cases h : x = y
  · subst h; simp
  · rw [beq_eq_false_iff_ne.mpr h, decide_eq_false h]
/-- where a text stands in a list -/
theorem index_st {K : PySem.W.Frag} {H : Hp} {l : Addr} {L : List Str} {x : Str} {u : Nat} {Q : VK} (hn : L.Nodup) (hl : H l = some (.lst (L.map V.str))) (hu : L[u]? = some x) (q : Q (.int ((u : Nat) : Int)) H) : rIndex K (.ref l) [.str x] H Q := by
  refine ⟨l, _, _, u, .str x, rfl, rfl, SqL.of hl, rfl, flat_st L, by rw [List.getElem?_map, hu]; rfl, by rw [eqV_st]; simp, fun m z hm hz => ?_, q⟩
  obtain ⟨y, hy, rfl⟩ := str_at hz
  rw [eqV_st]
  refine decide_eq_false fun e => ?_
  subst e
  have := nodup_get hn hy hu
  omega
/-- letters -/
def Lts (m : List Nat) : Prop := ∀ c ∈ m, 97 ≤ c ∧ c ≤ 122
theorem Lts.ok {m : List Nat} (h : Lts m) (k : m.length ≤ 400) : OkT (tS m) := ⟨by rw [T_len]; exact k, fun c hc => h c (by simpa using hc)⟩
theorem nodup_snoc {α : Type} {L : List α} {x : α} (h : L.Nodup) (n : x ∉ L) : (L ++ [x]).Nodup := by
  rw [List.nodup_append]
  refine ⟨h, by simp, fun a ha b hb => ?_⟩
  rw [List.mem_singleton.mp hb]
  exact fun z => n (by rw [← z]; exact ha)
theorem IsTies.snoc {W L : List Str} {ts : List (Nat × Nat)} {i u v : Nat} {z : Str} (h : IsTies W (L.take i) ts) (hz : L[i]? = some z) (hu : W[u]? = some (fst_ z)) (hv : W[v]? = some (lst_ z)) : IsTies W (L.take (i + 1)) (ts ++ [(u, v)]) := by
  have hil := (List.getElem?_eq_some_iff.mp hz).1
  have htl : ts.length = i := by rw [h.1, List.length_take]; omega
  refine ⟨?_, fun j x hx => ?_⟩
  · rw [List.length_append, htl, List.length_take, List.length_singleton]
    omega
  · rw [take_snoc hz] at hx
    by_cases c : j < i
    · rw [List.getElem?_append_left (by rw [List.length_take]; omega)] at hx
      obtain ⟨u', v', a1, a2, a3⟩ := h.2 j x hx
      exact ⟨u', v', by rw [List.getElem?_append_left (by omega)]; exact a1, a2, a3⟩
    · have hj := (List.getElem?_eq_some_iff.mp hx).1
      rw [List.length_append, List.length_take, List.length_singleton] at hj
      have e : j = i := by omega
      subst e
      rw [List.getElem?_append_right (by rw [List.length_take]; omega), List.length_take, Nat.min_eq_left (by omega), Nat.sub_self] at hx
      cases hx
      exact ⟨u, v, by rw [List.getElem?_append_right (by omega), htl, Nat.sub_self]; rfl, hu, hv⟩
theorem of_ab : Str.ofString "ab" = tS [97, 98] := by decide +kernel
theorem of_abc : Str.ofString "abc" = tS [97, 98, 99] := by decide +kernel
section
variable {P : Program} {w : World} {K : PySem.W.Frag} {mg : Str → Option Value} {base : Heap} {C C2 : Addr}
def sp_law_pot (K : PySem.W.Frag) (_ _ : Addr) : Sp := fun vs H Q _ => ∃ a, ∃ ns : List Int, vs = [.ref a, .int 0] ∧ SqL K H a (ns.map V.int) ∧ ∀ p H', PotAt H' p → Same H H' → H p = none → Q (.ref p) H'
theorem ok_law_pot (D : Def K mg "_law_pot" s_law_pot ["_law_script", "_law_k"]) (B : Bs mg) (Glb : Glo mg) (WK : WebK K mg C) (PK : PieceK K mg C2) :
    Good P w K mg base "_law_pot" s_law_pot ["_law_script", "_law_k"] 1 (sp_law_pot K C C2) := by
  refine D.good fun f fd F => ?_
  refine F.ok sc_law_pot (fun vs H Q E h => ?_) (fun cdv A outer s H vs Q E hr h => ?_)
  · obtain ⟨a, ns, rfl, hS, q⟩ := h
    first | rfl | (rcases h with ⟨_, _, rfl, _⟩ | ⟨_, rfl, _⟩ <;> rfl)
  obtain ⟨a, ns, rfl, hS, q⟩ := h
  refine ⟨_, (pss_cons (ps_set (i := 2) sc_law_pot.nd rfl (by first | exact Or.inl rfl | exact Or.inr rfl) (pe_op op_add (pe_op op_mul pe_int (pv 1)) pe_int))
  (pss_cons (ps_if (pt_cmpR op_lt (pv 1) (pe_callB call_len_seq (by rfl) B.len (by decide +kernel) (pa_cons (pv 0) pa_nil)) (nomark _))
    (pss_one (ps_set (i := 2) sc_law_pot.nd rfl (by first | exact Or.inl rfl | exact Or.inr rfl) (pe_callB call_abs (by rfl) B.abs (by decide +kernel) (pa_cons (pe_ix ix_list (pv 0) (pv 1) (fun _ _ => rfl)) pa_nil)))) pss_nil)
  (pss_cons (ps_set (i := 3) sc_law_pot.nd rfl (by first | exact Or.inl rfl | exact Or.inr rfl) (pe_op op_add (pe_op op_add (pe_op op_mul (pe_op op_mod (pe_callTy call_int1 (by rfl) B.int (by decide +kernel) (pa_cons (pv 2) pa_nil)) pe_int) pe_int) (pe_op op_mul pe_int (pv 1))) pe_int))
  (pss_one (ps_ret (pe_lst (pa_cons (pe_callB (call_max2 rfl) (by rfl) B.max (by decide +kernel) (pa_cons pe_int (pa_cons (pe_op op_sub (pv 2) (pe_op op_pow pe_int pe_int)) pa_nil))) (pa_cons (pe_op op_add (pe_op op_mod (pe_callTy call_int1 (by rfl) B.int (by decide +kernel) (pa_cons (pv 3) pa_nil)) pe_int) pe_int) pa_nil)))))))), ?_⟩
  refine ⟨_, rfl, _, _, rfl, rfl, .inl ⟨by decide, by decide⟩, _, _, rfl, rfl, ?_⟩
  refine ⟨_, rfl, _, rfl, _, _, rfl, .inl hS, _, _, rfl, rfl, _, rfl, ?_⟩
  refine ite2 (fun c1 => ?pos) (fun c1 => ?neg)
  case' pos =>
    obtain ⟨n, rest, rfl⟩ : ∃ n rest, ns = n :: rest := by
      cases ns with
      | nil => exact absurd (of_decide_eq_true c1) (by decide)
      | cons n rest => exact ⟨n, rest, rfl⟩
    refine ⟨_, rfl, _, rfl, _, _, _, .int n, rfl, rfl, hS, atI_nat (j := 0) rfl, _, rfl, ?_⟩
    have hz0 : (0 : Int) ≤ (if n < 0 then -n else n) := by split <;> omega
  case' neg =>
    have hz0 : (0 : Int) ≤ (1061 * 0 + 179) := by decide
  all_goals
    refine ⟨_, rfl, .inl ⟨_, rfl, _, _, rfl, rfl, (by show (0 : Int) < 2147483549; decide), _, _, rfl, rfl, .inl ⟨?_, ?_⟩, _, rfl, _, _, rfl, rfl, .inl ⟨by decide, by decide⟩, _, _, rfl, rfl, _, _, rfl, rfl, ?_⟩⟩
    · omega
    · omega
    refine ⟨_, rfl, _, _, rfl, rfl, ⟨by decide, by decide, by decide⟩, _, _, rfl, rfl, _, _, rfl, _, rfl, .inl ⟨_, rfl, _, _, rfl, rfl, (by show (0 : Int) < 2147483563; decide), _, _, rfl, rfl, (by show 2 ≤ sizeLine; decide), fun p np => ?_⟩⟩
    · refine q p _ ⟨_, _, upd_same, ?_, ?_, ?_⟩ (same_new np _) np
      · split <;> omega
      · omega
      · omega
def sp_law_draw (_ : PySem.W.Frag) (_ _ : Addr) : Sp := fun vs H Q _ => ∃ a n, vs = [.ref a, .int ((n : Nat) : Int)] ∧ PotAt H a ∧ 0 < n ∧ n ≤ 1000 ∧ ∀ (d : Nat) H', d < n → Kept a H H' → PotAt H' a → Q (.int (d : Int)) H'
theorem ok_law_draw (D : Def K mg "_law_draw" s_law_draw ["_law_pot_here", "_law_size"]) (B : Bs mg) (Glb : Glo mg) (WK : WebK K mg C) (PK : PieceK K mg C2) :
    Good P w K mg base "_law_draw" s_law_draw ["_law_pot_here", "_law_size"] 1 (sp_law_draw K C C2) := by
  refine D.good fun f fd F => ?_
  refine F.ok sc_law_draw (fun vs H Q E h => ?_) (fun cdv A outer s H vs Q E hr h => ?_)
  · obtain ⟨a, n, rfl, ⟨x, y, ha, hx, hy, hy2⟩, hn, hn2, q⟩ := h
    first | rfl | (rcases h with ⟨_, _, rfl, _⟩ | ⟨_, rfl, _⟩ <;> rfl)
  obtain ⟨a, n, rfl, ⟨x, y, ha, hx, hy, hy2⟩, hn, hn2, q⟩ := h
  refine ⟨_, (pss_cons (ps_if (pt_cmpR op_gt (pe_ix ix_list (pv 0) pe_int (fun _ _ => rfl)) pe_int (nomark _))
    (pss_cons (ps_asg (pe_callB call_divmod (by rfl) B.divmod (by decide +kernel) (pa_cons (pe_ix ix_list (pv 0) pe_int (fun _ _ => rfl)) (pa_cons (pv 1) pa_nil))) (pg_tup rfl (pgs_cons (pg_sub (pv 0) pe_int set_list) (pgs_cons (pg_name (i := 2) sc_law_draw.nd rfl (by first | exact Or.inl rfl | exact Or.inr rfl)) pgs_nil))))
  (pss_one (ps_ret (pv 2)))) pss_nil)
  (pss_cons (ps_asg (pe_op op_mod (pe_callTy call_int1 (by rfl) B.int (by decide +kernel) (pa_cons (pe_op op_add (pe_op op_mul (pe_ix ix_list (pv 0) pe_int (fun _ _ => rfl)) pe_int) pe_int) pa_nil)) pe_int) (pg_sub (pv 0) pe_int set_list))
  (pss_one (ps_ret (pe_op op_mod (pe_callTy call_int1 (by rfl) B.int (by decide +kernel) (pa_cons (pe_op op_fdiv (pe_op op_mod (pe_callTy call_int1 (by rfl) B.int (by decide +kernel) (pa_cons (pe_op op_mul (pe_ix ix_list (pv 0) pe_int (fun _ _ => rfl)) (pe_ix ix_list (pv 0) pe_int (fun _ _ => rfl))) pa_nil)) pe_int) pe_int) pa_nil)) (pv 1)))))), ?_⟩
  refine ⟨_, rfl, _, _, _, .int x, rfl, rfl, SqL.of ha, rfl, _, _, rfl, rfl, _, rfl, ?_⟩
  refine ite2 (fun c1 => ?_) (fun c1 => ?_)
  · have hpos : (0 : Int) < x := of_decide_eq_true c1
    refine ⟨_, rfl, _, _, _, .int x, rfl, rfl, SqL.of ha, rfl, _, rfl, _, _, rfl, ⟨by omega, by omega⟩, fun p np => ?_⟩
    have hpa : a ≠ p := ne_of_none ha np
    have ha' : (upd H p (.tup [.int (x / (n : Int)), .int (x % (n : Int))])) a = some (.lst [.int x, .int y]) := by
      rw [upd_ne hpa]
      exact ha
    have ed : (((x % (n : Int)).toNat : Nat) : Int) = x % (n : Int) := Int.toNat_of_nonneg (Int.emod_nonneg _ (by omega))
    have el := Int.emod_lt_of_pos x (show (0 : Int) < (n : Int) by omega)
    refine ⟨_, _, rfl, SqT.of upd_same, rfl, _, _, rfl, _, rfl, _, _, _, 0, rfl, rfl, ha', rfl, _, _, rfl, rfl, ?_⟩
    refine ⟨_, rfl, ?_⟩
    have := q (x % (n : Int)).toNat (upd (upd H p (.tup [.int (x / (n : Int)), .int (x % (n : Int))])) a (.lst [.int (x / (n : Int)), .int y])) (by omega) (fun b o e nb => by rw [upd_ne nb, upd_ne (ne_of_none e np)]; exact e)
      ⟨_, _, upd_same, Int.ediv_nonneg hx (by omega), hy, hy2⟩
    rw [ed] at this
    exact this
  · refine ⟨_, rfl, _, _, _, .int y, rfl, rfl, SqL.of ha, rfl, _, _, rfl, rfl, .inl ⟨by omega, by omega⟩, _, _, rfl, rfl, .inl ⟨_, rfl, _, _, rfl, rfl, (by show (0 : Int) < 2147483587; decide), _, rfl, _, _, _, 1, rfl, rfl, ha, rfl, ?_⟩⟩
    have hz0 : (0 : Int) ≤ (y * 39373 + 9623) % 2147483587 := by omega
    have hz1 : (y * 39373 + 9623) % 2147483587 < (2147483587 : Int) := by omega
    refine ⟨_, rfl, _, _, _, .int ((y * 39373 + 9623) % 2147483587), rfl, rfl, SqL.of upd_same, rfl, _, rfl, _, _, _, .int ((y * 39373 + 9623) % 2147483587), rfl, rfl, SqL.of upd_same, rfl, _, _, rfl, rfl, .inl ⟨by omega, by omega⟩, .inl ⟨_, rfl, _, _, rfl, rfl, (by show (0 : Int) < 2147483563; decide), _, _, rfl, rfl, ⟨by decide, by decide⟩, .inl ⟨_, rfl, _, rfl, _, _, rfl, rfl, (by show (0 : Int) < (n : Int); omega), ?_⟩⟩⟩
    have fin : ∀ z : Int, 0 ≤ z → z < 2147483587 → Q (V.int (z * z % 2147483563 / 19 % (n : Int))) (upd H a (.lst [.int x, .int z])) := fun z hz0 hz1 => by
      have ed : (((z * z % 2147483563 / 19 % (n : Int)).toNat : Nat) : Int) = z * z % 2147483563 / 19 % (n : Int) := Int.toNat_of_nonneg (Int.emod_nonneg _ (by omega))
      have el := Int.emod_lt_of_pos (z * z % 2147483563 / 19) (show (0 : Int) < (n : Int) by omega)
      have := q (z * z % 2147483563 / 19 % (n : Int)).toNat (upd H a (.lst [.int x, .int z])) (by omega) (fun b o e nb => by rw [upd_ne nb]; exact e) ⟨_, _, upd_same, hx, hz0, by omega⟩
      rw [ed] at this
      exact this
    exact fin _ hz0 hz1
def sp_law_pick (K : PySem.W.Frag) (_ _ : Addr) : Sp := fun vs H Q _ => ∃ a, (∃ l, ∃ xs : List V, vs = [.ref a, .ref l] ∧ H l = some (.lst xs) ∧ l ≠ a ∧ 0 < xs.length ∧ xs.length ≤ 1000 ∧ PotAt H a ∧ ∀ v H', v ∈ xs → Kept a H H' → PotAt H' a → Q v H')
  ∨ (∃ l : List Nat, vs = [.ref a, T l] ∧ 0 < l.length ∧ l.length ≤ 1000 ∧ PotAt H a ∧ ∀ c H', c ∈ l → Kept a H H' → PotAt H' a → Q (T [c]) H')
theorem ok_law_pick (D : Def K mg "_law_pick" s_law_pick ["_law_pot_here", "_law_some"]) (B : Bs mg) (Glb : Glo mg) (WK : WebK K mg C) (PK : PieceK K mg C2)
    (h_law_draw : Good P w K mg base "_law_draw" s_law_draw ["_law_pot_here", "_law_size"] 1 (sp_law_draw K C C2)) :
    Good P w K mg base "_law_pick" s_law_pick ["_law_pot_here", "_law_some"] 2 (sp_law_pick K C C2) := by
  refine D.good fun f fd F => ?_
  obtain ⟨f_law_draw, d_law_draw, O_law_draw, m_law_draw, k_law_draw, b_law_draw, F_law_draw⟩ := h_law_draw
  refine F.ok sc_law_pick (fun vs H Q E h => ?_) (fun cdv A outer s H vs Q E hr h => ?_)
  · obtain ⟨a, h⟩ := h
    first | rfl | (rcases h with ⟨_, _, rfl, _⟩ | ⟨_, rfl, _⟩ <;> rfl)
  obtain ⟨a, h⟩ := h
  rcases h with ⟨l, xs, rfl, hl, hla, h0, hlen, hp, q⟩ | ⟨l, rfl, h0, hlen, hp, q⟩
  · refine ⟨_, (pss_one (ps_ret (pe_ix ix_seq (pv 1) (pe_call O_law_draw hr rfl m_law_draw k_law_draw b_law_draw .nil pass0 (pa_cons (pv 0) (pa_cons (pe_callB call_len (by rfl) B.len (by decide +kernel) (pa_cons (pv 1) pa_nil)) pa_nil))) (fun _ _ => rfl)))), ?_⟩
    refine ⟨_, rfl, _, rfl, _, rfl, _, _, rfl, .inl ⟨_, SqL.of hl, rfl⟩, a, xs.length, rfl, hp, h0, hlen, fun d H' hd hk hp' => ?_⟩
    exact .inl ⟨_, _, _, _, rfl, rfl, SqL.of (hk l _ hl hla), atI_nat (List.getElem?_eq_getElem hd), q _ H' (List.getElem_mem hd) hk hp'⟩
  · refine ⟨_, (pss_one (ps_ret (pe_ix ix_seq (pv 1) (pe_call O_law_draw hr rfl m_law_draw k_law_draw b_law_draw .nil pass0 (pa_cons (pv 0) (pa_cons (pe_callB call_len (by rfl) B.len (by decide +kernel) (pa_cons (pv 1) pa_nil)) pa_nil))) (fun _ _ => rfl)))), ?_⟩
    refine ⟨_, rfl, _, rfl, _, rfl, _, l.length, rfl, ⟨T_line hlen, T_len l⟩, a, l.length, rfl, hp, h0, hlen, fun d H' hd hk hp' => ?_⟩
    exact .inr (.inr ⟨_, _, _, rfl, rfl, T_line hlen, at_nat (List.getElem?_eq_getElem hd), q _ H' (List.getElem_mem hd) hk hp'⟩)
def sp_law_pieces_drawn (K : PySem.W.Frag) (_ _ : Addr) : Sp := fun vs H Q _ => ∃ a, ∃ s : Nat, vs = [.ref a, .int (s : Int), .int 9] ∧ PotAt H a ∧ 2 ≤ s ∧ s ≤ 4 ∧ ∀ p L H', OkP L s → H p = none → p ≠ a → H' p = some (.lst (L.map V.str)) → Kept a H H' → PotAt H' a → Q (.ref p) H'
theorem ok_law_pieces_drawn (D : Def K mg "_law_pieces_drawn" s_law_pieces_drawn ["_law_pot_here", "_law_size", "_law_most"]) (B : Bs mg) (Glb : Glo mg) (WK : WebK K mg C) (PK : PieceK K mg C2)
    (h_law_pick : Good P w K mg base "_law_pick" s_law_pick ["_law_pot_here", "_law_some"] 2 (sp_law_pick K C C2))
    (h_law_draw : Good P w K mg base "_law_draw" s_law_draw ["_law_pot_here", "_law_size"] 1 (sp_law_draw K C C2)) :
    Good P w K mg base "_law_pieces_drawn" s_law_pieces_drawn ["_law_pot_here", "_law_size", "_law_most"] 3 (sp_law_pieces_drawn K C C2) := by
  refine D.good fun f fd F => ?_
  obtain ⟨f_law_pick, d_law_pick, O_law_pick, m_law_pick, k_law_pick, b_law_pick, F_law_pick⟩ := h_law_pick
  obtain ⟨f_law_draw, d_law_draw, O_law_draw, m_law_draw, k_law_draw, b_law_draw, F_law_draw⟩ := h_law_draw
  refine F.ok sc_law_pieces_drawn (fun vs H Q E h => ?_) (fun cdv A outer s H vs Q E hr h => ?_)
  · obtain ⟨a, s, rfl, hp, hs1, hs2, q⟩ := h
    first | rfl | (rcases h with ⟨_, _, rfl, _⟩ | ⟨_, rfl, _⟩ <;> rfl)
  obtain ⟨a, s, rfl, hp, hs1, hs2, q⟩ := h
  refine ⟨_, (pss_cons (ps_par (i := 3) (j := 4) (by rfl) sc_law_pieces_drawn.nd rfl rfl (by decide) rfl rfl (pa_cons (pe_call O_law_pick hr rfl m_law_pick k_law_pick b_law_pick .nil pass0 (pa_cons (pv 0) (pa_cons (pe_lst (pa_cons pe_str (pa_cons pe_str (pa_cons pe_str pa_nil)))) pa_nil))) (pa_cons (pe_lst pa_nil) pa_nil)) (by rfl))
  (pss_cons (ps_for PassesOwn.never rfl (pi_range1 (by rfl) B.range (pa_cons (pe_op op_add pe_int (pe_call O_law_draw (hr.mono (by decide)) rfl m_law_draw k_law_draw b_law_draw .nil pass0 (pa_cons (pv 0) (pa_cons (pv 2) pa_nil)))) pa_nil)) (pg_name (i := 5) sc_law_pieces_drawn.nd rfl (by first | exact Or.inl rfl | exact Or.inr rfl))
    (pss_cons (ps_set (i := 6) sc_law_pieces_drawn.nd rfl (by first | exact Or.inl rfl | exact Or.inr rfl) pe_str)
  (pss_cons (ps_for PassesOwn.never rfl (pi_range1 (by rfl) B.range (pa_cons (pv 1) pa_nil)) (pg_name (i := 7) sc_law_pieces_drawn.nd rfl (by first | exact Or.inl rfl | exact Or.inr rfl))
    (pss_one (ps_set (i := 6) sc_law_pieces_drawn.nd rfl (by first | exact Or.inl rfl | exact Or.inr rfl) (pe_op op_add_str (pv 6) (pe_call O_law_pick hr rfl m_law_pick k_law_pick b_law_pick .nil pass0 (pa_cons (pv 0) (pa_cons (pv 3) pa_nil)))))))
  (pss_one (ps_if (pt_cmpR op_notIn_seq (pv 6) (pv 4) (by rfl))
    (pss_one (ps_expr (pe_bm PySem.F.plainAttrs_list PySem.F.slot_list_append PySem.F.type_list_append mt_append (pv 4) (pa_cons (pv 6) pa_nil)))) pss_nil)))))
  (pss_one (ps_ret (pv 4))))), ?_⟩
  refine ⟨_, rfl, (by show 3 ≤ sizeLine; decide), fun l0 nl0 => ⟨a, .inl ⟨l0, _, rfl, upd_same, hp.ne nl0, by decide, by decide, hp.new nl0, fun v H1 hv hk1 hp1 => ?_⟩⟩⟩
  have hk1 : Kept a H H1 := (Same.kept (same_new nl0 _)).trans hk1
  obtain ⟨l, rfl, hl0, hl3, hll⟩ : ∃ l, v = T l ∧ 0 < l.length ∧ l.length ≤ 3 ∧ Lts l := by
    have hv2 : v = T [97, 98] ∨ v = T [97, 98, 99] ∨ v = T [97, 98] := by
      simpa [of_ab, of_abc] using hv
    rcases hv2 with rfl | rfl | rfl
    · exact ⟨[97, 98], rfl, by decide, by decide, by unfold Lts; decide⟩
    · exact ⟨[97, 98, 99], rfl, by decide, by decide, by unfold Lts; decide⟩
    · exact ⟨[97, 98], rfl, by decide, by decide, by unfold Lts; decide⟩
  refine ⟨(by show 0 ≤ sizeLine; decide), fun fp nfp => ?_⟩
  have hfa : fp ≠ a := hp1.ne nfp
  have nfH : H fp = none := hk1.free nfp hfa
  have hkF := hk1.new (o := .lst []) nfp
  have hpF := hp1.new (o := .lst []) nfp
  have hfF : upd H1 fp (.lst []) fp = some (.lst (([] : List Str).map V.str)) := upd_same
  generalize upd H1 fp (.lst []) = HF at hkF hpF hfF
  refine ⟨_, _, rfl, _, rfl, _, rfl, a, 9, rfl, hpF, by decide, by decide, fun d H2 hd hk2 hp2 => ⟨_, _, rfl, rfl, _, rfl, by omega, by omega, ?_⟩⟩
  rw [show ((1 : Int) + (d : Int)).toNat = 1 + d by omega]
  refine for_range (lo := 0) (n := 1 + d) (fun i σ H' => ∃ (L : List Str) (v5 v6 v7 : Option V), σ = [some (.ref a), some (.int (s : Int)), some (.int 9), some (T l), some (.ref fp), v5, v6, v7] ∧ L.Nodup ∧ (∀ x ∈ L, OkT x ∧ x.length = s) ∧ (i = 0 ∨ 1 ≤ L.length) ∧ L.length ≤ i ∧ Kept a H H' ∧ PotAt H' a ∧ H' fp = some (.lst (L.map V.str))) ⟨[], none, none, none, rfl, by simp, by simp, .inl rfl, by simp, hkF.trans hk2, hp2, hk2 _ _ hfF hfa⟩ ?_ ?_
  · rintro i σ H3 hi ⟨L, v5, v6, v7, rfl, hn, hok, hone, hlen, hk3, hp3, hf3⟩
    refine ⟨_, rfl, _, rfl, by omega, by omega, ?_⟩
    rw [show ((s : Int)).toNat = s by omega]
    refine for_range (lo := 0) (n := s) (fun j σ H' => ∃ (m : List Nat) (v7 : Option V), σ = [some (.ref a), some (.int (s : Int)), some (.int 9), some (T l), some (.ref fp), some (.int (0 + (i : Int))), some (T m), v7] ∧ Lts m ∧ m.length = j ∧ Kept a H H' ∧ PotAt H' a ∧ H' fp = some (.lst (L.map V.str))) ⟨[], v7, by rw [T_nil]; rfl, (fun c hc => by simp at hc), rfl, hk3, hp3, hf3⟩ ?_ ?_
    · rintro j σ H4 hj ⟨m, v7, rfl, hm, hml, hk4, hp4, hf4⟩
      refine ⟨_, rfl, _, rfl, _, rfl, a, .inr ⟨l, rfl, hl0, by omega, hp4, fun c H5 hc hk5 hp5 => ⟨_, _, rfl, rfl, ?_, m ++ [c], some (.int (0 + (j : Int))), ?_, ?_, ?_, hk4.trans hk5, hp5, hk5 _ _ hf4 hfa⟩⟩⟩
      · rw [T_len, T_len, List.length_singleton]
        exact line400 (by omega)
      · rw [T_app]
        rfl
      · intro x hx
        rcases List.mem_append.mp hx with hx | hx
        · exact hm x hx
        · rw [List.mem_singleton.mp hx]
          exact hll c hc
      · rw [List.length_append, List.length_singleton, hml]
    rintro σ H4 ⟨m, v7, rfl, hm, hml, hk4, hp4, hf4⟩
    refine ⟨_, rfl, _, rfl, fp, _, rfl, .inl (SqL.of hf4), rfl, flat_st L, _, rfl, ?_⟩
    rw [inV_st]
    have hoT := hm.ok (by omega : m.length ≤ 400)
    by_cases c : tS m ∈ L
    · refine iteNot' c ⟨L, _, _, _, rfl, hn, hok, .inr ?_, by omega, hk4, hp4, hf4⟩
      have := List.length_pos_of_mem c
      omega
    · refine iteNot c ⟨_, rfl, .inl ⟨rfl, _, SqL.of hf4⟩, _, rfl, fp, _, _, rfl, rfl, hf4, ?_, ?_⟩
      · rw [List.length_map]
        exact Nat.lt_of_lt_of_le (by omega : L.length < 1000) (by decide)
      refine ⟨L ++ [tS m], _, _, _, rfl, nodup_snoc hn c, ?_, .inr (by simp), by rw [List.length_append, List.length_singleton]; omega, hk4.put nfH, hp4.put hfa, by rw [upd_same, List.map_append]; rfl⟩
      intro x hx
      rcases List.mem_append.mp hx with hx | hx
      · exact hok x hx
      · rw [List.mem_singleton.mp hx]
        exact ⟨hoT, by rw [T_len]; exact hml⟩
  · rintro σ H3 ⟨L, v5, v6, v7, rfl, hn, hok, hone, hlen, hk3, hp3, hf3⟩
    exact ⟨_, rfl, q fp L H3 ⟨by omega, by omega, hok, hs1, by omega, hn⟩ nfH hfa hf3 hk3 hp3⟩
def sp_law_words (_ : PySem.W.Frag) (_ _ : Addr) : Sp := fun vs H Q _ => ∃ l L, vs = [.ref l] ∧ H l = some (.lst (L.map V.str)) ∧ L.length ≤ 80 ∧ (∀ x ∈ L, x.length ≤ 8) ∧ ∀ (H' : Hp) (p : Addr) (M : List Str), Same H H' → H p = none → H' p = some (.lst (M.map V.str)) → IsWords L M → Q (.ref p) H'
theorem ok_law_words (D : Def K mg "_law_words" s_law_words ["_law_pieces"]) (B : Bs mg) (Glb : Glo mg) (WK : WebK K mg C) (PK : PieceK K mg C2) :
    Good P w K mg base "_law_words" s_law_words ["_law_pieces"] 1 (sp_law_words K C C2) := by
  refine D.good fun f fd F => ?_
  refine F.ok sc_law_words (fun vs H Q E h => ?_) (fun cdv A outer s H vs Q E hr h => ?_)
  · obtain ⟨l, L, rfl, hh, hlen, hsm, q⟩ := h
    first | rfl | (rcases h with ⟨_, _, rfl, _⟩ | ⟨_, rfl, _⟩ <;> rfl)
  obtain ⟨l, L, rfl, hh, hlen, hsm, q⟩ := h
  refine ⟨_, (pss_one (ps_ret (pe_callB (cr_sortTx rfl hr.units) (by rfl) B.sorted (by decide +kernel) (pa_cons (pe_callTy (cr_setTx rfl) (by rfl) B.set (by decide +kernel) (pa_cons (pe_op op_cat (pe_lc (own := [("_law_piece", 1)]) (g := gName 1) (by rfl) sc_law_words.nd (pi_list (pv 0)) (blkOk_by (own := [("_law_piece", 1)]) (N := ["_law_pieces", "_law_piece"]) (sc := defScope s_law_words) (by decide +kernel)) (fun _ _ _ _ _ => (pg_name (i := 1) sc_law_words.nd rfl (by first | exact Or.inl rfl | exact Or.inr rfl))) (fun _ _ _ _ _ => pts_nil) (fun _ _ _ _ _ => (pe_slice sl_str (pv 1) po_none (po_some (pe_un un_neg pe_int))))) (pe_lc (own := [("_law_piece", 1)]) (g := gName 1) (by rfl) sc_law_words.nd (pi_list (pv 0)) (blkOk_by (own := [("_law_piece", 1)]) (N := ["_law_pieces", "_law_piece"]) (sc := defScope s_law_words) (by decide +kernel)) (fun _ _ _ _ _ => (pg_name (i := 1) sc_law_words.nd rfl (by first | exact Or.inl rfl | exact Or.inr rfl))) (fun _ _ _ _ _ => pts_nil) (fun _ _ _ _ _ => (pe_slice sl_str (pv 1) (po_some pe_int) po_none)))) pa_nil)) pa_nil)))), ?_⟩
  refine ⟨_, rfl, l, rfl, ⟨_, SqL.of hh⟩, fun D1 nD1 => ?_⟩
  refine lc_list (K := K) (a := l) (xs := L.map V.str) (fun j H' => Same H H' ∧ H' D1 = some (.lst (((L.take j).map fun x => cutS x none (some (-1))).map V.str))) ⟨same_new nD1 _, upd_same⟩ (fun j H' _ ⟨hS', _⟩ => SqL.of (hS' _ _ hh)) ?_ ?_
  · rintro j y H1 hy ⟨hS1, hD1⟩
    obtain ⟨x, hx, rfl⟩ := str_at hy
    have hj := (List.getElem?_eq_some_iff.mp hx).1
    have h8 := hsm x (List.mem_of_getElem? hx)
    refine ⟨rfl, _, rfl, _, rfl, _, rfl, _, rfl, line400 (by omega), _, hD1, ?_, same_upd hS1 nD1, ?_⟩
    · rw [List.length_map, List.length_map, List.length_take]
      exact Nat.lt_of_le_of_lt (Nat.min_le_left _ _) (Nat.lt_of_lt_of_le (by omega : j < 1000) (by decide))
    · rw [upd_same, take_snoc hx, List.map_append, List.map_append]
      rfl
  rintro H1 ⟨hS1, hD1⟩
  rw [List.length_map, List.take_length] at hD1
  refine ⟨_, rfl, l, rfl, ⟨_, SqL.of (hS1 _ _ hh)⟩, fun D2 nD2 => ?_⟩
  refine lc_list (K := K) (a := l) (xs := L.map V.str) (fun j H' => Same H1 H' ∧ H' D2 = some (.lst (((L.take j).map fun x => cutS x (some 1) none).map V.str))) ⟨same_new nD2 _, upd_same⟩ (fun j H' _ ⟨hS', _⟩ => SqL.of (hS' _ _ (hS1 _ _ hh))) ?_ ?_
  · rintro j y H2 hy ⟨hS2, hD2⟩
    obtain ⟨x, hx, rfl⟩ := str_at hy
    have hj := (List.getElem?_eq_some_iff.mp hx).1
    have h8 := hsm x (List.mem_of_getElem? hx)
    refine ⟨rfl, _, rfl, _, rfl, _, rfl, line400 (by omega), _, hD2, ?_, same_upd hS2 nD2, ?_⟩
    · rw [List.length_map, List.length_map, List.length_take]
      exact Nat.lt_of_le_of_lt (Nat.min_le_left _ _) (Nat.lt_of_lt_of_le (by omega : j < 1000) (by decide))
    · rw [upd_same, take_snoc hx, List.map_append, List.map_append]
      rfl
  rintro H2 ⟨hS2, hD2⟩
  rw [List.length_map, List.take_length] at hD2
  have hS02 := hS1.trans hS2
  refine ⟨D1, D2, _, _, rfl, rfl, hS2 _ _ hD1, hD2, ?_, fun p np => ?_⟩
  · rw [List.length_map, List.length_map, List.length_map, List.length_map]
    exact line400 (by omega)
  have hS3 : Same H (upd H2 p (.lst (((L.map fun x => cutS x none (some (-1))).map V.str) ++ ((L.map fun x => cutS x (some 1) none).map V.str)))) := fun b o e => same_new np _ _ _ (hS02 _ _ e)
  have hp3 : (upd H2 p (.lst (((L.map fun x => cutS x none (some (-1))).map V.str) ++ ((L.map fun x => cutS x (some 1) none).map V.str)))) p = some (.lst (((L.map fun x => cutS x none (some (-1))) ++ (L.map fun x => cutS x (some 1) none)).map V.str)) := by rw [upd_same, List.map_append]
  generalize upd H2 p (.lst (((L.map fun x => cutS x none (some (-1))).map V.str) ++ ((L.map fun x => cutS x (some 1) none).map V.str))) = H3 at hS3 hp3
  have hxl : ((L.map fun x => cutS x none (some (-1))) ++ (L.map fun x => cutS x (some 1) none)).length = 2 * L.length := by
    rw [List.length_append, List.length_map, List.length_map]
    omega
  refine ⟨p, _, rfl, .inl (SqL.of hp3), by rw [hxl]; omega, fun sp n _ hle nsp => ⟨sp, _, n, rfl, upd_same, by rw [hxl] at hle; omega, fun M mp hPw hmem hM nmp => ?_⟩⟩
  refine q _ mp M (fun b o e => same_new nmp _ _ _ (same_new nsp _ _ _ (hS3 _ _ e))) (hS3.free ((same_new (o := TxO _ _ _ _) nsp).free nmp)) upd_same ⟨hPw, fun k => (hmem k).trans (by unfold hasT; exact decide_eq_true_iff)⟩
def sp_law_ties (_ : PySem.W.Frag) (_ _ : Addr) : Sp := fun vs H Q _ => ∃ l L, vs = [.ref l] ∧ H l = some (.lst (L.map V.str)) ∧ L.length ≤ 80 ∧ (∀ x ∈ L, x.length ≤ 8) ∧ ∀ (H' : Hp) (p : Addr) (W : List Str) (ts : List (Nat × Nat)), Same H H' → H p = none → TiesAt H' p ts → IsWords L W → IsTies W (L.mergeSort leS) ts → Q (.ref p) H'
theorem ok_law_ties (D : Def K mg "_law_ties" s_law_ties ["_law_pieces"]) (B : Bs mg) (Glb : Glo mg) (WK : WebK K mg C) (PK : PieceK K mg C2)
    (h_law_words : Good P w K mg base "_law_words" s_law_words ["_law_pieces"] 1 (sp_law_words K C C2)) :
    Good P w K mg base "_law_ties" s_law_ties ["_law_pieces"] 2 (sp_law_ties K C C2) := by
  refine D.good fun f fd F => ?_
  obtain ⟨f_law_words, d_law_words, O_law_words, m_law_words, k_law_words, b_law_words, F_law_words⟩ := h_law_words
  refine F.ok sc_law_ties (fun vs H Q E h => ?_) (fun cdv A outer s H vs Q E hr h => ?_)
  · obtain ⟨l, L, rfl, hh, hlen, hsm, q⟩ := h
    first | rfl | (rcases h with ⟨_, _, rfl, _⟩ | ⟨_, rfl, _⟩ <;> rfl)
  obtain ⟨l, L, rfl, hh, hlen, hsm, q⟩ := h
  refine ⟨_, (pss_cons (ps_set (i := 1) sc_law_ties.nd rfl (by first | exact Or.inl rfl | exact Or.inr rfl) (pe_call O_law_words hr rfl m_law_words k_law_words b_law_words .nil pass0 (pa_cons (pv 0) pa_nil)))
  (pss_one (ps_ret (pe_lc (own := [("_law_piece", 2)]) (g := gName 2) (by rfl) sc_law_ties.nd (pi_list (pe_callB (cr_sortSq hr.units) (by rfl) B.sorted (by decide +kernel) (pa_cons (pv 0) pa_nil))) (blkOk_by (own := [("_law_piece", 2)]) (N := ["_law_pieces", "_law_words_here", "_law_piece"]) (sc := defScope s_law_ties) (by decide +kernel)) (fun _ _ _ _ _ => (pg_name (i := 2) sc_law_ties.nd rfl (by first | exact Or.inl rfl | exact Or.inr rfl))) (fun _ _ _ _ _ => pts_nil) (fun _ _ _ _ _ => (pe_tup (pa_cons (pe_bmK (K := K) rfl PySem.F.plainAttrs_list PySem.F.slot_list_index PySem.F.type_list_index (mt_indexK (K := K) rfl) (pv 1) (pa_cons (pe_slice sl_str (pv 2) po_none (po_some (pe_un un_neg pe_int))) pa_nil)) (pa_cons (pe_bmK (K := K) rfl PySem.F.plainAttrs_list PySem.F.slot_list_index PySem.F.type_list_index (mt_indexK (K := K) rfl) (pv 1) (pa_cons (pe_slice sl_str (pv 2) (po_some pe_int) po_none) pa_nil)) pa_nil)))))))), ?_⟩
  refine ⟨_, rfl, l, L, rfl, hh, hlen, hsm, fun H1 wl W hS1 nwl hwl hW => ?_⟩
  have hn := hW.nodup
  have hh1 := hS1 _ _ hh
  refine ⟨_, rfl, l, L, rfl, .inl (SqL.of hh1), by omega, fun pl npl => ⟨pl, rfl, ⟨_, SqL.of upd_same⟩, fun D nD => ?_⟩⟩
  have hS2 := same_new npl (.lst ((L.mergeSort leS).map V.str))
  have hp2 : upd H1 pl (.lst ((L.mergeSort leS).map V.str)) pl = some (.lst ((L.mergeSort leS).map V.str)) := upd_same
  generalize upd H1 pl (.lst ((L.mergeSort leS).map V.str)) = H2 at nD hS2 hp2
  have hperm : (L.mergeSort leS).Perm L := List.mergeSort_perm L leS
  have tw : ∀ x ∈ L, (∃ u, W[u]? = some (fst_ x)) ∧ ∃ v, W[v]? = some (lst_ x) := fun x hx =>
    ⟨List.getElem?_of_mem ((hW.2 _).mpr (List.mem_append_left _ (List.mem_map.mpr ⟨x, hx, rfl⟩))), List.getElem?_of_mem ((hW.2 _).mpr (List.mem_append_right _ (List.mem_map.mpr ⟨x, hx, rfl⟩)))⟩
  refine lc_list (K := K) (a := pl) (xs := (L.mergeSort leS).map V.str) (fun i H' => ∃ ts, Same H2 H' ∧ TiesAt H' D ts ∧ IsTies W ((L.mergeSort leS).take i) ts) ⟨[], same_new nD _, TiesAt.nil, rfl, fun i x h => by simp at h⟩ (fun i H' _ ⟨_, hS', _⟩ => SqL.of (hS' _ _ hp2)) ?_ ?_
  · rintro i y H3 hy ⟨ts, hS3, hT3, hI⟩
    obtain ⟨z, hz, rfl⟩ := str_at hy
    have hil := (List.getElem?_eq_some_iff.mp hz).1
    rw [hperm.length_eq] at hil
    have hm := hperm.mem_iff.mp (List.mem_of_getElem? hz)
    have h4 := hsm z hm
    obtain ⟨⟨u, hu⟩, ⟨v, hv⟩⟩ := tw z hm
    have hw3 := hS3 _ _ (hS2 _ _ hwl)
    refine ⟨rfl, _, rfl, .inl ⟨rfl, _, SqL.of hw3⟩, _, rfl, _, rfl, _, rfl, _, rfl, line400 (by omega), ?_⟩
    dsimp only [tNil]
    refine index_st hn hw3 hu ?_
    refine ⟨_, rfl, .inl ⟨rfl, _, SqL.of hw3⟩, _, rfl, _, rfl, _, rfl, line400 (by omega), ?_⟩
    dsimp only [tNil]
    refine index_st hn hw3 hv ⟨(by show 2 ≤ sizeLine; decide), fun tp ntp => ?_⟩
    obtain ⟨xs, k1, k2, k3⟩ := hT3.push (u := u) (v := v) ntp
    refine ⟨xs, k1, ?_, ts ++ [(u, v)], same_upd (hS3.trans (same_new ntp _)) nD, k3, hI.snoc hz hu hv⟩
    rw [k2, hI.1, List.length_take]
    exact Nat.lt_of_lt_of_le (by omega : _ < 1000) (by decide)
  rintro H3 ⟨ts, hS3, hT3, hI⟩
  rw [List.length_map, List.take_length] at hI
  exact q H3 D W ts ((hS1.trans hS2).trans hS3) ((hS1.trans hS2).free nD) hT3 hW hI
end
end My
namespace My
open PySem L2 PyProof.Rows
theorem Chain.one {ts : List (Nat × Nat)} {x : Nat} (h : x < ts.length) : Chain ts [x] := ⟨by simp, fun y hy => by rw [List.mem_singleton.mp hy]; exact h, fun i hi => by simp at hi⟩
theorem Chain.last {ts : List (Nat × Nat)} {R : List Nat} (h : Chain ts R) : ∃ x e, R[R.length - 1]? = some x ∧ ts[x]? = some e := by
  have h0 := h.n0
  have e1 : R[R.length - 1]? = some (R[R.length - 1]'(by omega)) := List.getElem?_eq_getElem _
  have := h.num _ (List.mem_of_getElem? e1)
  exact ⟨_, _, e1, List.getElem?_eq_getElem this⟩
theorem Chain.first {ts : List (Nat × Nat)} {R : List Nat} (h : Chain ts R) : ∃ x e, R[0]? = some x ∧ ts[x]? = some e := by
  have h0 := h.n0
  have e1 : R[0]? = some (R[0]'(by omega)) := List.getElem?_eq_getElem _
  have := h.num _ (List.mem_of_getElem? e1)
  exact ⟨_, _, e1, List.getElem?_eq_getElem this⟩
theorem Chain.snoc {ts : List (Nat × Nat)} {R : List Nat} {x y : Nat} {e : Nat × Nat} (h : Chain ts R) (hx : R[R.length - 1]? = some x) (he : ts[x]? = some e) (hy : y ∈ frm ts e.2) : Chain ts (R ++ [y]) := by
  have h0 := h.n0
  obtain ⟨y1, y2⟩ := (frmN_mem ts e.2 y _).mp hy
  obtain ⟨g, hg⟩ : ∃ g, ts[y]? = some g := ⟨_, List.getElem?_eq_getElem y1⟩
  rw [hg] at y2
  have y3 : g.1 = e.2 := by simpa using y2
  refine ⟨by simp, fun z hz => ?_, fun i hi => ?_⟩
  · rcases List.mem_append.mp hz with hz | hz
    · exact h.num z hz
    · rw [List.mem_singleton.mp hz]; exact y1
  · rw [List.length_append, List.length_singleton] at hi
    by_cases c : i + 1 < R.length
    · obtain ⟨x', y', e', f', k1, k2, k3, k4, k5⟩ := h.on i c
      exact ⟨x', y', e', f', by rw [List.getElem?_append_left (by omega)]; exact k1, by rw [List.getElem?_append_left c]; exact k2, k3, k4, k5⟩
    · have ei : i = R.length - 1 := by omega
      subst ei
      refine ⟨x, y, e, g, by rw [List.getElem?_append_left (by omega)]; exact hx, ?_, he, hg, y3⟩
      rw [List.getElem?_append_right (by omega), show R.length - 1 + 1 - R.length = 0 by omega]
      rfl
theorem iv_mem {L : List Nat} {v : V} (h : v ∈ iv L) : ∃ y : Nat, y ∈ L ∧ v = .int (y : Int) := by
  obtain ⟨y, hy, rfl⟩ := List.mem_map.mp h
  exact ⟨y, hy, rfl⟩
theorem cutV_from {xs : List V} {k : Nat} : cutV xs (some (k : Int)) none = xs.drop k := by
  unfold cutV
  rw [HT.sIx_none, HT.sIx_nat]
  by_cases h : k ≤ xs.length
  · rw [Nat.min_eq_left h, List.take_of_length_le (by rw [List.length_drop]; omega)]
  · rw [Nat.min_eq_right (by omega), List.drop_of_length_le (by omega), List.drop_of_length_le (by omega)]
    simp
theorem pcs_at {x : Str} {s i : Nat} (h : i < x.length + 1 - s) : (pcs x s)[i]? = some (pc x s i) := by
  rw [pcs, pcsN_map, List.getElem?_map, List.getElem?_range h]
  rfl
theorem win_step {X : List Nat} {i s c : Nat} (h : X[i + s]? = some c) (hs : 0 < s) : (X.drop (i + 1)).take s = ((X.drop i).take s).drop 1 ++ [c] := by
  have hl := (List.getElem?_eq_some_iff.mp h).1
  have h2 : (X.drop i)[s]? = some c := by rw [List.getElem?_drop]; exact h
  have e := take_snoc h2
  have e2 : ((X.drop i).take (s + 1)).drop 1 = (X.drop (i + 1)).take s := by
    rw [List.drop_take, List.drop_drop]
    rfl
  rw [← e2, e, List.drop_append_of_le_length]
  rw [List.length_take, List.length_drop]
  omega
theorem str_tS (x : Str) : x = tS x.cps.toList := by cases x; simp
theorem fst_tS (l : List Nat) : fst_ (tS l) = tS l.dropLast := cut_last l
theorem lst_tS (l : List Nat) : lst_ (tS l) = tS (l.drop 1) := cut_from (p := 1)
theorem ltr_tS {l : List Nat} (h : 0 < l.length) : l = l.dropLast ++ [ltr (tS l)] := by
  have e : l.dropLast ++ [l.getLast (List.ne_nil_of_length_pos h)] = l := List.dropLast_concat_getLast _
  have e2 : ltr (tS l) = l.getLast (List.ne_nil_of_length_pos h) := by
    unfold ltr
    show (tS l).cps.toList.getD _ 0 = _
    have : (tS l).cps.toList = l := by simp
    rw [this, List.getD_eq_getElem?_getD, List.getLast_eq_getElem, List.getElem?_eq_getElem (by omega)]
    rfl
  rw [e2]
  exact e.symm
/-- the text of a walk, in letters -/
abbrev txt (P : List Str) (R : List Nat) : List Nat := (pce P (R.getD 0 0)).cps.toList ++ letters P (R.drop 1)
theorem textOf_txt {P : List Str} {R : List Nat} (h : 0 < R.length) (h0 : 0 < (pce P (R.getD 0 0)).length) : textOf P R = tS (txt P R) := by
  unfold textOf
  obtain ⟨t, r, rfl⟩ : ∃ t r, R = t :: r := by
    cases R with
    | nil => simp at h
    | cons t r => exact ⟨t, r, rfl⟩
  show fst_ (pce P t) ++ tS (ltr (pce P t) :: letters P r) = tS ((pce P t).cps.toList ++ letters P r)
  change 0 < (pce P t).length at h0
  generalize pce P t = z at h0 ⊢
  have e1 : z = tS z.cps.toList := str_tS z
  have hz : 0 < z.cps.toList.length := by rw [str_len]; exact h0
  have e2 := ltr_tS hz
  rw [← e1] at e2
  have e3 : fst_ z = tS z.cps.toList.dropLast := by
    have := fst_tS z.cps.toList
    rw [← e1] at this
    exact this
  rw [e3]
  show (⟨_⟩ : Str) ++ (⟨_⟩ : Str) = _
  rw [T_app]
  congr 2
  rw [show ltr z :: letters P r = [ltr z] ++ letters P r from rfl, ← List.append_assoc, ← e2]
theorem PW.at_ {P W : List Str} {ts : List (Nat × Nat)} {s t : Nat} (h : PW P W ts s) (ht : t < P.length) : (pce P t).cps.toList.length = s ∧ Lts (pce P t).cps.toList ∧ 2 ≤ s ∧ s ≤ 8 ∧ pce P t ∈ P := by
  obtain ⟨o1, o2, o3, o4, o5, o6⟩ := h.p
  have hm := List.mem_of_getElem? (pce_at ht)
  exact ⟨by rw [str_len]; exact (o3 _ hm).2, (o3 _ hm).1.let_, o4, o5, hm⟩
theorem txt_len {P W : List Str} {ts : List (Nat × Nat)} {s : Nat} {R : List Nat} (hP : PW P W ts s) (h : 0 < R.length) (hR : ∀ t ∈ R, t < P.length) : (txt P R).length = s + (R.length - 1) := by
  have er : R[0]? = some (R.getD 0 0) := getD_lt h
  have := (hP.at_ (hR _ (List.mem_of_getElem? er))).1
  rw [List.length_append, this, List.length_map, List.length_drop]
theorem txt_lts {P W : List Str} {ts : List (Nat × Nat)} {s : Nat} {R : List Nat} (hP : PW P W ts s) (h : 0 < R.length) (hR : ∀ t ∈ R, t < P.length) : Lts (txt P R) := by
  have er : R[0]? = some (R.getD 0 0) := getD_lt h
  intro c hc
  rcases List.mem_append.mp hc with hc | hc
  · exact (hP.at_ (hR _ (List.mem_of_getElem? er))).2.1 c hc
  · obtain ⟨t, ht, rfl⟩ := List.mem_map.mp hc
    obtain ⟨a1, a2, a3, a4, a5⟩ := hP.at_ (hR t (List.mem_of_mem_drop ht))
    have e2 := ltr_tS (l := (pce P t).cps.toList) (by omega)
    rw [← str_tS] at e2
    refine a2 _ ?_
    rw [e2]
    simp
theorem win {P W : List Str} {ts : List (Nat × Nat)} {s : Nat} {R : List Nat} (hP : PW P W ts s) (hc : Chain ts R) : ∀ (i t : Nat), R[i]? = some t → ((txt P R).drop i).take s = (pce P t).cps.toList := by
  have h0 := hc.n0
  have hR : ∀ t ∈ R, t < P.length := fun t ht => by rw [← hP.t.1]; exact hc.num t ht
  have er : R[0]? = some (R.getD 0 0) := getD_lt h0
  have eA := (hP.at_ (hR _ (List.mem_of_getElem? er))).1
  intro i
  induction i with
  | zero =>
    intro t ht
    rw [er] at ht
    cases ht
    rw [List.drop_zero, List.take_append_of_le_length (by omega), List.take_of_length_le (by omega)]
  | succ i ih =>
    intro t ht
    have hi := (List.getElem?_eq_some_iff.mp ht).1
    obtain ⟨x, y, e, f, k1, k2, k3, k4, k5⟩ := hc.on i hi
    rw [k2] at ht
    have hyt : y = t := Option.some.inj ht
    subst hyt
    have hx := hR x (List.mem_of_getElem? k1)
    have hy := hR y (List.mem_of_getElem? k2)
    obtain ⟨u, v, a1, a2, a3⟩ := hP.t.2 x _ (pce_at hx)
    obtain ⟨u', v', b1, b2, b3⟩ := hP.t.2 y _ (pce_at hy)
    rw [k3] at a1
    rw [k4] at b1
    cases a1
    cases b1
    change u' = v at k5
    subst k5
    rw [a3] at b2
    have e1 : lst_ (pce P x) = fst_ (pce P y) := Option.some.inj b2
    rw [str_tS (pce P x), str_tS (pce P y), lst_tS, fst_tS] at e1
    have e2 := tS_inj e1
    obtain ⟨c1, c2, c3, c4, c5⟩ := hP.at_ hy
    have e3 := ltr_tS (l := (pce P y).cps.toList) (by omega)
    rw [← str_tS] at e3
    rw [win_step (c := ltr (pce P y)) ?_ (by omega), ih x k1, e2, ← e3]
    rw [List.getElem?_append_right (by omega), eA, Nat.add_sub_cancel, List.getElem?_map, List.getElem?_drop, Nat.add_comm 1 i, k2]
    rfl
/-- the pieces along the text of a walk are those of the walk -/
theorem along_text {P W : List Str} {ts : List (Nat × Nat)} {s : Nat} {R : List Nat} (hP : PW P W ts s) (hc : Chain ts R) : IsAlong P (pcs (textOf P R) s) R := by
  have h0 := hc.n0
  have hR : ∀ t ∈ R, t < P.length := fun t ht => by rw [← hP.t.1]; exact hc.num t ht
  have er : R[0]? = some (R.getD 0 0) := getD_lt h0
  obtain ⟨c1, c2, c3, c4, c5⟩ := hP.at_ (hR _ (List.mem_of_getElem? er))
  rw [str_len] at c1
  rw [textOf_txt h0 (by omega)]
  have hl := txt_len hP h0 hR
  have hlen : (pcs (tS (txt P R)) s).length = R.length := by rw [pcsN_len, T_len, hl]; omega
  refine ⟨hlen.symm, fun i z hz => ?_⟩
  have hi := (List.getElem?_eq_some_iff.mp hz).1
  rw [hlen] at hi
  refine ⟨R[i], List.getElem?_eq_getElem hi, ?_⟩
  rw [pcs_at (by rw [T_len, hl]; omega), cutS_at, win hP hc i _ (List.getElem?_eq_getElem hi), ← str_tS] at hz
  cases hz
  exact pce_at (hR _ (List.getElem_mem hi))
theorem text_ok {P W : List Str} {ts : List (Nat × Nat)} {s : Nat} {R : List Nat} (hP : PW P W ts s) (hc : Chain ts R) (h : R.length ≤ 100) : ∃ m, textOf P R = tS m ∧ Lts m ∧ m.length ≤ 120 ∧ s ≤ m.length := by
  have h0 := hc.n0
  have hR : ∀ t ∈ R, t < P.length := fun t ht => by rw [← hP.t.1]; exact hc.num t ht
  have er : R[0]? = some (R.getD 0 0) := getD_lt h0
  obtain ⟨c1, c2, c3, c4, c5⟩ := hP.at_ (hR _ (List.mem_of_getElem? er))
  rw [str_len] at c1
  have hl := txt_len hP h0 hR
  exact ⟨_, textOf_txt h0 (by omega), txt_lts hP h0 hR, by omega, by omega⟩
section
variable {P : Program} {w : World} {K : PySem.W.Frag} {mg : Str → Option Value} {base : Heap} {C C2 : Addr}
def sp_law_grown (_ : PySem.W.Frag) (_ _ : Addr) : Sp := fun vs H Q _ => ∃ a l ts m, vs = [.ref a, .ref l, .int ((m : Nat) : Int)] ∧ PotAt H a ∧ l ≠ a ∧ TiesAt H l ts ∧ 0 < ts.length ∧ ts.length ≤ 80 ∧ m ≤ 20 ∧ ∀ f R H', Chain ts R → R.length ≤ m + 1 → Kept a H H' → PotAt H' a → H f = none → f ≠ a → H' f = some (.lst (iv R)) → Q (.ref f) H'
theorem ok_law_grown (D : Def K mg "_law_grown" s_law_grown ["_law_pot_here", "_law_ties_here", "_law_many"]) (B : Bs mg) (Glb : Glo mg) (WK : WebK K mg C) (PK : PieceK K mg C2)
    (h_law_draw : Good P w K mg base "_law_draw" s_law_draw ["_law_pot_here", "_law_size"] 1 (sp_law_draw K C C2))
    (h_law_pick : Good P w K mg base "_law_pick" s_law_pick ["_law_pot_here", "_law_some"] 2 (sp_law_pick K C C2)) :
    Good P w K mg base "_law_grown" s_law_grown ["_law_pot_here", "_law_ties_here", "_law_many"] 3 (sp_law_grown K C C2) := by
  refine D.good fun f fd F => ?_
  obtain ⟨f_law_draw, d_law_draw, O_law_draw, m_law_draw, k_law_draw, b_law_draw, F_law_draw⟩ := h_law_draw
  obtain ⟨f_law_pick, d_law_pick, O_law_pick, m_law_pick, k_law_pick, b_law_pick, F_law_pick⟩ := h_law_pick
  refine F.ok sc_law_grown (fun vs H Q E h => ?_) (fun cdv A outer s H vs Q E hr h => ?_)
  · obtain ⟨a, l, ts, m, rfl, hp, hla, hT, hgm, htm, hm, q⟩ := h
    first | rfl | (rcases h with ⟨_, _, rfl, _⟩ | ⟨_, rfl, _⟩ <;> rfl)
  obtain ⟨a, l, ts, m, rfl, hp, hla, hT, hgm, htm, hm, q⟩ := h
  refine ⟨_, (pss_cons (ps_set (i := 3) sc_law_grown.nd rfl (by first | exact Or.inl rfl | exact Or.inr rfl) (pe_lst (pa_cons (pe_call O_law_draw (hr.mono (by decide)) rfl m_law_draw k_law_draw b_law_draw .nil pass0 (pa_cons (pv 0) (pa_cons (pe_callB call_len_seq (by rfl) B.len (by decide +kernel) (pa_cons (pv 1) pa_nil)) pa_nil))) pa_nil)))
  (pss_cons (ps_for PassesOwn.never rfl (pi_range1 (by rfl) B.range (pa_cons (pv 2) pa_nil)) (pg_name (i := 4) sc_law_grown.nd rfl (by first | exact Or.inl rfl | exact Or.inr rfl))
    (pss_cons (ps_set (i := 5) sc_law_grown.nd rfl (by first | exact Or.inl rfl | exact Or.inr rfl) (pe_ix ix_tup (pe_ix ix_list (pv 1) (pe_ix ix_list (pv 3) (pe_un un_neg pe_int) (fun _ _ => rfl)) (fun _ _ => rfl)) pe_int (fun _ _ => rfl)))
  (pss_cons (ps_setLc (i := 6) (own := [("_law_number", 7), ("_law_tie", 8)]) (g := gTup K 2 (gCons (gName 7) (gCons (gName 8) gNil))) (by rfl) sc_law_grown.nd rfl rfl (sw_true rfl rfl rfl (by decide +kernel)) (pi_enum (by rfl) B.enumerate (pa_cons (pv 1) pa_nil)) (blkOk_by (own := [("_law_number", 7), ("_law_tie", 8)]) (N := ["_law_pot_here", "_law_ties_here", "_law_many", "_law_found", "_law_turn", "_law_here", "_law_some", "_law_number", "_law_tie"]) (sc := defScope s_law_grown) (by decide +kernel)) (fun _ _ _ _ _ => (pg_tup rfl (pgs_cons (pg_name (i := 7) sc_law_grown.nd rfl (by first | exact Or.inl rfl | exact Or.inr rfl)) (pgs_cons (pg_name (i := 8) sc_law_grown.nd rfl (by first | exact Or.inl rfl | exact Or.inr rfl)) pgs_nil)))) (fun _ _ _ _ _ => (pts_one (pt_cmpR op_eq (pe_ix (ix_tupK (K := K) rfl) (pv 8) pe_int (by exact fun _ _ => rfl)) (pv 5) (nomark _)))) (fun _ _ _ _ _ => (pv 7)))
  (pss_one (ps_if (pt_cmpR (op_neD hr.units) (pv 6) (pe_lst pa_nil) (nomark _))
    (pss_one (ps_expr (pe_bm PySem.F.plainAttrs_list PySem.F.slot_list_append PySem.F.type_list_append mt_append (pv 3) (pa_cons (pe_call O_law_pick hr rfl m_law_pick k_law_pick b_law_pick .nil pass0 (pa_cons (pv 0) (pa_cons (pv 6) pa_nil))) pa_nil)))) pss_nil)))))
  (pss_one (ps_ret (pv 3))))), ?_⟩
  obtain ⟨xs0, hxs0, hxl0⟩ := hT.get
  refine ⟨_, rfl, _, rfl, l, _, rfl, .inl (SqL.of hxs0), a, xs0.length, rfl, hp, by omega, by omega, fun d H0 hd hk0 hp0 => ⟨(by show 1 ≤ sizeLine; decide), fun f nf => ?_⟩⟩
  have hfa : f ≠ a := hp0.ne nf
  have nfH : H f = none := hk0.free nf hfa
  have hkF := hk0.new (o := .lst [.int (d : Int)]) nf
  have hpF := hp0.new (o := .lst [.int (d : Int)]) nf
  have hfF : upd H0 f (.lst [.int (d : Int)]) f = some (.lst (iv [d])) := upd_same
  generalize upd H0 f (.lst [.int (d : Int)]) = HF at hkF hpF hfF
  refine ⟨_, rfl, _, rfl, by omega, by omega, ?_⟩
  rw [show ((m : Int)).toNat = m by omega]
  refine for_range (lo := 0) (n := m) (fun i σ H' => ∃ (R : List Nat) (v4 v5 v6 : Option V), σ = [some (.ref a), some (.ref l), some (.int (m : Int)), some (.ref f), v4, v5, v6, none, none] ∧ Chain ts R ∧ R.length ≤ i + 1 ∧ Kept a H H' ∧ PotAt H' a ∧ H' f = some (.lst (iv R))) ⟨[d], none, none, none, rfl, Chain.one (by omega), by show 1 ≤ 0 + 1; omega, hkF, hpF, hfF⟩ ?_ ?_
  · rintro i σ H1 hi ⟨R, v4, v5, v6, rfl, hc, hRm, hk1, hp1, hf1⟩
    have h0 := hc.n0
    obtain ⟨x, e, e1, e2⟩ := hc.last
    have hT1 := hT.kept hk1 hp hla
    obtain ⟨xs, p, k1, k2, k3⟩ := hT1.at_ e2
    refine ⟨_, rfl, _, rfl, _, rfl, _, _, _, .int (x : Int), rfl, rfl, SqL.of hf1, iv_back e1, _, _, _, .ref p, rfl, rfl, SqL.of k1, k2, _, _, _, .int (e.2 : Int), rfl, rfl, SqT.of k3, rfl, ?_⟩
    obtain ⟨tas, hl1, hP1⟩ := id hT1
    refine ⟨_, rfl, l, _, rfl, SqL.of hl1, fun D nD => ?_⟩
    refine lc_it (walk_enum (K := K) (a := l) (xs := tas.map V.ref)) (fun i H' => Same H1 H' ∧ H' D = some (.lst (iv (frmN ts e.2 i)))) ⟨same_new nD _, upd_same⟩ (fun i H' _ ⟨hS', _⟩ => SqL.of (hS' _ _ hl1)) ?_ ?_
    · rintro i x H2 H3 hi ⟨hS2, hD2⟩ ⟨T0, x1, x2, rfl, nT0, rfl, e1, e2⟩
      cases e1
      rw [List.length_map] at hi
      replace e2 : (tas.map V.ref)[i]? = some x2 := e2
      rw [List.getElem?_map, List.getElem?_eq_getElem hi] at e2
      cases e2
      obtain ⟨⟨u, v⟩, he', hpe⟩ := paired_get hP1 (List.getElem?_eq_getElem hi)
      have hil := (List.getElem?_eq_some_iff.mp he').1
      have hS3 := same_new nT0 (.tup [.int (i : Int), .ref tas[i]])
      have hT3 : upd H2 T0 (.tup [.int (i : Int), .ref tas[i]]) T0 = some (.tup [.int (i : Int), .ref tas[i]]) := upd_same
      generalize upd H2 T0 (.tup [.int (i : Int), .ref tas[i]]) = H3 at hS3 hT3
      have hp3 : H3 tas[i] = some (.tup [.int (u : Int), .int (v : Int)]) := hS3 _ _ (hS2 _ _ hpe)
      have hD3 := hS3 _ _ hD2
      have hlf := frmN_len ts e.2 i
      refine ⟨T0, _, rfl, SqT.of hT3, rfl, _, _, rfl, _, _, rfl, rfl, rfl, ?_⟩
      refine ⟨_, rfl, _, _, _, .int (u : Int), rfl, rfl, SqT.of hp3, rfl, _, rfl, rfl, _, rfl, ?_⟩
      by_cases c : u = e.2
      · have e3 : frmN ts e.2 (i + 1) = frmN ts e.2 i ++ [i] := if_pos (by rw [he', c]; rfl)
        refine iteYes (by rw [c]) ⟨_, rfl, _, hD3, ?_, same_upd (hS2.trans hS3) nD, ?_⟩
        · rw [List.length_map]
          exact Nat.lt_of_lt_of_le (by omega : (frmN ts e.2 i).length < 1000) (by decide)
        · rw [upd_same, e3, iv_app]
      · have e3 : frmN ts e.2 (i + 1) = frmN ts e.2 i := if_neg (by rw [he']; intro z; exact c (by simpa using z))
        refine iteNo (fun z => c (by have := int_eq.mp z; omega)) ⟨hS2.trans hS3, ?_⟩
        rw [e3]
        exact hD3
    rintro H2 ⟨hS2, hD2⟩
    rw [List.length_map, paired_len hP1] at hD2
    have hlf := frmN_len ts e.2 ts.length
    have hDa : D ≠ a := hp1.ne nD
    refine ⟨_, rfl, Nat.zero_le _, fun p0 np0 => ⟨_, _, dp_iz (L := (frm ts e.2).map fun n : Nat => (n : Int)) (by rw [← iv_iz]; exact same_new np0 _ _ _ hD2), dp_iz (L := []) upd_same, shaped_iz _, shaped_iz _, _, rfl, ?_⟩⟩
    have hS2 := hS2.trans (same_new np0 (.lst []))
    have hD2 := same_new np0 (.lst []) _ _ hD2
    generalize upd H2 p0 (.lst []) = H2 at hS2 hD2
    have hf2 := hS2 _ _ hf1
    rw [eqv_empty]
    by_cases cf : frm ts e.2 = []
    · refine iteNot' (by rw [cf]; rfl) ⟨R, _, _, _, rfl, hc, by omega, hk1.trans (Same.kept hS2), hp1.same hS2, hf2⟩
    refine iteNot (fun z => cf (List.map_eq_nil_iff.mp z)) ?_
    have hgf : 0 < (frm ts e.2).length := List.length_pos_iff.mpr cf
    refine ⟨_, rfl, .inl ⟨rfl, _, SqL.of hf2⟩, _, rfl, _, rfl, a, .inl ⟨D, _, rfl, hD2, hDa, by rw [List.length_map]; exact hgf, by rw [List.length_map]; omega, hp1.same hS2, fun v H3 hv hk3 hp3 => ?_⟩⟩
    obtain ⟨y, hy, rfl⟩ := iv_mem hv
    have hf3 := hk3 _ _ hf2 hfa
    refine ⟨f, _, _, rfl, rfl, hf3, by rw [List.length_map]; exact Nat.lt_of_lt_of_le (by omega : R.length < 1000) (by decide), ?_⟩
    refine ⟨R ++ [y], _, _, _, rfl, hc.snoc e1 e2 hy, by rw [List.length_append, List.length_singleton]; omega, ((hk1.trans (Same.kept hS2)).trans hk3).put nfH, hp3.put hfa, ?_⟩
    rw [upd_same, iv_app]
  · rintro σ H1 ⟨R, v4, v5, v6, rfl, hc, hRm, hk1, hp1, hf1⟩
    exact ⟨_, rfl, q f R H1 hc hRm hk1 hp1 nfH hfa hf1⟩
end
end My
namespace My
open PySem L2 PyProof.Rows
theorem T_app3 (a b c : List Nat) : (⟨a.toArray⟩ : Str) ++ (⟨b.toArray⟩ : Str) ++ (⟨c.toArray⟩ : Str) = ⟨(a ++ b ++ c).toArray⟩ := by rw [T_app, T_app]
theorem Lts.sub {m n : List Nat} (h : Lts m) (k : ∀ c ∈ n, c ∈ m) : Lts n := fun c hc => h c (k c hc)
theorem Lts.app {m n : List Nat} (h : Lts m) (k : Lts n) : Lts (m ++ n) := fun c hc => (List.mem_append.mp hc).elim (h c) (k c)
theorem Lts.take {m : List Nat} (h : Lts m) (p : Nat) : Lts (m.take p) := h.sub fun _ hc => List.mem_of_mem_take hc
theorem Lts.drop {m : List Nat} (h : Lts m) (p : Nat) : Lts (m.drop p) := h.sub fun _ hc => List.mem_of_mem_drop hc
theorem letters_snoc (P : List Str) (R : List Nat) (t : Nat) : letters P (R ++ [t]) = letters P R ++ [ltr (pce P t)] := List.map_append
theorem of_abcz : Str.ofString "abcz" = tS [97, 98, 99, 122] := by decide +kernel
section
variable {P : Program} {w : World} {K : PySem.W.Frag} {mg : Str → Option Value} {base : Heap} {C C2 : Addr}
def sp_law_text (_ : PySem.W.Frag) (_ _ : Addr) : Sp := fun vs H Q _ => ∃ pl wl P W ts s R, vs = [.ref pl, .ref wl] ∧ H pl = some (.lst (P.map V.str)) ∧ H wl = some (.lst (iv R)) ∧ PW P W ts s ∧ Chain ts R ∧ R.length ≤ 100 ∧ ∀ H', Same H H' → Q (.str (textOf P R)) H'
theorem ok_law_text (D : Def K mg "_law_text" s_law_text ["_law_pieces", "_law_walk"]) (B : Bs mg) (Glb : Glo mg) (WK : WebK K mg C) (PK : PieceK K mg C2) :
    Good P w K mg base "_law_text" s_law_text ["_law_pieces", "_law_walk"] 1 (sp_law_text K C C2) := by
  refine D.good fun f fd F => ?_
  refine F.ok sc_law_text (fun vs H Q E h => ?_) (fun cdv A outer s H vs Q E hr h => ?_)
  · obtain ⟨pl, wl, P', W', ts, s, R, rfl, hpl, hwl, hP, hc, h100, q⟩ := h
    first | rfl | (rcases h with ⟨_, _, rfl, _⟩ | ⟨_, rfl, _⟩ <;> rfl)
  obtain ⟨pl, wl, P', W', ts, s, R, rfl, hpl, hwl, hP, hc, h100, q⟩ := h
  refine ⟨_, (pss_cons (ps_set (i := 2) sc_law_text.nd rfl (by first | exact Or.inl rfl | exact Or.inr rfl) (pe_ix ix_list (pv 0) (pe_ix ix_list (pv 1) pe_int (fun _ _ => rfl)) (fun _ _ => rfl)))
  (pss_cons (ps_for PassesOwn.never rfl (pi_list (pe_slice sl_list (pv 1) (po_some pe_int) po_none)) (pg_name (i := 3) sc_law_text.nd rfl (by first | exact Or.inl rfl | exact Or.inr rfl))
    (pss_one (ps_set (i := 2) sc_law_text.nd rfl (by first | exact Or.inl rfl | exact Or.inr rfl) (pe_op op_add_str (pv 2) (pe_ix ix_str (pe_ix ix_list (pv 0) (pv 3) (fun _ _ => rfl)) (pe_un un_neg pe_int) (fun _ _ => rfl))))))
  (pss_one (ps_ret (pv 2))))), ?_⟩
  have h0 := hc.n0
  have hR : ∀ t ∈ R, t < P'.length := fun t ht => by rw [← hP.t.1]; exact hc.num t ht
  have er : R[0]? = some (R.getD 0 0) := getD_lt h0
  have ht0 := hR _ (List.mem_of_getElem? er)
  obtain ⟨c1, c2, c3, c4, c5⟩ := hP.at_ ht0
  have hlen0 : (pce P' (R.getD 0 0)).length = s := by rw [← str_len]; exact c1
  refine ⟨_, rfl, _, rfl, _, _, _, .int ((R.getD 0 0 : Nat) : Int), rfl, rfl, SqL.of hwl, iv_at (j := 0) er, _, _, _, .str (pce P' (R.getD 0 0)), rfl, rfl, SqL.of hpl, atI_nat (by rw [List.getElem?_map, pce_at ht0]; rfl), ?_⟩
  refine ⟨_, rfl, _, rfl, wl, _, rfl, SqL.of hwl, fun p np => ?_⟩
  rw [show ((1 : Int)) = ((1 : Nat) : Int) from rfl, cutV_from] at *
  have hS1 := same_new np (.lst ((iv R).drop 1))
  have hp1 : upd H p (.lst ((iv R).drop 1)) p = some (.lst (iv (R.drop 1))) := by rw [upd_same]; unfold iv; rw [List.map_drop]
  generalize upd H p (.lst ((iv R).drop 1)) = H1 at hS1 hp1
  refine ⟨p, rfl, ⟨_, SqL.of hp1⟩, ?_⟩
  refine for_list (K := K) (a := p) (xs := iv (R.drop 1)) (fun i σ H' => H' = H1 ∧ ∃ v3 : Option V, σ = [some (.ref pl), some (.ref wl), some (.str (tS ((pce P' (R.getD 0 0)).cps.toList ++ letters P' ((R.drop 1).take i)))), v3]) ⟨rfl, none, ?_⟩ (fun i σ H' _ ⟨e, _⟩ => by rw [e]; exact SqL.of hp1) ?_ ?_
  · rw [show (pce P' (R.getD 0 0)).cps.toList ++ letters P' ((R.drop 1).take 0) = (pce P' (R.getD 0 0)).cps.toList by simp, ← str_tS]
    rfl
  · rintro i y σ H2 hy ⟨rfl, v3, rfl⟩
    rw [List.getElem?_map] at hy
    cases e : (R.drop 1)[i]? with
    | none => rw [e] at hy; cases hy
    | some t =>
      rw [e] at hy
      cases hy
      have ht := hR t (List.mem_of_mem_drop (List.mem_of_getElem? e))
      obtain ⟨d1, d2, d3, d4, d5⟩ := hP.at_ ht
      have hlen : (pce P' t).length = s := by rw [← str_len]; exact d1
      have hil := (List.getElem?_eq_some_iff.mp e).1
      rw [List.length_drop] at hil
      refine ⟨_, rfl, _, rfl, _, rfl, _, _, _, .str (pce P' t), rfl, rfl, SqL.of (hS1 _ _ hpl), atI_nat (by rw [List.getElem?_map, pce_at ht]; rfl), _, rfl, _, _, _, rfl, rfl, line400 (by omega), ltr_at (by omega), _, _, rfl, rfl, ?_, rfl, some (.int (t : Int)), ?_⟩
      · rw [T_len, List.length_append, c1, List.length_map, List.length_take]
        show _ + 1 ≤ sizeLine
        exact Nat.le_trans (by omega : _ ≤ 1000) (by decide)
      · rw [take_snoc e, letters_snoc, ← List.append_assoc]
        show [_, _, some (V.str ((⟨_⟩ : Str) ++ (⟨[ltr (pce P' t)].toArray⟩ : Str))), _] = _
        rw [T_app]
  · rintro σ H2 ⟨rfl, v3, rfl⟩
    have e : tS ((pce P' (R.getD 0 0)).cps.toList ++ letters P' ((R.drop 1).take (iv (R.drop 1)).length)) = textOf P' R := by
      rw [List.length_map, List.take_length, textOf_txt h0 (by omega)]
    rw [e]
    exact ⟨_, rfl, q _ hS1⟩
def sp_law_walk_of (_ : PySem.W.Frag) (_ _ : Addr) : Sp := fun vs H Q _ => ∃ pl P s x, vs = [.ref pl, .str x] ∧ H pl = some (.lst (P.map V.str)) ∧ OkP P s ∧ x.length ≤ 400 ∧ ∀ v H', Same H H' → WalkIs P x s v H' → Q v H'
theorem ok_law_walk_of (D : Def K mg "_law_walk_of" s_law_walk_of ["_law_pieces", "_law_text_here"]) (B : Bs mg) (Glb : Glo mg) (WK : WebK K mg C) (PK : PieceK K mg C2) :
    Good P w K mg base "_law_walk_of" s_law_walk_of ["_law_pieces", "_law_text_here"] 1 (sp_law_walk_of K C C2) := by
  refine D.good fun f fd F => ?_
  refine F.ok sc_law_walk_of (fun vs H Q E h => ?_) (fun cdv A outer s H vs Q E hr h => ?_)
  · obtain ⟨pl, P', s, x, rfl, hpl, ho, hx, q⟩ := h
    first | rfl | (rcases h with ⟨_, _, rfl, _⟩ | ⟨_, rfl, _⟩ <;> rfl)
  obtain ⟨pl, P', s, x, rfl, hpl, ho, hx, q⟩ := h
  refine ⟨_, (pss_cons (ps_par (i := 2) (j := 3) (by rfl) sc_law_walk_of.nd rfl rfl (by decide) rfl rfl (pa_cons (pe_callB call_len_str (by rfl) B.len (by decide +kernel) (pa_cons (pe_ix ix_list (pv 0) pe_int (fun _ _ => rfl)) pa_nil)) (pa_cons (pe_lst pa_nil) pa_nil)) (by rfl))
  (pss_cons (ps_for PassesOwn.never rfl (pi_range1 (by rfl) B.range (pa_cons (pe_op op_add (pe_op op_sub (pe_callB call_len_str (by rfl) B.len (by decide +kernel) (pa_cons (pv 1) pa_nil)) (pv 2)) pe_int) pa_nil)) (pg_name (i := 4) sc_law_walk_of.nd rfl (by first | exact Or.inl rfl | exact Or.inr rfl))
    (pss_cons (ps_set (i := 5) sc_law_walk_of.nd rfl (by first | exact Or.inl rfl | exact Or.inr rfl) (pe_slice sl_str (pv 1) (po_some (pv 4)) (po_some (pe_op op_add (pv 4) (pv 2)))))
  (pss_cons (ps_if (pt_cmpR op_notIn_seq (pv 5) (pv 0) (by rfl))
    (pss_one (ps_ret pe_non)) pss_nil)
  (pss_one (ps_expr (pe_bm PySem.F.plainAttrs_list PySem.F.slot_list_append PySem.F.type_list_append mt_append (pv 3) (pa_cons (pe_bm PySem.F.plainAttrs_list PySem.F.slot_list_index PySem.F.type_list_index mt_index (pv 0) (pa_cons (pv 5) pa_nil)) pa_nil)))))))
  (pss_one (ps_ret (pe_ifExp (pt_cmpR (op_neD hr.units) (pv 3) (pe_lst pa_nil) (nomark _)) (pv 3) pe_non))))), ?_⟩
  obtain ⟨o1, o2, o3, o4, o5, o6⟩ := id ho
  obtain ⟨x0, hx0⟩ : ∃ x, P'[0]? = some x := ⟨P'[0]'(by omega), List.getElem?_eq_getElem _⟩
  have hs0 := (o3 x0 (List.mem_of_getElem? hx0)).2
  refine ⟨_, rfl, _, _, _, .str x0, rfl, rfl, SqL.of hpl, atI_nat (j := 0) (by rw [List.getElem?_map, hx0]; rfl), x0, rfl, line400 (by omega), (by show 0 ≤ sizeLine; decide), fun fp nfp => ⟨_, _, rfl, ?_⟩⟩
  rw [hs0]
  have hS1 := same_new nfp (.lst [])
  have hf1 : upd H fp (.lst []) fp = some (.lst (iv [])) := upd_same
  generalize upd H fp (.lst []) = H1 at hS1 hf1
  refine ⟨_, rfl, x, rfl, line400 hx, _, rfl, _, _, rfl, rfl, _, _, rfl, rfl, _, rfl, by omega, by omega, ?_⟩
  rw [show (((x.length : Nat) : Int) - (s : Int) + 1).toNat = x.length + 1 - s by omega]
  have hn : (pcs x s).length = x.length + 1 - s := pcsN_len _ _ _
  refine for_range (lo := 0) (n := x.length + 1 - s) (fun i σ H' => ∃ (R : List Nat) (v4 v5 : Option V), σ = [some (.ref pl), some (.str x), some (.int (s : Int)), some (.ref fp), v4, v5] ∧ Same H H' ∧ H' fp = some (.lst (iv R)) ∧ IsAlong P' ((pcs x s).take i) R) ⟨[], none, none, rfl, hS1, hf1, IsAlong.nil⟩ ?_ ?_
  · rintro i σ H2 hi ⟨R, v4, v5, rfl, hS2, hf2, hA⟩
    rw [Int.zero_add]
    have hz := pcs_at hi
    have hp2 := hS2 _ _ hpl
    refine ⟨_, rfl, _, rfl, _, rfl, _, rfl, _, rfl, _, _, rfl, rfl, _, rfl, _, rfl, line400 hx, ?_⟩
    refine ⟨_, rfl, _, rfl, pl, _, rfl, .inl (SqL.of hp2), rfl, flat_st P', _, rfl, ?_⟩
    rw [inV_st]
    by_cases c : pc x s i ∈ P'
    · obtain ⟨j, hj⟩ := List.getElem?_of_mem c
      refine iteNot' c ⟨_, rfl, .inl ⟨rfl, _, SqL.of hf2⟩, _, rfl, .inl ⟨rfl, _, SqL.of hp2⟩, _, rfl, ?_⟩
      dsimp only [tNil]
      refine index_st o6 hp2 hj ⟨fp, _, _, rfl, rfl, hf2, ?_, R ++ [j], _, _, rfl, same_upd hS2 nfp, by rw [upd_same, iv_app], by rw [take_snoc hz]; exact hA.snoc hj⟩
      rw [List.length_map, hA.1, List.length_take]
      exact Nat.lt_of_lt_of_le (by omega : _ < 1000) (by decide)
    · exact iteNot c (q _ _ hS2 (.inl ⟨rfl, .inr fun h => c (h _ (List.mem_of_getElem? hz))⟩))
  · rintro σ H2 ⟨R, v4, v5, rfl, hS2, hf2, hA⟩
    rw [← hn, List.take_length] at hA
    refine ⟨_, rfl, Nat.zero_le _, fun p0 np0 => ⟨_, _, dp_iz (L := R.map fun n : Nat => (n : Int)) (by rw [← iv_iz]; exact same_new np0 _ _ _ hf2), dp_iz (L := []) upd_same, shaped_iz _, shaped_iz _, _, rfl, ?_⟩⟩
    have hS3 := hS2.trans (same_new np0 (.lst []))
    have hf3 := same_new np0 (.lst []) _ _ hf2
    generalize upd H2 p0 (.lst []) = H3 at hS3 hf3
    rw [eqv_empty]
    have h1 := hA.1
    by_cases cf : R = []
    · refine iteNot' (by rw [cf]; rfl) (q _ _ hS3 (.inl ⟨rfl, .inl ?_⟩))
      rw [cf] at h1
      exact List.length_eq_zero_iff.mp h1.symm
    · refine iteNot (fun z => cf (List.map_eq_nil_iff.mp z)) ⟨_, rfl, q _ _ hS3 (.inr ⟨fp, R, rfl, hf3, fun z => ?_, hA⟩)⟩
      rw [z] at h1
      exact cf (List.length_eq_zero_iff.mp h1)
def sp_law_bent (_ : PySem.W.Frag) (_ _ : Addr) : Sp := fun vs H Q _ => ∃ a m, vs = [.ref a, T m] ∧ PotAt H a ∧ Lts m ∧ m.length ≤ 120 ∧ ∀ m' H', Lts m' → m'.length ≤ 130 → Kept a H H' → PotAt H' a → Q (T m') H'
theorem ok_law_bent (D : Def K mg "_law_bent" s_law_bent ["_law_pot_here", "_law_text_here"]) (B : Bs mg) (Glb : Glo mg) (WK : WebK K mg C) (PK : PieceK K mg C2)
    (h_law_pick : Good P w K mg base "_law_pick" s_law_pick ["_law_pot_here", "_law_some"] 2 (sp_law_pick K C C2))
    (h_law_draw : Good P w K mg base "_law_draw" s_law_draw ["_law_pot_here", "_law_size"] 1 (sp_law_draw K C C2)) :
    Good P w K mg base "_law_bent" s_law_bent ["_law_pot_here", "_law_text_here"] 3 (sp_law_bent K C C2) := by
  refine D.good fun f fd F => ?_
  obtain ⟨f_law_pick, d_law_pick, O_law_pick, m_law_pick, k_law_pick, b_law_pick, F_law_pick⟩ := h_law_pick
  obtain ⟨f_law_draw, d_law_draw, O_law_draw, m_law_draw, k_law_draw, b_law_draw, F_law_draw⟩ := h_law_draw
  refine F.ok sc_law_bent (fun vs H Q E h => ?_) (fun cdv A outer s H vs Q E hr h => ?_)
  · obtain ⟨a, m, rfl, hp, hm, hml, q⟩ := h
    first | rfl | (rcases h with ⟨_, _, rfl, _⟩ | ⟨_, rfl, _⟩ <;> rfl)
  obtain ⟨a, m, rfl, hp, hm, hml, q⟩ := h
  refine ⟨_, (pss_cons (ps_par (i := 2) (j := 3) (by rfl) sc_law_bent.nd rfl rfl (by decide) rfl rfl (pa_cons (pe_call O_law_draw (hr.mono (by decide)) rfl m_law_draw k_law_draw b_law_draw .nil pass0 (pa_cons (pv 0) (pa_cons (pe_op op_add (pe_callB call_len_str (by rfl) B.len (by decide +kernel) (pa_cons (pv 1) pa_nil)) pe_int) pa_nil))) (pa_cons (pe_call O_law_draw (hr.mono (by decide)) rfl m_law_draw k_law_draw b_law_draw .nil pass0 (pa_cons (pv 0) (pa_cons pe_int pa_nil))) pa_nil)) (by rfl))
  (pss_cons (ps_set (i := 4) sc_law_bent.nd rfl (by first | exact Or.inl rfl | exact Or.inr rfl) (pe_call O_law_pick hr rfl m_law_pick k_law_pick b_law_pick .nil pass0 (pa_cons (pv 0) (pa_cons pe_str pa_nil))))
  (pss_cons (ps_if (pt_cmpR op_eq (pv 3) pe_int (nomark _))
    (pss_one (ps_ret (pe_op op_add_str (pe_slice sl_str (pv 1) po_none (po_some (pv 2))) (pe_slice sl_str (pv 1) (po_some (pe_op op_add (pv 2) pe_int)) po_none)))) pss_nil)
  (pss_cons (ps_if (pt_cmpR op_eq (pv 3) pe_int (nomark _))
    (pss_one (ps_ret (pe_op op_add_str (pe_op op_add_str (pe_slice sl_str (pv 1) po_none (po_some (pv 2))) (pv 4)) (pe_slice sl_str (pv 1) (po_some (pe_op op_add (pv 2) pe_int)) po_none)))) pss_nil)
  (pss_cons (ps_if (pt_cmpR op_eq (pv 3) pe_int (nomark _))
    (pss_one (ps_ret (pe_op op_add_str (pe_op op_add_str (pe_slice sl_str (pv 1) po_none (po_some (pv 2))) (pv 4)) (pe_slice sl_str (pv 1) (po_some (pv 2)) po_none)))) pss_nil)
  (pss_one (ps_ret (pe_op op_add_str (pe_slice sl_str (pv 1) (po_some (pv 2)) po_none) (pe_slice sl_str (pv 1) po_none (po_some (pv 2))))))))))), ?_⟩
  refine ⟨_, rfl, _, rfl, _, rfl, T_line (by omega), _, _, rfl, rfl, a, m.length + 1, ?_, hp, by omega, by omega, fun d H1 hd hk1 hp1 => ?_⟩
  · rw [T_len]
    rfl
  refine ⟨_, rfl, a, 4, rfl, hp1, by decide, by decide, fun y H2 hy hk2 hp2 => ⟨_, _, rfl, ?_⟩⟩
  refine ⟨_, rfl, a, .inr ⟨[97, 98, 99, 122], ?_, by decide, by decide, hp2, fun c H3 hc hk3 hp3 => ?_⟩⟩
  · rw [of_abcz]
    rfl
  have hk := (hk1.trans hk2).trans hk3
  have hc2 : Lts [c] := by
    have : Lts [97, 98, 99, 122] := by unfold Lts; decide
    intro z hz
    rw [List.mem_singleton.mp hz]
    exact this c hc
  have c1 : cutS (tS m) none (some (d : Int)) = tS (m.take d) := cut_to
  have c2 : cutS (tS m) (some (d : Int)) none = tS (m.drop d) := cut_from
  have c3 : cutS (tS m) (some ((d : Int) + 1)) none = tS (m.drop (d + 1)) := cut_from (p := d + 1)
  have hx : (tS m).length ≤ sizeLine := T_line (by omega)
  have ln : ∀ l : List Nat, l.length ≤ 300 → l.length ≤ sizeLine := fun l h => Nat.le_trans h (by decide)
  have fin : ∀ m', Lts m' → m'.length ≤ 130 → Q (.str (tS m')) H3 := fun m' h1 h2 => q m' H3 h1 h2 hk hp3
  refine ⟨_, rfl, rfl, _, rfl, ?_⟩
  refine ite2 (fun z => ?_) (fun z => ?_)
  · refine ⟨_, rfl, _, rfl, _, rfl, _, rfl, hx, _, rfl, _, rfl, _, _, rfl, rfl, _, rfl, _, rfl, hx, _, _, rfl, rfl, ?_, ?_⟩
    · rw [c1, c3, T_len, T_len, List.length_take, List.length_drop]
      exact Nat.le_trans (by omega : _ ≤ 300) (by decide)
    · rw [c1, c3, T_app]
      exact fin _ ((hm.take _).app (hm.drop _)) (by rw [List.length_append, List.length_take, List.length_drop]; omega)
  refine ⟨_, rfl, rfl, _, rfl, ?_⟩
  refine ite2 (fun z => ?_) (fun z => ?_)
  · refine ⟨_, rfl, _, rfl, _, rfl, _, rfl, hx, _, rfl, _, _, rfl, rfl, ?_, _, rfl, _, rfl, _, _, rfl, rfl, _, rfl, _, rfl, hx, _, _, rfl, rfl, ?_, ?_⟩
    · rw [c1, T_len, T_len, List.length_take]
      exact Nat.le_trans (by show _ + 1 ≤ 300; omega : _ ≤ 300) (by decide)
    · rw [c1, c3, T_app, T_len, T_len, List.length_append, List.length_take, List.length_drop]
      exact Nat.le_trans (by show _ + 1 + _ ≤ 300; omega : _ ≤ 300) (by decide)
    · rw [c1, c3, T_app3]
      exact fin _ (((hm.take _).app hc2).app (hm.drop _)) (by rw [List.length_append, List.length_append, List.length_take, List.length_drop, List.length_singleton]; omega)
  refine ⟨_, rfl, rfl, _, rfl, ?_⟩
  refine ite2 (fun z => ?_) (fun z => ?_)
  · refine ⟨_, rfl, _, rfl, _, rfl, _, rfl, hx, _, rfl, _, _, rfl, rfl, ?_, _, rfl, _, rfl, _, rfl, _, rfl, hx, _, _, rfl, rfl, ?_, ?_⟩
    · rw [c1, T_len, T_len, List.length_take]
      exact Nat.le_trans (by show _ + 1 ≤ 300; omega : _ ≤ 300) (by decide)
    · rw [c1, c2, T_app, T_len, T_len, List.length_append, List.length_take, List.length_drop]
      exact Nat.le_trans (by show _ + 1 + _ ≤ 300; omega : _ ≤ 300) (by decide)
    · rw [c1, c2, T_app3]
      exact fin _ (((hm.take _).app hc2).app (hm.drop _)) (by rw [List.length_append, List.length_append, List.length_take, List.length_drop, List.length_singleton]; omega)
  · refine ⟨_, rfl, _, rfl, _, rfl, _, rfl, hx, _, rfl, _, rfl, _, rfl, _, rfl, hx, _, _, rfl, rfl, ?_, ?_⟩
    · rw [c1, c2, T_len, T_len, List.length_take, List.length_drop]
      exact Nat.le_trans (by omega : _ ≤ 300) (by decide)
    · rw [c1, c2, T_app]
      exact fin _ ((hm.drop _).app (hm.take _)) (by rw [List.length_append, List.length_take, List.length_drop]; omega)
end
end My
namespace My
open PySem L2 PyProof.Rows
theorem stay {a : Addr} {S H H' : Hp} (h : Same S H) (k : Kept a H H') (n : S a = none) : Same S H' := fun b o e => k b o (h b o e) (fun z => by rw [z, n] at e; cases e)
theorem WalkIs.eq {P : List Str} {x : Str} {s : Nat} {v : V} {H : Hp} {R : List Nat} (hn : P.Nodup) (h : WalkIs P x s v H) (hA : IsAlong P (pcs x s) R) (h0 : 0 < R.length) : ∃ l, v = .ref l ∧ H l = some (.lst (iv R)) := by
  rcases h with ⟨rfl, h⟩ | ⟨l, S, rfl, h2, h3, h4⟩
  · rcases h with h | h
    · have := hA.1
      rw [h, List.length_nil] at this
      omega
    · refine (h fun z hz => ?_).elim
      obtain ⟨i, hi⟩ := List.getElem?_of_mem hz
      obtain ⟨t, _, e⟩ := hA.2 i z hi
      exact List.mem_of_getElem? e
  · have e := hA.unique hn h4
    subst e
    exact ⟨l, rfl, h2⟩
section
variable {P : Program} {w : World} {K : PySem.W.Frag} {mg : Str → Option Value} {base : Heap} {C C2 : Addr}
def sp_law_texts_right (_ : PySem.W.Frag) (C C2 : Addr) : Sp := fun vs H Q _ => ∃ a x pl tl P W ts s S, vs = [.ref a, .ref x, .ref pl, .ref tl] ∧ PotAt H a ∧ PieceAt C C2 x P W ts S ∧ Same S H ∧ S a = none ∧ PW P W ts s ∧ H pl = some (.lst (P.map V.str)) ∧ pl ≠ a ∧ TiesAt H tl ts ∧ tl ≠ a ∧ ∀ H', Q (.bl true) H'
theorem ok_law_texts_right (D : Def K mg "_law_texts_right" s_law_texts_right ["_law_pot_here", "_law_web", "_law_pieces", "_law_ties_here"]) (B : Bs mg) (Glb : Glo mg) (WK : WebK K mg C) (PK : PieceK K mg C2)
    (h_law_grown : Good P w K mg base "_law_grown" s_law_grown ["_law_pot_here", "_law_ties_here", "_law_many"] 3 (sp_law_grown K C C2))
    (h_law_text : Good P w K mg base "_law_text" s_law_text ["_law_pieces", "_law_walk"] 1 (sp_law_text K C C2))
    (h_law_draw : Good P w K mg base "_law_draw" s_law_draw ["_law_pot_here", "_law_size"] 1 (sp_law_draw K C C2))
    (h_law_bent : Good P w K mg base "_law_bent" s_law_bent ["_law_pot_here", "_law_text_here"] 3 (sp_law_bent K C C2))
    (h_law_walk_of : Good P w K mg base "_law_walk_of" s_law_walk_of ["_law_pieces", "_law_text_here"] 1 (sp_law_walk_of K C C2))
    (hPieceWeb_text_of : GoodM P w K mg base C2 "text_of" "PieceWeb.text_of" sPieceWeb_text_of ["self", "walk"] 8 (spPieceWeb_text_of K C C2))
    (hPieceWeb_walk_of : GoodM P w K mg base C2 "walk_of" "PieceWeb.walk_of" sPieceWeb_walk_of ["self", "text"] 5 (spPieceWeb_walk_of K C C2)) :
    Good P w K mg base "_law_texts_right" s_law_texts_right ["_law_pot_here", "_law_web", "_law_pieces", "_law_ties_here"] 10 (sp_law_texts_right K C C2) := by
  refine D.good fun f fd F => ?_
  obtain ⟨f_law_grown, d_law_grown, O_law_grown, m_law_grown, k_law_grown, b_law_grown, F_law_grown⟩ := h_law_grown
  obtain ⟨f_law_text, d_law_text, O_law_text, m_law_text, k_law_text, b_law_text, F_law_text⟩ := h_law_text
  obtain ⟨f_law_draw, d_law_draw, O_law_draw, m_law_draw, k_law_draw, b_law_draw, F_law_draw⟩ := h_law_draw
  obtain ⟨f_law_bent, d_law_bent, O_law_bent, m_law_bent, k_law_bent, b_law_bent, F_law_bent⟩ := h_law_bent
  obtain ⟨f_law_walk_of, d_law_walk_of, O_law_walk_of, m_law_walk_of, k_law_walk_of, b_law_walk_of, F_law_walk_of⟩ := h_law_walk_of
  obtain ⟨fPieceWeb_text_of, dPieceWeb_text_of, OPieceWeb_text_of, tPieceWeb_text_of, bPieceWeb_text_of, FPieceWeb_text_of⟩ := hPieceWeb_text_of
  obtain ⟨fPieceWeb_walk_of, dPieceWeb_walk_of, OPieceWeb_walk_of, tPieceWeb_walk_of, bPieceWeb_walk_of, FPieceWeb_walk_of⟩ := hPieceWeb_walk_of
  have kb_PieceWeb_text_of_walk : KBinds K dPieceWeb_text_of ["self", "walk"] ["walk"] gm1 gm1 := fun_kbinds FPieceWeb_text_of gm1 gm1 relm1 (fun _ _ _ _ _ _ us ws hl => by
    obtain ⟨a0, a1, rfl, rfl⟩ := gm1_inv hl
    rfl)
  have kb_PieceWeb_walk_of_text : KBinds K dPieceWeb_walk_of ["self", "text"] ["text"] gm1 gm1 := fun_kbinds FPieceWeb_walk_of gm1 gm1 relm1 (fun _ _ _ _ _ _ us ws hl => by
    obtain ⟨a0, a1, rfl, rfl⟩ := gm1_inv hl
    rfl)
  refine F.ok sc_law_texts_right (fun vs H Q E h => ?_) (fun cdv A outer s H vs Q E hr h => ?_)
  · obtain ⟨a, x, pl, tl, P', W', ts, s, S, rfl, hp, hwS, hSS, hSa, hP, hpl, hpa, hT, hta, q⟩ := h
    first | rfl | (rcases h with ⟨_, _, rfl, _⟩ | ⟨_, rfl, _⟩ <;> rfl)
  obtain ⟨a, x, pl, tl, P', W', ts, s, S, rfl, hp, hwS, hSS, hSa, hP, hpl, hpa, hT, hta, q⟩ := h
  refine ⟨_, (pss_cons (ps_for PassesOwn.never rfl (pi_range1 (by rfl) B.range (pa_cons pe_int pa_nil)) (pg_name (i := 4) sc_law_texts_right.nd rfl (by first | exact Or.inl rfl | exact Or.inr rfl))
    (pss_cons (ps_set (i := 5) sc_law_texts_right.nd rfl (by first | exact Or.inl rfl | exact Or.inr rfl) (pe_call O_law_grown (hr.mono (by decide)) rfl m_law_grown k_law_grown b_law_grown .nil pass0 (pa_cons (pv 0) (pa_cons (pv 3) (pa_cons (pe_call O_law_draw (hr.mono (by decide)) rfl m_law_draw k_law_draw b_law_draw .nil pass0 (pa_cons (pv 0) (pa_cons pe_int pa_nil))) pa_nil)))))
  (pss_cons (ps_set (i := 6) sc_law_texts_right.nd rfl (by first | exact Or.inl rfl | exact Or.inr rfl) (pe_call O_law_text (hr.mono (by decide)) rfl m_law_text k_law_text b_law_text .nil pass0 (pa_cons (pv 2) (pa_cons (pv 5) pa_nil))))
  (pss_cons (ps_set (i := 7) sc_law_texts_right.nd rfl (by first | exact Or.inl rfl | exact Or.inr rfl) (pe_meth (pv 1) PK.cl tPieceWeb_text_of OPieceWeb_text_of (hr.mono (by decide)) bPieceWeb_text_of .nil pass0 (pa_cons (pv 5) pa_nil)))
  (pss_cons (ps_if (pt_cmpR op_eq (pe_op op_mod (pv 4) pe_int) pe_int (nomark _))
    (pss_one (ps_set (i := 7) sc_law_texts_right.nd rfl (by first | exact Or.inl rfl | exact Or.inr rfl) (pe_methKK (pv 1) PK.cl tPieceWeb_text_of OPieceWeb_text_of (hr.mono (by decide)) kb_PieceWeb_text_of_walk pass0 (pk_cons (pe_callTy call_tuple_of (by rfl) B.tuple (by decide +kernel) (pa_cons (pv 5) pa_nil)) pk_nil)))) pss_nil)
  (pss_cons (ps_if (PW.pt (pw_or (pt_cmpR op_ne (pv 7) (pv 6) (nomark _)) (pw_or1 (pt_cmpR (op_neD hr.units) (pe_methKK (pv 1) PK.cl tPieceWeb_walk_of OPieceWeb_walk_of (hr.mono (by decide)) kb_PieceWeb_walk_of_text pass0 (pk_cons (pv 6) pk_nil)) (pv 5) (nomark _)))))
    (pss_one (ps_ret pe_bl)) pss_nil)
  (pss_one (ps_for PassesOwn.never rfl (pi_list (pe_lst (pa_cons (pe_call O_law_bent (hr.mono (by decide)) rfl m_law_bent k_law_bent b_law_bent .nil pass0 (pa_cons (pv 0) (pa_cons (pv 6) pa_nil))) (pa_cons (pe_call O_law_bent (hr.mono (by decide)) rfl m_law_bent k_law_bent b_law_bent .nil pass0 (pa_cons (pv 0) (pa_cons (pv 6) pa_nil))) (pa_cons (pe_slice sl_str (pv 6) po_none (po_some pe_int)) (pa_cons pe_str (pa_cons (pe_ix ix_list (pv 2) pe_int (fun _ _ => rfl)) pa_nil))))))) (pg_name (i := 8) sc_law_texts_right.nd rfl (by first | exact Or.inl rfl | exact Or.inr rfl))
    (pss_one (ps_if (pt_cmpR (op_neD hr.units) (pe_meth (pv 1) PK.cl tPieceWeb_walk_of OPieceWeb_walk_of (hr.mono (by decide)) bPieceWeb_walk_of .nil pass0 (pa_cons (pv 8) pa_nil)) (pe_call O_law_walk_of (hr.mono (by decide)) rfl m_law_walk_of k_law_walk_of b_law_walk_of .nil pass0 (pa_cons (pv 2) (pa_cons (pv 8) pa_nil))) (nomark _))
    (pss_one (ps_ret pe_bl)) pss_nil))))))))))
  (pss_one (ps_ret pe_bl))), ?_⟩
  obtain ⟨o1, o2, o3, o4, o5, o6⟩ := id hP.p
  have htl := hP.t.1
  refine ⟨_, rfl, by decide, by decide, ?_⟩
  refine for_range (lo := 0) (n := 4) (fun i σ H' => ∃ (v4 v5 v6 v7 v8 : Option V), σ = [some (.ref a), some (.ref x), some (.ref pl), some (.ref tl), v4, v5, v6, v7, v8] ∧ PotAt H' a ∧ Same S H' ∧ H' pl = some (.lst (P'.map V.str)) ∧ TiesAt H' tl ts) ⟨none, none, none, none, none, rfl, hp, hSS, hpl, hT⟩ ?_ ?_
  · rintro i σ H1 hi ⟨v4, v5, v6, v7, v8, rfl, hp1, hS1, hpl1, hT1⟩
    refine ⟨_, rfl, _, rfl, _, rfl, a, 8, rfl, hp1, by decide, by decide, fun d H2 hd hk2 hp2 => ?_⟩
    refine ⟨a, tl, ts, d, rfl, hp2, hta, hT1.kept hk2 hp1 hta, by omega, by omega, by omega, fun f R H3 hc hRl hk3 hp3 nf hfa hf3 => ?_⟩
    have hk := hk2.trans hk3
    have hS3 := stay hS1 hk hSa
    have hpl3 := hk _ _ hpl1 hpa
    have hT3 := hT1.kept hk hp1 hta
    clear hk2 hk3 hk
    refine ⟨_, rfl, _, rfl, pl, f, P', W', ts, s, R, rfl, hpl3, hf3, hP, hc, by omega, fun H4 hS4 => ?_⟩
    have hw4 := hwS.same (hS3.trans hS4)
    obtain ⟨dx, pa, pb, y, h1, _⟩ := id hw4
    refine ⟨_, rfl, x, dx, _, rfl, h1, wfP_no _ _ _ (by decide +kernel) (by decide +kernel) (by decide +kernel), _, rfl, x, P', W', ts, s, f, R, rfl, hw4, hP, .inl (hS4 _ _ hf3), hc, by omega, fun H5 hS5 => ?_⟩
    have hS35 := hS4.trans hS5
    suffices fin : ∀ H6, Same H5 H6 → _ by
      refine ⟨_, rfl, _, _, rfl, rfl, (by show (0 : Int) < 2; decide), rfl, _, rfl, ?_⟩
      refine ite2 (fun z => ?_) (fun z => ?_)
      · have hw5 := hwS.same (hS3.trans hS35)
        obtain ⟨dx5, pa5, pb5, y5, h15, _⟩ := id hw5
        refine ⟨_, rfl, x, dx5, _, rfl, h15, wfP_no _ _ _ (by decide +kernel) (by decide +kernel) (by decide +kernel), _, rfl, f, _, rfl, .inl ⟨SqL.of (hS35 _ _ hf3), fun tp ntp => ?_⟩⟩
        exact ⟨x, P', W', ts, s, tp, R, rfl, hw5.same (same_new ntp _), hP, .inr upd_same, hc, by omega, fun H6 hS6 => fin H6 ((same_new ntp _).trans hS6)⟩
      · exact fin H5 (Same.refl _)
    intro H6 hS6
    have hS36 := hS35.trans hS6
    have hSS6 := hS3.trans hS36
    have hw6 := hwS.same hSS6
    obtain ⟨dx6, pa6, pb6, y6, h16, _⟩ := id hw6
    obtain ⟨m, em, hm, hml, hms⟩ := text_ok hP hc (by omega : R.length ≤ 100)
    have hA := along_text hP hc
    have hok : OkT (textOf P' R) := by rw [em]; exact hm.ok (by omega)
    refine ⟨_, rfl, _, rfl, rfl, _, rfl, iteNot' rfl ?_⟩
    refine ⟨_, rfl, x, dx6, _, rfl, h16, wfP_no _ _ _ (by decide +kernel) (by decide +kernel) (by decide +kernel), _, rfl, x, P', W', ts, s, textOf P' R, rfl, hw6, hP, hok, fun v H7 hS7 hv => ?_⟩
    obtain ⟨l', rfl, hl'⟩ := hv.eq o6 hA hc.n0
    have hf7 := hS7 _ _ (hS36 _ _ hf3)
    refine ⟨_, rfl, _, _, dp_iz (L := R.map fun n : Nat => (n : Int)) (by rw [← iv_iz]; exact hl'), dp_iz (L := R.map fun n : Nat => (n : Int)) (by rw [← iv_iz]; exact hf7), shaped_iz _, shaped_iz _, _, rfl, iteNb (eqv_same _) ?_⟩
    have hS37 := hS36.trans hS7
    have hp7 := hp3.same hS37
    refine ⟨_, rfl, _, rfl, a, m, by rw [em]; rfl, hp7, hm, by omega, fun m1 H8 hm1 hl1 hk8 hp8 => ?_⟩
    refine ⟨_, rfl, _, rfl, a, m, by rw [em]; rfl, hp8, hm, by omega, fun m2 H9 hm2 hl2 hk9 hp9 => ?_⟩
    have hk39 := (Same.kept hS37).trans (hk8.trans hk9)
    have hS9 := stay hS3 hk39 hSa
    have hpl9 := hk39 _ _ hpl3 hpa
    have hT9 := hT3.kept hk39 hp3 hta
    obtain ⟨x0, hx0⟩ : ∃ x, P'[0]? = some x := ⟨P'[0]'(by omega), List.getElem?_eq_getElem _⟩
    have ok0 := (o3 x0 (List.mem_of_getElem? hx0)).1
    have hcut : cutS (textOf P' R) none (some 1) = tS (m.take 1) := by rw [em]; exact cut_to (p := 1)
    refine ⟨_, rfl, _, rfl, _, rfl, line400 hok.len, _, rfl, _, _, _, .str x0, rfl, rfl, SqL.of hpl9, atI_nat (j := 0) (by rw [List.getElem?_map, hx0]; rfl), (by show 5 ≤ sizeLine; decide), fun lp nlp => ?_⟩
    have hit : ∀ z ∈ [tS m1, tS m2, cutS (textOf P' R) none (some 1), Str.ofString "", x0], OkT z := by
      intro z hz
      rw [hcut, T_nil] at hz
      rcases List.mem_cons.mp hz with rfl | hz
      · exact hm1.ok (by omega)
      rcases List.mem_cons.mp hz with rfl | hz
      · exact hm2.ok (by omega)
      rcases List.mem_cons.mp hz with rfl | hz
      · exact (hm.take 1).ok (by rw [List.length_take]; omega)
      rcases List.mem_cons.mp hz with rfl | hz
      · exact Lts.ok (fun c hc => by simp at hc) (by simp)
      · rw [List.mem_singleton.mp hz]
        exact ok0
    refine ⟨lp, rfl, ⟨_, SqL.of upd_same⟩, ?_⟩
    have hS10 := same_new nlp (.lst ([tS m1, tS m2, cutS (textOf P' R) none (some 1), Str.ofString "", x0].map V.str))
    have hlp : upd H9 lp (.lst ([tS m1, tS m2, cutS (textOf P' R) none (some 1), Str.ofString "", x0].map V.str)) lp = some (.lst ([tS m1, tS m2, cutS (textOf P' R) none (some 1), Str.ofString "", x0].map V.str)) := upd_same
    refine for_list (K := K) (a := lp) (xs := [tS m1, tS m2, cutS (textOf P' R) none (some 1), Str.ofString "", x0].map V.str) (fun j σ H' => Same (upd H9 lp (.lst ([tS m1, tS m2, cutS (textOf P' R) none (some 1), Str.ofString "", x0].map V.str))) H' ∧ ∃ v8 : Option V, σ = [some (.ref a), some (.ref x), some (.ref pl), some (.ref tl), some (.int (0 + (i : Int))), some (.ref f), some (.str (textOf P' R)), some (.str (textOf P' R)), v8]) ⟨Same.refl _, v8, rfl⟩ (fun j σ H' _ ⟨hS', _⟩ => SqL.of (hS' _ _ hlp)) ?_ ?_
    · rintro j y σ H11 hy ⟨hS11, v8, rfl⟩
      obtain ⟨z, hz, rfl⟩ := str_at hy
      have okz := hit z (List.mem_of_getElem? hz)
      have hS911 := hS10.trans hS11
      have hw11 := hwS.same (hS9.trans hS911)
      obtain ⟨dxb, pab, pbb, yb, hb1, _⟩ := id hw11
      refine ⟨_, rfl, x, dxb, _, rfl, hb1, wfP_no _ _ _ (by decide +kernel) (by decide +kernel) (by decide +kernel), _, rfl, x, P', W', ts, s, z, rfl, hw11, hP, okz, fun u1 H12 hS12 hu1 => ?_⟩
      refine ⟨_, rfl, _, rfl, pl, P', s, z, rfl, hS12 _ _ (hS911 _ _ hpl9), hP.p, okz.len, fun u2 H13 hS13 hu2 => ?_⟩
      obtain ⟨d0, d1, d2, d3, d4⟩ := (hu1.same hS13).dp (K := K) o6 hu2
      exact ⟨d0, d0, d1, d2, d3, d3, _, rfl, iteNb d4 ⟨hS11.trans (hS12.trans hS13), _, rfl⟩⟩
    · rintro σ H11 ⟨hS11, v8, rfl⟩
      have hS911 := hS10.trans hS11
      exact ⟨_, _, _, _, _, rfl, hp9.same hS911, hS9.trans hS911, hS911 _ _ hpl9, hT9.same hS911⟩
  · rintro σ H1 ⟨v4, v5, v6, v7, v8, rfl, hp1, hS1, hpl1, hT1⟩
    exact q _
end
end My
namespace My
open PySem L2 PyProof.Rows
theorem sort_sort (L : List Str) (hn : L.Nodup) : (L.mergeSort leS).mergeSort leS = L.mergeSort leS := by
  have hp := List.mergeSort_perm L leS
  exact (sorted_same (texts_of hn) (hp.nodup_iff.mpr hn)).mpr (fun k => Iff.rfl) |>.symm
theorem sort_rev (L : List Str) (hn : L.Nodup) : L.reverse.mergeSort leS = L.mergeSort leS := by
  have hn2 : L.reverse.Nodup := (List.reverse_perm L).nodup_iff.mpr hn
  refine (sorted_same (texts_of hn2) hn).mpr fun k => ?_
  rw [(List.mergeSort_perm L.reverse leS).mem_iff, List.mem_reverse]
theorem sort_tail {L : List Str} (h : 0 < L.length) : ¬ L.mergeSort leS = (L.drop 1).mergeSort leS := fun e => by
  have := congrArg List.length e
  rw [(List.mergeSort_perm L leS).length_eq, (List.mergeSort_perm (L.drop 1) leS).length_eq, List.length_drop] at this
  omega
theorem OkP.tail {L : List Str} {s : Nat} (h : OkP L s) (k : 1 < L.length) : OkP (L.drop 1) s := by
  obtain ⟨h1, h2, h3, h4, h5, h6⟩ := h
  exact ⟨by rw [List.length_drop]; omega, by rw [List.length_drop]; omega, fun x hx => h3 x (List.mem_of_mem_drop hx), h4, h5, h6.sublist (List.drop_sublist 1 L)⟩
theorem words_ok {P W : List Str} (hW : IsWords P W) (h : ∀ x ∈ P, OkT x) : ∀ x ∈ W, OkT x := by
  intro x hx
  have part : ∀ z ∈ P, OkT (fst_ z) ∧ OkT (lst_ z) := fun z hz => by
    have o := h z hz
    have e := str_tS z
    have l : z.cps.toList.length ≤ 400 := by rw [str_len]; exact o.len
    have hl : Lts z.cps.toList := o.let_
    rw [e, fst_tS, lst_tS]
    exact ⟨(hl.sub fun c hc => List.dropLast_subset _ hc).ok (by rw [List.length_dropLast]; omega), (hl.drop 1).ok (by rw [List.length_drop]; omega)⟩
  rcases List.mem_append.mp ((hW.2 x).mp hx) with hx | hx
  · obtain ⟨z, hz, rfl⟩ := List.mem_map.mp hx
    exact (part z hz).1
  · obtain ⟨z, hz, rfl⟩ := List.mem_map.mp hx
    exact (part z hz).2
theorem eqv_st (L : List Str) : PyData.eqv (.list (L.map PyData.str)) (.list (L.map PyData.str)) = true := by
  rw [eqv_s]
  exact decide_eq_true rfl
section
variable {P : Program} {w : World} {K : PySem.W.Frag} {mg : Str → Option Value} {base : Heap} {C C2 : Addr}
def sp_law_right (_ : PySem.W.Frag) (_ _ : Addr) : Sp := fun vs H Q _ => ∃ a, vs = [.ref a] ∧ PotAt H a ∧ ∀ H', Q (.bl true) H'
theorem ok_law_right (D : Def K mg "_law_right" s_law_right ["_law_pot_here"]) (B : Bs mg) (Glb : Glo mg) (WK : WebK K mg C) (PK : PieceK K mg C2)
    (h_law_pieces_drawn : Good P w K mg base "_law_pieces_drawn" s_law_pieces_drawn ["_law_pot_here", "_law_size", "_law_most"] 3 (sp_law_pieces_drawn K C C2))
    (h_law_texts_right : Good P w K mg base "_law_texts_right" s_law_texts_right ["_law_pot_here", "_law_web", "_law_pieces", "_law_ties_here"] 10 (sp_law_texts_right K C C2))
    (h_law_draw : Good P w K mg base "_law_draw" s_law_draw ["_law_pot_here", "_law_size"] 1 (sp_law_draw K C C2))
    (h_law_words : Good P w K mg base "_law_words" s_law_words ["_law_pieces"] 1 (sp_law_words K C C2))
    (h_law_ties : Good P w K mg base "_law_ties" s_law_ties ["_law_pieces"] 2 (sp_law_ties K C C2))
    (hWeb___eq__ : GoodM P w K mg base C "__eq__" "Web.__eq__" sWeb___eq__ ["self", "other"] 1 (spWeb___eq__ K C C2))
    (hPieceWeb___eq__ : GoodM P w K mg base C2 "__eq__" "PieceWeb.__eq__" sPieceWeb___eq__ ["self", "other"] 1 (spPieceWeb___eq__ K C C2))
    (hPieceWeb___init__ : GoodI P w K mg base C2 "__init__" "PieceWeb.__init__" sPieceWeb___init__ ["self", "pieces"] 8 (spPieceWeb___init__ K C C2))
    (hPieceWeb_size : GoodP P w K mg base C2 "size" "PieceWeb.size" sPieceWeb_size ["self"] 1 (spPieceWeb_size K C C2))
    (hPieceWeb_pieces : GoodM P w K mg base C2 "pieces" "PieceWeb.pieces" sPieceWeb_pieces ["self"] 1 (spPieceWeb_pieces K C C2))
    (hPieceWeb_words : GoodM P w K mg base C2 "words" "PieceWeb.words" sPieceWeb_words ["self"] 1 (spPieceWeb_words K C C2))
    (hWeb___init__ : GoodI P w K mg base C "__init__" "Web.__init__" sWeb___init__ ["self", "places", "ties"] 5 (spWeb___init__ K C C2))
    (hWeb_ties : GoodM P w K mg base C "ties" "Web.ties" sWeb_ties ["self"] 1 (spWeb_ties K C C2))
    (hPieceWeb_word_at : GoodM P w K mg base C2 "word_at" "PieceWeb.word_at" sPieceWeb_word_at ["self", "place"] 5 (spPieceWeb_word_at K C C2))
    (hPieceWeb_letter_of : GoodM P w K mg base C2 "letter_of" "PieceWeb.letter_of" sPieceWeb_letter_of ["self", "tie"] 5 (spPieceWeb_letter_of K C C2))
    (hPieceWeb_web : GoodM P w K mg base C2 "web" "PieceWeb.web" sPieceWeb_web ["self"] 8 (spPieceWeb_web K C C2)) :
    Good P w K mg base "_law_right" s_law_right ["_law_pot_here"] 11 (sp_law_right K C C2) := by
  refine D.good fun f fd F => ?_
  obtain ⟨f_law_pieces_drawn, d_law_pieces_drawn, O_law_pieces_drawn, m_law_pieces_drawn, k_law_pieces_drawn, b_law_pieces_drawn, F_law_pieces_drawn⟩ := h_law_pieces_drawn
  obtain ⟨f_law_texts_right, d_law_texts_right, O_law_texts_right, m_law_texts_right, k_law_texts_right, b_law_texts_right, F_law_texts_right⟩ := h_law_texts_right
  obtain ⟨f_law_draw, d_law_draw, O_law_draw, m_law_draw, k_law_draw, b_law_draw, F_law_draw⟩ := h_law_draw
  obtain ⟨f_law_words, d_law_words, O_law_words, m_law_words, k_law_words, b_law_words, F_law_words⟩ := h_law_words
  obtain ⟨f_law_ties, d_law_ties, O_law_ties, m_law_ties, k_law_ties, b_law_ties, F_law_ties⟩ := h_law_ties
  obtain ⟨fWeb___eq__, dWeb___eq__, OWeb___eq__, tWeb___eq__, bWeb___eq__, FWeb___eq__⟩ := hWeb___eq__
  obtain ⟨fPieceWeb___eq__, dPieceWeb___eq__, OPieceWeb___eq__, tPieceWeb___eq__, bPieceWeb___eq__, FPieceWeb___eq__⟩ := hPieceWeb___eq__
  obtain ⟨fPieceWeb___init__, dPieceWeb___init__, OPieceWeb___init__, MKPieceWeb, bPieceWeb___init__⟩ := hPieceWeb___init__
  obtain ⟨qPieceWeb_size, fPieceWeb_size, dPieceWeb_size, OPieceWeb_size, pPieceWeb_size, bPieceWeb_size⟩ := hPieceWeb_size
  obtain ⟨fPieceWeb_pieces, dPieceWeb_pieces, OPieceWeb_pieces, tPieceWeb_pieces, bPieceWeb_pieces, FPieceWeb_pieces⟩ := hPieceWeb_pieces
  obtain ⟨fPieceWeb_words, dPieceWeb_words, OPieceWeb_words, tPieceWeb_words, bPieceWeb_words, FPieceWeb_words⟩ := hPieceWeb_words
  obtain ⟨fWeb___init__, dWeb___init__, OWeb___init__, MKWeb, bWeb___init__⟩ := hWeb___init__
  obtain ⟨fWeb_ties, dWeb_ties, OWeb_ties, tWeb_ties, bWeb_ties, FWeb_ties⟩ := hWeb_ties
  obtain ⟨fPieceWeb_word_at, dPieceWeb_word_at, OPieceWeb_word_at, tPieceWeb_word_at, bPieceWeb_word_at, FPieceWeb_word_at⟩ := hPieceWeb_word_at
  obtain ⟨fPieceWeb_letter_of, dPieceWeb_letter_of, OPieceWeb_letter_of, tPieceWeb_letter_of, bPieceWeb_letter_of, FPieceWeb_letter_of⟩ := hPieceWeb_letter_of
  obtain ⟨fPieceWeb_web, dPieceWeb_web, OPieceWeb_web, tPieceWeb_web, bPieceWeb_web, FPieceWeb_web⟩ := hPieceWeb_web
  have kb_PieceWeb_word_at_place : KBinds K dPieceWeb_word_at ["self", "place"] ["place"] gm1 gm1 := fun_kbinds FPieceWeb_word_at gm1 gm1 relm1 (fun _ _ _ _ _ _ us ws hl => by
    obtain ⟨a0, a1, rfl, rfl⟩ := gm1_inv hl
    rfl)
  refine F.ok sc_law_right (fun vs H Q E h => ?_) (fun cdv A outer s H vs Q E hr h => ?_)
  · obtain ⟨a, rfl, hp, q⟩ := h
    first | rfl | (rcases h with ⟨_, _, rfl, _⟩ | ⟨_, rfl, _⟩ <;> rfl)
  obtain ⟨a, rfl, hp, q⟩ := h
  refine ⟨_, (pss_cons (ps_set (i := 1) sc_law_right.nd rfl (by first | exact Or.inl rfl | exact Or.inr rfl) (pe_op op_add pe_int (pe_call O_law_draw (hr.mono (by decide)) rfl m_law_draw k_law_draw b_law_draw .nil pass0 (pa_cons (pv 0) (pa_cons pe_int pa_nil)))))
  (pss_cons (ps_set (i := 2) sc_law_right.nd rfl (by first | exact Or.inl rfl | exact Or.inr rfl) (pe_call O_law_pieces_drawn (hr.mono (by decide)) rfl m_law_pieces_drawn k_law_pieces_drawn b_law_pieces_drawn .nil pass0 (pa_cons (pv 0) (pa_cons (pv 1) (pa_cons pe_int pa_nil)))))
  (pss_cons (ps_asg (pe_tup (pa_cons (pe_callB (cr_sortSq hr.units) (by rfl) B.sorted (by decide +kernel) (pa_cons (pv 2) pa_nil)) (pa_cons (pe_make MKPieceWeb OPieceWeb___init__ (hr.mono (by decide)) rfl PK.mgC bPieceWeb___init__ .nil pass0 (pa_cons (pv 2) pa_nil)) pa_nil))) (pg_tup rfl (pgs_cons (pg_name (i := 3) sc_law_right.nd rfl (by first | exact Or.inl rfl | exact Or.inr rfl)) (pgs_cons (pg_name (i := 4) sc_law_right.nd rfl (by first | exact Or.inl rfl | exact Or.inr rfl)) pgs_nil))))
  (pss_cons (ps_par (i := 5) (j := 6) (by rfl) sc_law_right.nd rfl rfl (by decide) rfl rfl (pa_cons (pe_call O_law_words (hr.mono (by decide)) rfl m_law_words k_law_words b_law_words .nil pass0 (pa_cons (pv 3) pa_nil)) (pa_cons (pe_call O_law_ties (hr.mono (by decide)) rfl m_law_ties k_law_ties b_law_ties .nil pass0 (pa_cons (pv 3) pa_nil)) pa_nil)) (by rfl))
  (pss_cons (ps_if (PW.pt (pw_or (pt_cmpR op_ne (pe_prop (pv 4) PK.cl pPieceWeb_size OPieceWeb_size (hr.mono (by decide)) bPieceWeb_size .nil pass0 (by rfl)) (pv 1) (nomark _)) (pw_or (pt_cmpR (op_neD hr.units) (pe_meth0 (pv 4) PK.cl tPieceWeb_pieces OPieceWeb_pieces (hr.mono (by decide)) bPieceWeb_pieces .nil pass0) (pv 3) (nomark _)) (pw_or1 (pt_cmpR (op_neD hr.units) (pe_meth0 (pv 4) PK.cl tPieceWeb_words OPieceWeb_words (hr.mono (by decide)) bPieceWeb_words .nil pass0) (pv 5) (nomark _))))))
    (pss_one (ps_ret pe_bl)) pss_nil)
  (pss_cons (ps_if (PW.pt (pw_or (pt_not (pt_cmpR (op_eqOwn OWeb___eq__ (hr.mono (by decide)) tWeb___eq__.at_ tWeb___eq__.fn bWeb___eq__ pass0) (pe_meth0 (pv 4) PK.cl tPieceWeb_web OPieceWeb_web (hr.mono (by decide)) bPieceWeb_web .nil pass0) (pe_make MKWeb OWeb___init__ (hr.mono (by decide)) rfl WK.mgC bWeb___init__ .nil pass0 (pa_cons (pe_callB call_len_seq (by rfl) B.len (by decide +kernel) (pa_cons (pv 5) pa_nil)) (pa_cons (pv 6) pa_nil))) (nomark _))) (pw_or1 (pt_cmpR (op_neD hr.units) (pe_meth0 (pe_meth0 (pv 4) PK.cl tPieceWeb_web OPieceWeb_web (hr.mono (by decide)) bPieceWeb_web .nil pass0) WK.cl tWeb_ties OWeb_ties (hr.mono (by decide)) bWeb_ties .nil pass0) (pv 6) (nomark _)))))
    (pss_one (ps_ret pe_bl)) pss_nil)
  (pss_cons (ps_if (pt_cmpR (op_neD hr.units) (pe_lc (own := [("_law_at", 8)]) (g := gName 8) (by rfl) sc_law_right.nd (pi_range1 (by rfl) B.range (pa_cons (pe_callB call_len_seq (by rfl) B.len (by decide +kernel) (pa_cons (pv 5) pa_nil)) pa_nil)) (blkOk_by (own := [("_law_at", 8)]) (N := ["_law_pot_here", "_law_size", "_law_drawn", "_law_pieces", "_law_web", "_law_words_here", "_law_ties_here", "_law_other", "_law_at", "_law_piece"]) (sc := defScope s_law_right) (by decide +kernel)) (fun _ _ _ _ _ => (pg_name (i := 8) sc_law_right.nd rfl (by first | exact Or.inl rfl | exact Or.inr rfl))) (fun _ _ _ _ _ => pts_nil) (fun _ _ _ _ _ => (pe_methKK (pv 4) PK.cl tPieceWeb_word_at OPieceWeb_word_at (hr.mono (by decide)) kb_PieceWeb_word_at_place pass0 (pk_cons (pv 8) pk_nil)))) (pv 5) (nomark _))
    (pss_one (ps_ret pe_bl)) pss_nil)
  (pss_cons (ps_if (pt_cmpR (op_neD hr.units) (pe_lc (own := [("_law_at", 8)]) (g := gName 8) (by rfl) sc_law_right.nd (pi_range1 (by rfl) B.range (pa_cons (pe_callB call_len_seq (by rfl) B.len (by decide +kernel) (pa_cons (pv 6) pa_nil)) pa_nil)) (blkOk_by (own := [("_law_at", 8)]) (N := ["_law_pot_here", "_law_size", "_law_drawn", "_law_pieces", "_law_web", "_law_words_here", "_law_ties_here", "_law_other", "_law_at", "_law_piece"]) (sc := defScope s_law_right) (by decide +kernel)) (fun _ _ _ _ _ => (pg_name (i := 8) sc_law_right.nd rfl (by first | exact Or.inl rfl | exact Or.inr rfl))) (fun _ _ _ _ _ => pts_nil) (fun _ _ _ _ _ => (pe_meth (pv 4) PK.cl tPieceWeb_letter_of OPieceWeb_letter_of (hr.mono (by decide)) bPieceWeb_letter_of .nil pass0 (pa_cons (pv 8) pa_nil)))) (pe_lc (own := [("_law_piece", 9)]) (g := gName 9) (by rfl) sc_law_right.nd (pi_list (pv 3)) (blkOk_by (own := [("_law_piece", 9)]) (N := ["_law_pot_here", "_law_size", "_law_drawn", "_law_pieces", "_law_web", "_law_words_here", "_law_ties_here", "_law_other", "_law_at", "_law_piece"]) (sc := defScope s_law_right) (by decide +kernel)) (fun _ _ _ _ _ => (pg_name (i := 9) sc_law_right.nd rfl (by first | exact Or.inl rfl | exact Or.inr rfl))) (fun _ _ _ _ _ => pts_nil) (fun _ _ _ _ _ => (pe_ix ix_str (pv 9) (pe_un un_neg pe_int) (by exact fun _ _ => rfl)))) (nomark _))
    (pss_one (ps_ret pe_bl)) pss_nil)
  (pss_cons (ps_expr (pe_bm PySem.F.plainAttrs_list PySem.F.slot_list_append PySem.F.type_list_append mt_append (pe_meth0 (pv 4) PK.cl tPieceWeb_pieces OPieceWeb_pieces (hr.mono (by decide)) bPieceWeb_pieces .nil pass0) (pa_cons pe_non pa_nil)))
  (pss_cons (ps_expr (pe_bm PySem.F.plainAttrs_list PySem.F.slot_list_append PySem.F.type_list_append mt_append (pe_meth0 (pv 4) PK.cl tPieceWeb_words OPieceWeb_words (hr.mono (by decide)) bPieceWeb_words .nil pass0) (pa_cons pe_non pa_nil)))
  (pss_cons (ps_set (i := 7) sc_law_right.nd rfl (by first | exact Or.inl rfl | exact Or.inr rfl) (pe_make MKPieceWeb OPieceWeb___init__ (hr.mono (by decide)) rfl PK.mgC bPieceWeb___init__ .nil pass0 (pa_cons (pe_callTy call_tuple_of (by rfl) B.tuple (by decide +kernel) (pa_cons (pe_revL (pv 2)) pa_nil)) pa_nil)))
  (pss_cons (ps_if (PW.pt (pw_or (pt_cmpR (op_neD hr.units) (pe_meth0 (pv 4) PK.cl tPieceWeb_pieces OPieceWeb_pieces (hr.mono (by decide)) bPieceWeb_pieces .nil pass0) (pv 3) (nomark _)) (pw_or (pt_cmpR (op_neD hr.units) (pe_meth0 (pv 4) PK.cl tPieceWeb_words OPieceWeb_words (hr.mono (by decide)) bPieceWeb_words .nil pass0) (pv 5) (nomark _)) (pw_or (pt_not (pt_cmpR (op_eqOwn OPieceWeb___eq__ (hr.mono (by decide)) tPieceWeb___eq__.at_ tPieceWeb___eq__.fn bPieceWeb___eq__ pass0) (pv 4) (pv 7) (nomark _))) (pw_or1 (pt_cmpR (op_eqLst OPieceWeb___eq__ (hr.mono (by decide)) tPieceWeb___eq__.at_ tPieceWeb___eq__.fn PK.nl bPieceWeb___eq__ pass0) (pv 4) (pv 3) (nomark _)))))))
    (pss_one (ps_ret pe_bl)) pss_nil)
  (pss_cons (ps_if (PW.pt (pw_and (pt_cmpR op_gt (pe_callB call_len_seq (by rfl) B.len (by decide +kernel) (pa_cons (pv 2) pa_nil)) pe_int (nomark _)) (pw_and1 (pt_cmpR (op_eqOwn OPieceWeb___eq__ (hr.mono (by decide)) tPieceWeb___eq__.at_ tPieceWeb___eq__.fn bPieceWeb___eq__ pass0) (pv 4) (pe_make MKPieceWeb OPieceWeb___init__ (hr.mono (by decide)) rfl PK.mgC bPieceWeb___init__ .nil pass0 (pa_cons (pe_slice sl_list (pv 2) (po_some pe_int) po_none) pa_nil)) (nomark _)))))
    (pss_one (ps_ret pe_bl)) pss_nil)
  (pss_one (ps_ret (pe_call O_law_texts_right hr rfl m_law_texts_right k_law_texts_right b_law_texts_right .nil pass0 (pa_cons (pv 0) (pa_cons (pv 4) (pa_cons (pv 3) (pa_cons (pv 6) pa_nil)))))))))))))))))))), ?_⟩
  refine ⟨_, rfl, a, 3, rfl, hp, by decide, by decide, fun d1 H1 hd1 hk1 hp1 => ⟨_, _, rfl, rfl, ?_⟩⟩
  refine ⟨_, rfl, _, rfl, a, 2 + d1, rfl, hp1, by omega, by omega, fun dl L H2 hO ndl hdla hdl2 hk2 hp2 => ?_⟩
  obtain ⟨s, es⟩ : ∃ s, s = 2 + d1 := ⟨_, rfl⟩
  rw [← es] at hO
  obtain ⟨o1, o2, o3, o4, o5, o6⟩ := id hO
  refine ⟨_, rfl, dl, L, rfl, .inl (SqL.of hdl2), by omega, fun pl npl => ?_⟩
  have hpa : pl ≠ a := hp2.ne npl
  have hp3 := hp2.new (o := .lst ((L.mergeSort leS).map V.str)) npl
  have hdl3 := same_new npl (.lst ((L.mergeSort leS).map V.str)) _ _ hdl2
  have hpl3 : upd H2 pl (.lst ((L.mergeSort leS).map V.str)) pl = some (.lst ((L.mergeSort leS).map V.str)) := upd_same
  generalize upd H2 pl (.lst ((L.mergeSort leS).map V.str)) = H3 at hp3 hdl3 hpl3
  refine ⟨_, rfl, fun x dx nx ndx ndxx => ?_⟩
  have hS34 : Same H3 (upd (upd H3 dx (.own x)) x (.ins C2 dx [])) := fun b o e => by
    rw [upd_ne (ne_of_none e nx), upd_ne (ne_of_none e ndx)]
    exact e
  refine ⟨x, dx, dl, L, s, rfl, upd_same, .inl (hS34 _ _ hdl3), hO, fun H5 W ts S hPW hwS hSS hNew hk5 => ⟨rfl, ?_⟩⟩
  have hax : a ≠ x := by
    obtain ⟨u, v, e, _⟩ := hp3
    exact ne_of_none e nx
  have hS35 : Same H3 H5 := fun b o e => hk5 _ _ (hS34 _ _ e) (ne_of_none e nx)
  have hp5 := hp3.same hS35
  have hSa0 : S a = none := by
    cases e : S a with
    | none => rfl
    | some o =>
      obtain ⟨u, v, e1, _⟩ := hp3.same hS34
      rcases hNew a o e with z | z | ⟨xs, z⟩
      · rw [e1] at z; cases z
      · exact absurd z hax
      · obtain ⟨u, v, e2, _⟩ := hp5
        have e3 := hSS _ _ e
        rw [e2] at e3
        cases e3
        cases z
  have hdl5 := hS35 _ _ hdl3
  have hpl5 := hS35 _ _ hpl3
  obtain ⟨P', eP⟩ : ∃ P', P' = L.mergeSort leS := ⟨_, rfl⟩
  rw [← eP] at hPW hwS hpl5
  clear hpl3 hdl3 hk5 hNew hS34
  refine ⟨(by show 2 ≤ sizeLine; decide), fun tp ntp => ?_⟩
  refine ⟨tp, _, rfl, SqT.of upd_same, rfl, _, _, rfl, _, _, rfl, rfl, ?_⟩
  have hS56 := same_new ntp (.tup [.ref pl, .ref x])
  have hSS6 := hSS.trans hS56
  have hp6 := hp5.same hS56
  have hdl6 := hS56 _ _ hdl5
  have hpl6 := hS56 _ _ hpl5
  generalize upd H5 tp (.tup [.ref pl, .ref x]) = H6 at hSS6 hp6 hdl6 hpl6
  clear hS56
  have hokP : ∀ z ∈ P', OkT z := fun z hz => (hPW.p.2.2.1 z hz).1
  have hPlen : P'.length ≤ 30 := hPW.p.2.1
  have h8 : ∀ z ∈ P', z.length ≤ 8 := fun z hz => by have := (hPW.p.2.2.1 z hz).2; omega
  have hnP : P'.Nodup := hPW.p.2.2.2.2.2
  refine ⟨_, rfl, pl, P', rfl, hpl6, by omega, h8, fun H7 wl W1 hS7 nwl hwl7 hW1 => ?_⟩
  have eW := hW1.unique hPW.w
  subst eW
  refine ⟨_, rfl, pl, P', rfl, hS7 _ _ hpl6, by omega, h8, fun H8 tl W2 us hS8 ntl hT8 hW2 hus => ?_⟩
  have eW := hW2.unique hPW.w
  subst eW
  rw [eP, sort_sort L o6, ← eP] at hus
  have ets := hus.unique hPW.w.nodup hPW.t
  subst ets
  have hS68 := hS7.trans hS8
  have hSS8 := hSS6.trans hS68
  have hp8 := hp6.same hS68
  have hdl8 := hS68 _ _ hdl6
  have hpl8 := hS68 _ _ hpl6
  have hwl8 := hS8 _ _ hwl7
  have hta : tl ≠ a := (hp6.same hS7).ne ntl
  have hokW := words_ok hPW.w hokP
  clear hk1 hk2 hp1 hp2 hp3 hp5 hp6 hdl2 hdl5 hdl6 hpl5 hpl6 hSS hSS6 hS7 hS8 hS68 hS35
  have hm : W2.length ≤ 60 := hPW.o.n1
  have webAt : ∀ H', Same H8 H' → PieceAt C C2 x P' W2 us H' := fun H' h => hwS.same (hSS8.trans h)
  obtain ⟨dx, pa, pb, y0, h18, _⟩ := id (webAt H8 (Same.refl _))
  have xIs : ∀ H', Same H8 H' → H' x = some (.ins C2 dx (wfP pa pb y0)) := fun H' h => h _ _ h18
  refine ⟨_, _, rfl, ?_⟩
  refine ⟨_, rfl, x, dx, _, rfl, h18, x, P', W2, us, s, rfl, webAt _ (Same.refl _), hPW.p, _, rfl, rfl, _, rfl, iteNot' (by rw [es]; rfl) ?_⟩
  refine ⟨_, rfl, x, dx, _, rfl, h18, wfP_no _ _ _ (by decide +kernel) (by decide +kernel) (by decide +kernel), x, P', W2, us, rfl, webAt _ (Same.refl _), fun p1 np1 => ?_⟩
  have hS9 := same_new np1 (.lst (P'.map V.str))
  have hp19 : upd H8 p1 (.lst (P'.map V.str)) p1 = some (.lst (P'.map V.str)) := upd_same
  generalize upd H8 p1 (.lst (P'.map V.str)) = H9 at hS9 hp19
  refine ⟨_, rfl, _, _, dp_ls hp19, dp_ls (hS9 _ _ hpl8), shaped_st hokP, shaped_st hokP, _, rfl, iteNb (eqv_st _) ?_⟩
  refine ⟨_, rfl, x, dx, _, rfl, xIs _ hS9, wfP_no _ _ _ (by decide +kernel) (by decide +kernel) (by decide +kernel), x, P', W2, us, rfl, webAt _ hS9, fun p2 np2 => ?_⟩
  have hSa := hS9.trans (same_new np2 (.lst (W2.map V.str)))
  have hp2a : upd H9 p2 (.lst (W2.map V.str)) p2 = some (.lst (W2.map V.str)) := upd_same
  generalize upd H9 p2 (.lst (W2.map V.str)) = Ha at hSa hp2a
  refine ⟨_, rfl, _, _, dp_ls hp2a, dp_ls (hSa _ _ hwl8), shaped_st hokW, shaped_st hokW, _, rfl, iteNb (eqv_st _) ?_⟩
  clear hp19 hp2a hS9
  refine ⟨_, rfl, x, dx, _, rfl, xIs _ hSa, wfP_no _ _ _ (by decide +kernel) (by decide +kernel) (by decide +kernel), x, P', W2, us, rfl, webAt _ hSa, hPW.o, fun y Hb S' hwy hSy _ hSb => ?_⟩
  have hSb := hSa.trans hSb
  refine ⟨_, rfl, wl, _, rfl, .inl (SqL.of (hSb _ _ hwl8)), _, rfl, fun z dz nz ndz ndzz => ?_⟩
  have hSbc : Same Hb (upd (upd Hb dz (.own z)) z (.ins C dz [])) := fun b o e => by
    rw [upd_ne (ne_of_none e nz), upd_ne (ne_of_none e ndz)]
    exact e
  refine ⟨z, dz, W2.length, tl, us, by rw [List.length_map]; rfl, hPW.o, (hT8.same hSb).same hSbc, upd_same, fun Hc hkc hwz => ⟨rfl, ?_⟩⟩
  have hSbd : Same Hb Hc := fun b o e => hkc _ _ (hSbc _ _ e) (ne_of_none e nz)
  have hwyc := (hwy.same hSy).same hSbd
  have hwzc := hwz.same Sub.same
  obtain ⟨dy, y1, y2, y3, hy1, _⟩ := id hwyc
  obtain ⟨dz2, z1, z2, z3, hz1, _⟩ := id hwzc
  refine ⟨y, z, _, _, _, _, rfl, rfl, hy1, hz1, y, z, W2.length, us, rfl, hwyc, hwzc, _, rfl, _, rfl, iteF ?_⟩
  have hSc := hSb.trans hSbd
  clear hwyc hwzc hy1 hz1 hkc hwz hSbd hSbc hSb hwy hSy hSa
  refine ⟨_, rfl, x, dx, _, rfl, xIs _ hSc, wfP_no _ _ _ (by decide +kernel) (by decide +kernel) (by decide +kernel), x, P', W2, us, rfl, webAt _ hSc, hPW.o, fun v Hd S2 hwv hSv _ hSd => ?_⟩
  have hSd := hSc.trans hSd
  have hwv := hwv.same hSv
  obtain ⟨dv, v1, v2, v3, hv1, _⟩ := id hwv
  refine ⟨v, dv, _, rfl, hv1, wf_no _ _ _ _ (by decide +kernel) (by decide +kernel) (by decide +kernel) (by decide +kernel), v, W2.length, us, rfl, hwv, fun He t2 nt2 hSe hTe => ?_⟩
  have hSe := hSd.trans hSe
  refine ⟨_, rfl, _, _, dp_tz hTe, dp_tz (hT8.same hSe), shaped_tz _, shaped_tz _, _, rfl, iteNb (eqv_tzs us) ?_⟩
  clear hTe hwv hv1 hSd hSv hSc
  -- the words
  refine ⟨_, rfl, wl, _, rfl, .inl (SqL.of (hSe _ _ hwl8)), _, rfl, by omega, by rw [List.length_map]; omega, fun D1 nD1 => ?_⟩
  rw [List.length_map, show (((W2.length : Nat) : Int)).toNat = W2.length by omega]
  refine lc_range (lo := 0) (n := W2.length) (fun i H' => Same He H' ∧ H' D1 = some (.lst ((W2.take i).map V.str))) ⟨same_new nD1 _, upd_same⟩ ?_ ?_
  · rintro i Hf hi ⟨hSf, hDf⟩
    rw [Int.zero_add]
    have hSf2 := hSe.trans hSf
    refine ⟨rfl, _, rfl, x, dx, _, rfl, xIs _ hSf2, wfP_no _ _ _ (by decide +kernel) (by decide +kernel) (by decide +kernel), _, rfl, x, P', W2, us, i, _, rfl, webAt _ hSf2, List.getElem?_eq_getElem hi, _, hDf, ?_, same_upd hSf nD1, ?_⟩
    · rw [List.length_map, List.length_take]
      exact Nat.lt_of_lt_of_le (by omega : _ < 1000) (by decide)
    · rw [upd_same, take_snoc (List.getElem?_eq_getElem hi), List.map_append]
      rfl
  rintro Hf ⟨hSf, hDf⟩
  rw [List.take_length] at hDf
  have hSf := hSe.trans hSf
  refine ⟨_, rfl, _, _, dp_ls hDf, dp_ls (hSf _ _ hwl8), shaped_st hokW, shaped_st hokW, _, rfl, iteNb (eqv_st _) ?_⟩
  clear hDf hSe
  -- the letters
  obtain ⟨xs, hxs, hxl⟩ := (hT8.same hSf).get
  have hul : us.length = P'.length := hPW.t.1
  refine ⟨_, rfl, tl, _, rfl, .inl (SqL.of hxs), _, rfl, by omega, by omega, fun D2 nD2 => ?_⟩
  rw [hxl, hul, show (((P'.length : Nat) : Int)).toNat = P'.length by omega]
  have hltl : ∀ i : Nat, ((((P'.take i).map fun z => (⟨#[ltr z]⟩ : Str)).map V.str).length) < sizeLine := fun i => by
    rw [List.length_map, List.length_map, List.length_take]
    exact Nat.lt_of_lt_of_le (by omega : _ < 1000) (by decide)
  refine lc_range (lo := 0) (n := P'.length) (fun i H' => Same Hf H' ∧ H' D2 = some (.lst (((P'.take i).map fun z => (⟨#[ltr z]⟩ : Str)).map V.str))) ⟨same_new nD2 _, upd_same⟩ ?_ ?_
  · rintro i Hg hi ⟨hSg, hDg⟩
    rw [Int.zero_add]
    have hSg2 := hSf.trans hSg
    refine ⟨rfl, _, rfl, x, dx, _, rfl, xIs _ hSg2, wfP_no _ _ _ (by decide +kernel) (by decide +kernel) (by decide +kernel), _, rfl, x, P', W2, us, s, i, rfl, webAt _ hSg2, hPW, hi, _, hDg, hltl i, same_upd hSg nD2, ?_⟩
    rw [upd_same, take_snoc (pce_at hi), List.map_append, List.map_append]
    rfl
  rintro Hg ⟨hSg, hDg⟩
  rw [List.take_length] at hDg
  have hSg2 := hSf.trans hSg
  refine ⟨_, rfl, pl, rfl, ⟨_, SqL.of (hSg2 _ _ hpl8)⟩, fun D3 nD3 => ?_⟩
  refine lc_list (K := K) (a := pl) (xs := P'.map V.str) (fun i H' => Same Hg H' ∧ H' D3 = some (.lst (((P'.take i).map fun z => (⟨#[ltr z]⟩ : Str)).map V.str))) ⟨same_new nD3 _, upd_same⟩ (fun i H' _ ⟨hS', _⟩ => SqL.of (hS' _ _ (hSg2 _ _ hpl8))) ?_ ?_
  · rintro i y Hh hy ⟨hSh, hDh⟩
    obtain ⟨z, hz, rfl⟩ := str_at hy
    have hzl := (hPW.p.2.2.1 z (List.mem_of_getElem? hz)).2
    refine ⟨rfl, _, rfl, _, rfl, _, _, _, rfl, rfl, line400 (by omega), ltr_at (by omega), _, hDh, hltl i, same_upd hSh nD3, ?_⟩
    rw [upd_same, take_snoc hz, List.map_append, List.map_append]
    rfl
  rintro Hh ⟨hSh, hDh⟩
  rw [List.length_map, List.take_length] at hDh
  have hSh2 := hSg2.trans hSh
  have hokL : ∀ z ∈ P'.map fun z => (⟨#[ltr z]⟩ : Str), OkT z := by
    intro z hz
    obtain ⟨y, hy, rfl⟩ := List.mem_map.mp hz
    have o := hPW.p.2.2.1 y hy
    have e := str_tS y
    have hy0 : 0 < y.cps.toList.length := by rw [str_len]; omega
    have e2 := ltr_tS hy0
    rw [← e] at e2
    refine Lts.ok (m := [ltr y]) (fun c hc => o.1.let_ c ?_) (by simp)
    rw [List.mem_singleton.mp hc, e2]
    simp
  refine ⟨_, _, dp_ls (hSh _ _ hDg), dp_ls hDh, shaped_st hokL, shaped_st hokL, _, rfl, iteNb (eqv_st _) ?_⟩
  clear hDg hDh hSh hSg hSg2 hxs hltl
  -- what is told may be changed
  refine ⟨_, rfl, x, dx, _, rfl, xIs _ hSh2, wfP_no _ _ _ (by decide +kernel) (by decide +kernel) (by decide +kernel), x, P', W2, us, rfl, webAt _ hSh2, fun p3 np3 => ⟨.inl ⟨rfl, _, SqL.of upd_same⟩, p3, _, _, rfl, rfl, upd_same, ?_, ?_⟩⟩
  · rw [List.length_map]
    exact Nat.lt_of_lt_of_le (by omega : _ < 1000) (by decide)
  have hSi := hSh2.trans (same_upd (o := .lst (P'.map V.str ++ [V.non])) (same_new np3 (.lst (P'.map V.str))) np3)
  generalize upd (upd Hh p3 (.lst (P'.map V.str))) p3 (.lst (P'.map V.str ++ [V.non])) = Hi at hSi
  refine ⟨_, rfl, x, dx, _, rfl, xIs _ hSi, wfP_no _ _ _ (by decide +kernel) (by decide +kernel) (by decide +kernel), x, P', W2, us, rfl, webAt _ hSi, fun p4 np4 => ⟨.inl ⟨rfl, _, SqL.of upd_same⟩, p4, _, _, rfl, rfl, upd_same, ?_, ?_⟩⟩
  · rw [List.length_map]
    exact Nat.lt_of_lt_of_le (by omega : _ < 1000) (by decide)
  have hSj := hSi.trans (same_upd (o := .lst (W2.map V.str ++ [V.non])) (same_new np4 (.lst (W2.map V.str))) np4)
  generalize upd (upd Hi p4 (.lst (W2.map V.str))) p4 (.lst (W2.map V.str ++ [V.non])) = Hj at hSj
  clear hSi hSh2
  -- the same pieces, turned about
  refine ⟨_, rfl, dl, _, rfl, SqL.of (hSj _ _ hdl8), fun p5 np5 => ⟨p5, _, rfl, .inl ⟨SqL.of upd_same, fun t6 nt6 => ?_⟩⟩⟩
  have hSk := hSj.trans ((same_new np5 (.lst ((L.map V.str).reverse))).trans (same_new nt6 (.tup ((L.map V.str).reverse))))
  have ht6 : upd (upd Hj p5 (.lst ((L.map V.str).reverse))) t6 (.tup ((L.map V.str).reverse)) t6 = some (.tup (L.reverse.map V.str)) := by rw [upd_same, List.map_reverse]
  generalize upd (upd Hj p5 (.lst ((L.map V.str).reverse))) t6 (.tup ((L.map V.str).reverse)) = Hk at hSk ht6
  refine fun x2 dx2 nx2 ndx2 ndxx2 => ?_
  have hSkl : Same Hk (upd (upd Hk dx2 (.own x2)) x2 (.ins C2 dx2 [])) := fun b o e => by
    rw [upd_ne (ne_of_none e nx2), upd_ne (ne_of_none e ndx2)]
    exact e
  refine ⟨x2, dx2, t6, L.reverse, s, rfl, upd_same, .inr (hSkl _ _ ht6), hO.perm (List.reverse_perm L).symm, fun Hl W3 ts3 S3 hPW3 hwS3 hSS3 _ hkl => ⟨rfl, ?_⟩⟩
  have hSl := hSk.trans fun b o e => hkl _ _ (hSkl _ _ e) (ne_of_none e nx2)
  have hw2 := hwS3.same hSS3
  rw [sort_rev L o6, ← eP] at hw2
  clear hSkl hkl hSk ht6 hSj
  obtain ⟨dx3, q1, q2, q3, h13, _⟩ := id hw2
  refine ⟨_, rfl, x, dx, _, rfl, xIs _ hSl, wfP_no _ _ _ (by decide +kernel) (by decide +kernel) (by decide +kernel), x, P', W2, us, rfl, webAt _ hSl, fun p7 np7 => ?_⟩
  have hSlm := same_new np7 (.lst (P'.map V.str))
  have hp7 : upd Hl p7 (.lst (P'.map V.str)) p7 = some (.lst (P'.map V.str)) := upd_same
  generalize upd Hl p7 (.lst (P'.map V.str)) = Hm at hSlm hp7
  have hSm := hSl.trans hSlm
  refine ⟨_, rfl, _, _, dp_ls hp7, dp_ls (hSm _ _ hpl8), shaped_st hokP, shaped_st hokP, _, rfl, iteNb (eqv_st _) ?_⟩
  refine ⟨_, rfl, x, dx, _, rfl, xIs _ hSm, wfP_no _ _ _ (by decide +kernel) (by decide +kernel) (by decide +kernel), x, P', W2, us, rfl, webAt _ hSm, fun p8 np8 => ?_⟩
  have hSmn := same_new np8 (.lst (W2.map V.str))
  have hp8w : upd Hm p8 (.lst (W2.map V.str)) p8 = some (.lst (W2.map V.str)) := upd_same
  generalize upd Hm p8 (.lst (W2.map V.str)) = Hn at hSmn hp8w
  have hSn := hSm.trans hSmn
  refine ⟨_, rfl, _, _, dp_ls hp8w, dp_ls (hSn _ _ hwl8), shaped_st hokW, shaped_st hokW, _, rfl, iteNb (eqv_st _) ?_⟩
  have hw2n := (hw2.same hSlm).same hSmn
  have h13n := hSmn _ _ (hSlm _ _ h13)
  refine ⟨_, rfl, _, rfl, x, x2, _, _, _, _, rfl, rfl, xIs _ hSn, h13n, x, .inl ⟨x2, P', rfl, W2, us, P', W3, ts3, webAt _ hSn, hw2n, hokP, hokP, _, rfl, _, rfl, iteNot' rfl ?_⟩⟩
  refine ⟨_, rfl, _, rfl, x, pl, _, _, _, rfl, rfl, xIs _ hSn, hSn _ _ hpl8, x, .inr ⟨pl, rfl, _, P', W2, us, webAt _ hSn, hSn _ _ hpl8, _, rfl, _, rfl, iteF ?_⟩⟩
  clear hp7 hp8w hSlm hSmn hSm hSl
  suffices fin : ∀ H', Same H8 H' → _ by
    refine ⟨_, rfl, dl, _, rfl, .inl (SqL.of (hSn _ _ hdl8)), _, _, rfl, rfl, _, rfl, ?_⟩
    refine ite2 (fun z => ?_) (fun z => ?_)
    · rw [List.length_map] at z
      have hL : 1 < L.length := by
        have := of_decide_eq_true z
        omega
      have hcv : cutV (L.map V.str) (some 1) none = (L.drop 1).map V.str := by
        rw [show ((1 : Int)) = ((1 : Nat) : Int) from rfl, cutV_from, List.map_drop]
      refine ⟨_, rfl, _, rfl, _, rfl, dl, _, rfl, SqL.of (hSn _ _ hdl8), fun p9 np9 => ?_⟩
      rw [hcv]
      have hSo := hSn.trans (same_new np9 (.lst ((L.drop 1).map V.str)))
      have hp9 : upd Hn p9 (.lst ((L.drop 1).map V.str)) p9 = some (.lst ((L.drop 1).map V.str)) := upd_same
      generalize upd Hn p9 (.lst ((L.drop 1).map V.str)) = Ho at hSo hp9
      refine fun x4 dx4 nx4 ndx4 ndxx4 => ?_
      have hSop : Same Ho (upd (upd Ho dx4 (.own x4)) x4 (.ins C2 dx4 [])) := fun b o e => by
        rw [upd_ne (ne_of_none e nx4), upd_ne (ne_of_none e ndx4)]
        exact e
      refine ⟨x4, dx4, p9, L.drop 1, s, rfl, upd_same, .inl (hSop _ _ hp9), hO.tail hL, fun Hp W4 ts4 S4 hPW4 hwS4 hSS4 _ hkp => ⟨rfl, ?_⟩⟩
      have hSp := hSo.trans fun b o e => hkp _ _ (hSop _ _ e) (ne_of_none e nx4)
      have hw4 := hwS4.same hSS4
      obtain ⟨dx5, r1, r2, r3, h15, _⟩ := id hw4
      have hokT : ∀ z ∈ (L.drop 1).mergeSort leS, OkT z := fun z hz => (o3 z (List.mem_of_mem_drop ((List.mergeSort_perm _ _).mem_iff.mp hz))).1
      exact ⟨x, x4, _, _, _, _, rfl, rfl, xIs _ hSp, h15, x, .inl ⟨x4, P', rfl, W2, us, (L.drop 1).mergeSort leS, W4, ts4, webAt _ hSp, hw4, hokP, hokT, _, rfl, _, rfl, iteNo (by rw [eP]; exact sort_tail o1) (fin Hp hSp)⟩⟩
    · exact fin Hn hSn
  intro H' hS'
  refine ⟨_, rfl, _, rfl, _, rfl, _, rfl, a, x, pl, tl, P', W2, us, s, S, rfl, hp8.same hS', hwS, hSS8.trans hS', hSa0, hPW, hS' _ _ hpl8, hpa, hT8.same hS', hta, q⟩
def splaw (K : PySem.W.Frag) (_ _ : Addr) : Sp := fun vs H Q _ => ∃ a, ∃ ns : List Int, vs = [.ref a] ∧ SqL K H a (ns.map V.int) ∧ ns.length ≤ 63 ∧ ∀ H', Q (.bl true) H'
theorem oklaw (D : Def K mg "law" slaw ["_law_script"]) (B : Bs mg) (Glb : Glo mg) (WK : WebK K mg C) (PK : PieceK K mg C2)
    (h_law_right : Good P w K mg base "_law_right" s_law_right ["_law_pot_here"] 11 (sp_law_right K C C2))
    (h_law_pot : Good P w K mg base "_law_pot" s_law_pot ["_law_script", "_law_k"] 1 (sp_law_pot K C C2)) :
    Good P w K mg base "law" slaw ["_law_script"] 12 (splaw K C C2) := by
  refine D.good fun f fd F => ?_
  obtain ⟨f_law_right, d_law_right, O_law_right, m_law_right, k_law_right, b_law_right, F_law_right⟩ := h_law_right
  obtain ⟨f_law_pot, d_law_pot, O_law_pot, m_law_pot, k_law_pot, b_law_pot, F_law_pot⟩ := h_law_pot
  refine F.ok sclaw (fun vs H Q E h => ?_) (fun cdv A outer s H vs Q E hr h => ?_)
  · obtain ⟨sa, ns, rfl, hs, h63, q⟩ := h
    first | rfl | (rcases h with ⟨_, _, rfl, _⟩ | ⟨_, rfl, _⟩ <;> rfl)
  obtain ⟨sa, ns, rfl, hs, h63, q⟩ := h
  refine ⟨_, (pss_one (ps_ret (pe_call O_law_right hr rfl m_law_right k_law_right b_law_right .nil pass0 (pa_cons (pe_call O_law_pot (hr.mono (by decide)) rfl m_law_pot k_law_pot b_law_pot .nil pass0 (pa_cons (pv 0) (pa_cons pe_int pa_nil))) pa_nil)))), ?_⟩
  exact ⟨_, rfl, sa, ns, rfl, hs, fun p H1 hp hS np => ⟨p, rfl, hp, q⟩⟩
end
end My
namespace My
open PySem L2 PyProof.Rows
/-! ### the end -/
theorem kit_no {K : PySem.W.Frag} {C : Addr} (h1 : PySem.W.isClsIn K C = true) (h2 : PySem.W.typeIn K (.ref C) = some (.type "type")) (h3 : PySem.W.subIn K (.type "dict") (.ref C) = some false) : PySem.W.kitOne K (.type "dict") (.ref C) = some false := by
  unfold PySem.W.kitOne
  rw [if_neg (by simp)]
  show (if ((PySem.W.clsIn K C).isSome && PySem.W.typeIn K (.ref C) == some (.type "type")) = true then PySem.W.subIn K (.type "dict") (.ref C) else none) = some false
  have h1' : (PySem.W.clsIn K C).isSome = true := h1
  rw [h1', h2, if_pos (by simp)]
  exact h3
theorem fd_is {K : PySem.W.Frag} {x : Str} {st : Stmt} {f : Addr} {fd fe : FuncData} {oc : Value} {od : Option Addr} {sl : Array (Option Value)} (F : Fun K x x st f fd) (l : K.lookup f = some ⟨oc, od, .func fe, sl⟩) : fd = fe := by
  obtain ⟨oc2, od2, kV, doc, pm, an, cdv, ct, osl, e, lk, c⟩ := F.ex
  rw [lk] at l
  have := Option.some.inj l
  injection this with _ _ h3 _
  injection h3
set_option maxHeartbeats 4000000 in
theorem all_mk {l : PySem.W.OpenLaw} {w : World} {K : PySem.W.Frag} {h : Heap} {mg : Str → Option Value} {fa C C2 : Addr} (X : K.In h) (G : h.Ns mainGlobals mg) (hfa : mg "law" = some (.ref fa))
    {fM0 : Addr} {odM0 anM0 : Option Addr} {slM0 : Array (Option Value)} {ocM0 kVM0 dcM0 pmM0 cdM0 ctM0 : Value} {fM1 : Addr} {odM1 anM1 : Option Addr} {slM1 : Array (Option Value)} {ocM1 kVM1 dcM1 pmM1 cdM1 ctM1 : Value} {fM2 : Addr} {odM2 anM2 : Option Addr} {slM2 : Array (Option Value)} {ocM2 kVM2 dcM2 pmM2 cdM2 ctM2 : Value} {pM2 : Addr} {rsM2 : List Value} {fM3 : Addr} {odM3 anM3 : Option Addr} {slM3 : Array (Option Value)} {ocM3 kVM3 dcM3 pmM3 cdM3 ctM3 : Value} {pM3 : Addr} {rsM3 : List Value} {fM4 : Addr} {odM4 anM4 : Option Addr} {slM4 : Array (Option Value)} {ocM4 kVM4 dcM4 pmM4 cdM4 ctM4 : Value} {fM5 : Addr} {odM5 anM5 : Option Addr} {slM5 : Array (Option Value)} {ocM5 kVM5 dcM5 pmM5 cdM5 ctM5 : Value} {fM6 : Addr} {odM6 anM6 : Option Addr} {slM6 : Array (Option Value)} {ocM6 kVM6 dcM6 pmM6 cdM6 ctM6 : Value} {fM7 : Addr} {odM7 anM7 : Option Addr} {slM7 : Array (Option Value)} {ocM7 kVM7 dcM7 pmM7 cdM7 ctM7 : Value} {pM7 : Addr} {rsM7 : List Value} {fM8 : Addr} {odM8 anM8 : Option Addr} {slM8 : Array (Option Value)} {ocM8 kVM8 dcM8 pmM8 cdM8 ctM8 : Value} {fM9 : Addr} {odM9 anM9 : Option Addr} {slM9 : Array (Option Value)} {ocM9 kVM9 dcM9 pmM9 cdM9 ctM9 : Value} {fM10 : Addr} {odM10 anM10 : Option Addr} {slM10 : Array (Option Value)} {ocM10 kVM10 dcM10 pmM10 cdM10 ctM10 : Value} {fM11 : Addr} {odM11 anM11 : Option Addr} {slM11 : Array (Option Value)} {ocM11 kVM11 dcM11 pmM11 cdM11 ctM11 : Value} {fM12 : Addr} {odM12 anM12 : Option Addr} {slM12 : Array (Option Value)} {ocM12 kVM12 dcM12 pmM12 cdM12 ctM12 : Value} {fM13 : Addr} {odM13 anM13 : Option Addr} {slM13 : Array (Option Value)} {ocM13 kVM13 dcM13 pmM13 cdM13 ctM13 : Value} {fM14 : Addr} {odM14 anM14 : Option Addr} {slM14 : Array (Option Value)} {ocM14 kVM14 dcM14 pmM14 cdM14 ctM14 : Value} {fM15 : Addr} {odM15 anM15 : Option Addr} {slM15 : Array (Option Value)} {ocM15 kVM15 dcM15 pmM15 cdM15 ctM15 : Value} {fM16 : Addr} {odM16 anM16 : Option Addr} {slM16 : Array (Option Value)} {ocM16 kVM16 dcM16 pmM16 cdM16 ctM16 : Value} {f0 : Addr} {od0 an0 : Option Addr} {sl0 : Array (Option Value)} {oc0 kV0 dc0 pm0 cd0 ct0 : Value} {f1 : Addr} {od1 an1 : Option Addr} {sl1 : Array (Option Value)} {oc1 kV1 dc1 pm1 cd1 ct1 : Value} {f2 : Addr} {od2 an2 : Option Addr} {sl2 : Array (Option Value)} {oc2 kV2 dc2 pm2 cd2 ct2 : Value} {f3 : Addr} {od3 an3 : Option Addr} {sl3 : Array (Option Value)} {oc3 kV3 dc3 pm3 cd3 ct3 : Value} {f4 : Addr} {od4 an4 : Option Addr} {sl4 : Array (Option Value)} {oc4 kV4 dc4 pm4 cd4 ct4 : Value} {f5 : Addr} {od5 an5 : Option Addr} {sl5 : Array (Option Value)} {oc5 kV5 dc5 pm5 cd5 ct5 : Value} {f6 : Addr} {od6 an6 : Option Addr} {sl6 : Array (Option Value)} {oc6 kV6 dc6 pm6 cd6 ct6 : Value} {f7 : Addr} {od7 an7 : Option Addr} {sl7 : Array (Option Value)} {oc7 kV7 dc7 pm7 cd7 ct7 : Value} {f8 : Addr} {od8 an8 : Option Addr} {sl8 : Array (Option Value)} {oc8 kV8 dc8 pm8 cd8 ct8 : Value} {f9 : Addr} {od9 an9 : Option Addr} {sl9 : Array (Option Value)} {oc9 kV9 dc9 pm9 cd9 ct9 : Value} {f10 : Addr} {od10 an10 : Option Addr} {sl10 : Array (Option Value)} {oc10 kV10 dc10 pm10 cd10 ct10 : Value} {f11 : Addr} {od11 an11 : Option Addr} {sl11 : Array (Option Value)} {oc11 kV11 dc11 pm11 cd11 ct11 : Value} {f12 : Addr} {od12 an12 : Option Addr} {sl12 : Array (Option Value)} {oc12 kV12 dc12 pm12 cd12 ct12 : Value} {f13 : Addr} {od13 an13 : Option Addr} {sl13 : Array (Option Value)} {oc13 kV13 dc13 pm13 cd13 ct13 : Value} {f14 : Addr} {od14 an14 : Option Addr} {sl14 : Array (Option Value)} {oc14 kV14 dc14 pm14 cd14 ct14 : Value} {f15 : Addr} {od15 an15 : Option Addr} {sl15 : Array (Option Value)} {oc15 kV15 dc15 pm15 cd15 ct15 : Value} {f16 : Addr} {od16 an16 : Option Addr} {sl16 : Array (Option Value)} {oc16 kV16 dc16 pm16 cd16 ct16 : Value} {f17 : Addr} {od17 an17 : Option Addr} {sl17 : Array (Option Value)} {oc17 kV17 dc17 pm17 cd17 ct17 : Value} {f18 : Addr} {od18 an18 : Option Addr} {sl18 : Array (Option Value)} {oc18 kV18 dc18 pm18 cd18 ct18 : Value} {f19 : Addr} {od19 an19 : Option Addr} {sl19 : Array (Option Value)} {oc19 kV19 dc19 pm19 cd19 ct19 : Value} {f20 : Addr} {od20 an20 : Option Addr} {sl20 : Array (Option Value)} {oc20 kV20 dc20 pm20 cd20 ct20 : Value} {f21 : Addr} {od21 an21 : Option Addr} {sl21 : Array (Option Value)} {oc21 kV21 dc21 pm21 cd21 ct21 : Value} {f22 : Addr} {od22 an22 : Option Addr} {sl22 : Array (Option Value)} {oc22 kV22 dc22 pm22 cd22 ct22 : Value} {f23 : Addr} {od23 an23 : Option Addr} {sl23 : Array (Option Value)} {oc23 kV23 dc23 pm23 cd23 ct23 : Value} {f24 : Addr} {od24 an24 : Option Addr} {sl24 : Array (Option Value)} {oc24 kV24 dc24 pm24 cd24 ct24 : Value} {f25 : Addr} {od25 an25 : Option Addr} {sl25 : Array (Option Value)} {oc25 kV25 dc25 pm25 cd25 ct25 : Value} {f26 : Addr} {od26 an26 : Option Addr} {sl26 : Array (Option Value)} {oc26 kV26 dc26 pm26 cd26 ct26 : Value} {f27 : Addr} {od27 an27 : Option Addr} {sl27 : Array (Option Value)} {oc27 kV27 dc27 pm27 cd27 ct27 : Value} {f28 : Addr} {od28 an28 : Option Addr} {sl28 : Array (Option Value)} {oc28 kV28 dc28 pm28 cd28 ct28 : Value} {f29 : Addr} {od29 an29 : Option Addr} {sl29 : Array (Option Value)} {oc29 kV29 dc29 pm29 cd29 ct29 : Value} {f30 : Addr} {od30 an30 : Option Addr} {sl30 : Array (Option Value)} {oc30 kV30 dc30 pm30 cd30 ct30 : Value} {f31 : Addr} {od31 an31 : Option Addr} {sl31 : Array (Option Value)} {oc31 kV31 dc31 pm31 cd31 ct31 : Value} {f32 : Addr} {od32 an32 : Option Addr} {sl32 : Array (Option Value)} {oc32 kV32 dc32 pm32 cd32 ct32 : Value} {f33 : Addr} {od33 an33 : Option Addr} {sl33 : Array (Option Value)} {oc33 kV33 dc33 pm33 cd33 ct33 : Value} {f34 : Addr} {od34 an34 : Option Addr} {sl34 : Array (Option Value)} {oc34 kV34 dc34 pm34 cd34 ct34 : Value} {f35 : Addr} {od35 an35 : Option Addr} {sl35 : Array (Option Value)} {oc35 kV35 dc35 pm35 cd35 ct35 : Value} {f36 : Addr} {od36 an36 : Option Addr} {sl36 : Array (Option Value)} {oc36 kV36 dc36 pm36 cd36 ct36 : Value} {t0 : Tok} {t1 : Tok} {t2 : Tok} {t3 : Tok} {t4 : Tok} {t5 : Tok}
    (aC : PySem.W.nsIn K mainGlobals "Web" = some (some (.ref C)))
    (aC2 : PySem.W.nsIn K mainGlobals "PieceWeb" = some (some (.ref C2)))
    (aM0 : PySem.W.findIn K (.ref C) "__init__" = some (some (.ref fM0))) (iM0 : PySem.W.isFn K (.ref fM0) = true) (lM0 : K.lookup fM0 = some ⟨ocM0, odM0, .func (PySem.W.fnOf "__init__" "Web.__init__" (defArgs sWeb___init__) (defBody sWeb___init__) (defScope sWeb___init__) .none kVM0 dcM0 pmM0 anM0 cdM0 ctM0), slM0⟩) (cM0 : PySem.W.codeIn K cdM0 "Web.__init__" = true) (kM0 : PySem.W.keepIn K (.ref fM0) = true)
    (aM1 : PySem.W.findIn K (.ref C) "__eq__" = some (some (.ref fM1))) (iM1 : PySem.W.isFn K (.ref fM1) = true) (lM1 : K.lookup fM1 = some ⟨ocM1, odM1, .func (PySem.W.fnOf "__eq__" "Web.__eq__" (defArgs sWeb___eq__) (defBody sWeb___eq__) (defScope sWeb___eq__) .none kVM1 dcM1 pmM1 anM1 cdM1 ctM1), slM1⟩) (cM1 : PySem.W.codeIn K cdM1 "Web.__eq__" = true) (kM1 : PySem.W.keepIn K (.ref fM1) = true)
    (aM2 : PySem.W.findIn K (.ref C) "places" = some (some (.ref pM2))) (gM2 : PySem.W.specialIn K (.ref pM2) "__get__" = some (some (.builtin "property.__get__"))) (tM2 : PySem.W.takesIn K (.ref pM2) = some true) (rM2 : PySem.W.recIn K pM2 "property" = some (.ref fM2 :: rsM2)) (lM2 : K.lookup fM2 = some ⟨ocM2, odM2, .func (PySem.W.fnOf "places" "Web.places" (defArgs sWeb_places) (defBody sWeb_places) (defScope sWeb_places) .none kVM2 dcM2 pmM2 anM2 cdM2 ctM2), slM2⟩) (cM2 : PySem.W.codeIn K cdM2 "Web.places" = true) (kM2 : PySem.W.keepIn K (.ref fM2) = true)
    (aM3 : PySem.W.findIn K (.ref C) "many" = some (some (.ref pM3))) (gM3 : PySem.W.specialIn K (.ref pM3) "__get__" = some (some (.builtin "property.__get__"))) (tM3 : PySem.W.takesIn K (.ref pM3) = some true) (rM3 : PySem.W.recIn K pM3 "property" = some (.ref fM3 :: rsM3)) (lM3 : K.lookup fM3 = some ⟨ocM3, odM3, .func (PySem.W.fnOf "many" "Web.many" (defArgs sWeb_many) (defBody sWeb_many) (defScope sWeb_many) .none kVM3 dcM3 pmM3 anM3 cdM3 ctM3), slM3⟩) (cM3 : PySem.W.codeIn K cdM3 "Web.many" = true) (kM3 : PySem.W.keepIn K (.ref fM3) = true)
    (aM4 : PySem.W.findIn K (.ref C) "ties" = some (some (.ref fM4))) (iM4 : PySem.W.isFn K (.ref fM4) = true) (lM4 : K.lookup fM4 = some ⟨ocM4, odM4, .func (PySem.W.fnOf "ties" "Web.ties" (defArgs sWeb_ties) (defBody sWeb_ties) (defScope sWeb_ties) .none kVM4 dcM4 pmM4 anM4 cdM4 ctM4), slM4⟩) (cM4 : PySem.W.codeIn K cdM4 "Web.ties" = true) (kM4 : PySem.W.keepIn K (.ref fM4) = true)
    (aM5 : PySem.W.findIn K (.ref C2) "__init__" = some (some (.ref fM5))) (iM5 : PySem.W.isFn K (.ref fM5) = true) (lM5 : K.lookup fM5 = some ⟨ocM5, odM5, .func (PySem.W.fnOf "__init__" "PieceWeb.__init__" (defArgs sPieceWeb___init__) (defBody sPieceWeb___init__) (defScope sPieceWeb___init__) .none kVM5 dcM5 pmM5 anM5 cdM5 ctM5), slM5⟩) (cM5 : PySem.W.codeIn K cdM5 "PieceWeb.__init__" = true) (kM5 : PySem.W.keepIn K (.ref fM5) = true)
    (aM6 : PySem.W.findIn K (.ref C2) "__eq__" = some (some (.ref fM6))) (iM6 : PySem.W.isFn K (.ref fM6) = true) (lM6 : K.lookup fM6 = some ⟨ocM6, odM6, .func (PySem.W.fnOf "__eq__" "PieceWeb.__eq__" (defArgs sPieceWeb___eq__) (defBody sPieceWeb___eq__) (defScope sPieceWeb___eq__) .none kVM6 dcM6 pmM6 anM6 cdM6 ctM6), slM6⟩) (cM6 : PySem.W.codeIn K cdM6 "PieceWeb.__eq__" = true) (kM6 : PySem.W.keepIn K (.ref fM6) = true)
    (aM7 : PySem.W.findIn K (.ref C2) "size" = some (some (.ref pM7))) (gM7 : PySem.W.specialIn K (.ref pM7) "__get__" = some (some (.builtin "property.__get__"))) (tM7 : PySem.W.takesIn K (.ref pM7) = some true) (rM7 : PySem.W.recIn K pM7 "property" = some (.ref fM7 :: rsM7)) (lM7 : K.lookup fM7 = some ⟨ocM7, odM7, .func (PySem.W.fnOf "size" "PieceWeb.size" (defArgs sPieceWeb_size) (defBody sPieceWeb_size) (defScope sPieceWeb_size) .none kVM7 dcM7 pmM7 anM7 cdM7 ctM7), slM7⟩) (cM7 : PySem.W.codeIn K cdM7 "PieceWeb.size" = true) (kM7 : PySem.W.keepIn K (.ref fM7) = true)
    (aM8 : PySem.W.findIn K (.ref C2) "web" = some (some (.ref fM8))) (iM8 : PySem.W.isFn K (.ref fM8) = true) (lM8 : K.lookup fM8 = some ⟨ocM8, odM8, .func (PySem.W.fnOf "web" "PieceWeb.web" (defArgs sPieceWeb_web) (defBody sPieceWeb_web) (defScope sPieceWeb_web) .none kVM8 dcM8 pmM8 anM8 cdM8 ctM8), slM8⟩) (cM8 : PySem.W.codeIn K cdM8 "PieceWeb.web" = true) (kM8 : PySem.W.keepIn K (.ref fM8) = true)
    (aM9 : PySem.W.findIn K (.ref C2) "pieces" = some (some (.ref fM9))) (iM9 : PySem.W.isFn K (.ref fM9) = true) (lM9 : K.lookup fM9 = some ⟨ocM9, odM9, .func (PySem.W.fnOf "pieces" "PieceWeb.pieces" (defArgs sPieceWeb_pieces) (defBody sPieceWeb_pieces) (defScope sPieceWeb_pieces) .none kVM9 dcM9 pmM9 anM9 cdM9 ctM9), slM9⟩) (cM9 : PySem.W.codeIn K cdM9 "PieceWeb.pieces" = true) (kM9 : PySem.W.keepIn K (.ref fM9) = true)
    (aM10 : PySem.W.findIn K (.ref C2) "words" = some (some (.ref fM10))) (iM10 : PySem.W.isFn K (.ref fM10) = true) (lM10 : K.lookup fM10 = some ⟨ocM10, odM10, .func (PySem.W.fnOf "words" "PieceWeb.words" (defArgs sPieceWeb_words) (defBody sPieceWeb_words) (defScope sPieceWeb_words) .none kVM10 dcM10 pmM10 anM10 cdM10 ctM10), slM10⟩) (cM10 : PySem.W.codeIn K cdM10 "PieceWeb.words" = true) (kM10 : PySem.W.keepIn K (.ref fM10) = true)
    (aM11 : PySem.W.findIn K (.ref C2) "word_at" = some (some (.ref fM11))) (iM11 : PySem.W.isFn K (.ref fM11) = true) (lM11 : K.lookup fM11 = some ⟨ocM11, odM11, .func (PySem.W.fnOf "word_at" "PieceWeb.word_at" (defArgs sPieceWeb_word_at) (defBody sPieceWeb_word_at) (defScope sPieceWeb_word_at) .none kVM11 dcM11 pmM11 anM11 cdM11 ctM11), slM11⟩) (cM11 : PySem.W.codeIn K cdM11 "PieceWeb.word_at" = true) (kM11 : PySem.W.keepIn K (.ref fM11) = true)
    (aM12 : PySem.W.findIn K (.ref C2) "letter_of" = some (some (.ref fM12))) (iM12 : PySem.W.isFn K (.ref fM12) = true) (lM12 : K.lookup fM12 = some ⟨ocM12, odM12, .func (PySem.W.fnOf "letter_of" "PieceWeb.letter_of" (defArgs sPieceWeb_letter_of) (defBody sPieceWeb_letter_of) (defScope sPieceWeb_letter_of) .none kVM12 dcM12 pmM12 anM12 cdM12 ctM12), slM12⟩) (cM12 : PySem.W.codeIn K cdM12 "PieceWeb.letter_of" = true) (kM12 : PySem.W.keepIn K (.ref fM12) = true)
    (aM13 : PySem.W.findIn K (.ref C2) "text_of" = some (some (.ref fM13))) (iM13 : PySem.W.isFn K (.ref fM13) = true) (lM13 : K.lookup fM13 = some ⟨ocM13, odM13, .func (PySem.W.fnOf "text_of" "PieceWeb.text_of" (defArgs sPieceWeb_text_of) (defBody sPieceWeb_text_of) (defScope sPieceWeb_text_of) .none kVM13 dcM13 pmM13 anM13 cdM13 ctM13), slM13⟩) (cM13 : PySem.W.codeIn K cdM13 "PieceWeb.text_of" = true) (kM13 : PySem.W.keepIn K (.ref fM13) = true)
    (aM14 : PySem.W.findIn K (.ref C2) "walk_of" = some (some (.ref fM14))) (iM14 : PySem.W.isFn K (.ref fM14) = true) (lM14 : K.lookup fM14 = some ⟨ocM14, odM14, .func (PySem.W.fnOf "walk_of" "PieceWeb.walk_of" (defArgs sPieceWeb_walk_of) (defBody sPieceWeb_walk_of) (defScope sPieceWeb_walk_of) .none kVM14 dcM14 pmM14 anM14 cdM14 ctM14), slM14⟩) (cM14 : PySem.W.codeIn K cdM14 "PieceWeb.walk_of" = true) (kM14 : PySem.W.keepIn K (.ref fM14) = true)
    (aM15 : PySem.W.findIn K (.ref C2) "_letters_of" = some (some (.ref fM15))) (iM15 : PySem.W.isFn K (.ref fM15) = true) (lM15 : K.lookup fM15 = some ⟨ocM15, odM15, .func (PySem.W.fnOf "_letters_of" "PieceWeb._letters_of" (defArgs sPieceWeb__letters_of) (defBody sPieceWeb__letters_of) (defScope sPieceWeb__letters_of) .none kVM15 dcM15 pmM15 anM15 cdM15 ctM15), slM15⟩) (cM15 : PySem.W.codeIn K cdM15 "PieceWeb._letters_of" = true) (kM15 : PySem.W.keepIn K (.ref fM15) = true)
    (aM16 : PySem.W.findIn K (.ref C2) "_ties_along" = some (some (.ref fM16))) (iM16 : PySem.W.isFn K (.ref fM16) = true) (lM16 : K.lookup fM16 = some ⟨ocM16, odM16, .func (PySem.W.fnOf "_ties_along" "PieceWeb._ties_along" (defArgs sPieceWeb__ties_along) (defBody sPieceWeb__ties_along) (defScope sPieceWeb__ties_along) .none kVM16 dcM16 pmM16 anM16 cdM16 ctM16), slM16⟩) (cM16 : PySem.W.codeIn K cdM16 "PieceWeb._ties_along" = true) (kM16 : PySem.W.keepIn K (.ref fM16) = true)
    (a0 : PySem.W.nsIn K mainGlobals "is_integer" = some (some (.ref f0))) (l0 : K.lookup f0 = some ⟨oc0, od0, .func (PySem.W.fnOf "is_integer" "is_integer" (defArgs sis_integer) (defBody sis_integer) (defScope sis_integer) .none kV0 dc0 pm0 an0 cd0 ct0), sl0⟩) (c0 : PySem.W.codeIn K cd0 "is_integer" = true) (k0 : PySem.W.keepIn K (.ref f0) = true)
    (a1 : PySem.W.nsIn K mainGlobals "is_count" = some (some (.ref f1))) (l1 : K.lookup f1 = some ⟨oc1, od1, .func (PySem.W.fnOf "is_count" "is_count" (defArgs sis_count) (defBody sis_count) (defScope sis_count) .none kV1 dc1 pm1 an1 cd1 ct1), sl1⟩) (c1 : PySem.W.codeIn K cd1 "is_count" = true) (k1 : PySem.W.keepIn K (.ref f1) = true)
    (a2 : PySem.W.nsIn K mainGlobals "is_between" = some (some (.ref f2))) (l2 : K.lookup f2 = some ⟨oc2, od2, .func (PySem.W.fnOf "is_between" "is_between" (defArgs sis_between) (defBody sis_between) (defScope sis_between) .none kV2 dc2 pm2 an2 cd2 ct2), sl2⟩) (c2 : PySem.W.codeIn K cd2 "is_between" = true) (k2 : PySem.W.keepIn K (.ref f2) = true)
    (a3 : PySem.W.nsIn K mainGlobals "is_below" = some (some (.ref f3))) (l3 : K.lookup f3 = some ⟨oc3, od3, .func (PySem.W.fnOf "is_below" "is_below" (defArgs sis_below) (defBody sis_below) (defScope sis_below) .none kV3 dc3 pm3 an3 cd3 ct3), sl3⟩) (c3 : PySem.W.codeIn K cd3 "is_below" = true) (k3 : PySem.W.keepIn K (.ref f3) = true)
    (a4 : PySem.W.nsIn K mainGlobals "is_size" = some (some (.ref f4))) (l4 : K.lookup f4 = some ⟨oc4, od4, .func (PySem.W.fnOf "is_size" "is_size" (defArgs sis_size) (defBody sis_size) (defScope sis_size) .none kV4 dc4 pm4 an4 cd4 ct4), sl4⟩) (c4 : PySem.W.codeIn K cd4 "is_size" = true) (k4 : PySem.W.keepIn K (.ref f4) = true)
    (a5 : PySem.W.nsIn K mainGlobals "is_listed" = some (some (.ref f5))) (l5 : K.lookup f5 = some ⟨oc5, od5, .func (PySem.W.fnOf "is_listed" "is_listed" (defArgs sis_listed) (defBody sis_listed) (defScope sis_listed) .none kV5 dc5 pm5 an5 cd5 ct5), sl5⟩) (c5 : PySem.W.codeIn K cd5 "is_listed" = true) (k5 : PySem.W.keepIn K (.ref f5) = true)
    (a6 : PySem.W.nsIn K mainGlobals "is_letter" = some (some (.ref f6))) (l6 : K.lookup f6 = some ⟨oc6, od6, .func (PySem.W.fnOf "is_letter" "is_letter" (defArgs sis_letter) (defBody sis_letter) (defScope sis_letter) .none kV6 dc6 pm6 an6 cd6 ct6), sl6⟩) (c6 : PySem.W.codeIn K cd6 "is_letter" = true) (k6 : PySem.W.keepIn K (.ref f6) = true)
    (a7 : PySem.W.nsIn K mainGlobals "is_text" = some (some (.ref f7))) (l7 : K.lookup f7 = some ⟨oc7, od7, .func (PySem.W.fnOf "is_text" "is_text" (defArgs sis_text) (defBody sis_text) (defScope sis_text) .none kV7 dc7 pm7 an7 cd7 ct7), sl7⟩) (c7 : PySem.W.codeIn K cd7 "is_text" = true) (k7 : PySem.W.keepIn K (.ref f7) = true)
    (a8 : PySem.W.nsIn K mainGlobals "need_text" = some (some (.ref f8))) (l8 : K.lookup f8 = some ⟨oc8, od8, .func (PySem.W.fnOf "need_text" "need_text" (defArgs sneed_text) (defBody sneed_text) (defScope sneed_text) .none kV8 dc8 pm8 an8 cd8 ct8), sl8⟩) (c8 : PySem.W.codeIn K cd8 "need_text" = true) (k8 : PySem.W.keepIn K (.ref f8) = true)
    (a9 : PySem.W.nsIn K mainGlobals "words_of" = some (some (.ref f9))) (l9 : K.lookup f9 = some ⟨oc9, od9, .func (PySem.W.fnOf "words_of" "words_of" (defArgs swords_of) (defBody swords_of) (defScope swords_of) .none kV9 dc9 pm9 an9 cd9 ct9), sl9⟩) (c9 : PySem.W.codeIn K cd9 "words_of" = true) (k9 : PySem.W.keepIn K (.ref f9) = true)
    (a10 : PySem.W.nsIn K mainGlobals "are_pieces" = some (some (.ref f10))) (l10 : K.lookup f10 = some ⟨oc10, od10, .func (PySem.W.fnOf "are_pieces" "are_pieces" (defArgs sare_pieces) (defBody sare_pieces) (defScope sare_pieces) .none kV10 dc10 pm10 an10 cd10 ct10), sl10⟩) (c10 : PySem.W.codeIn K cd10 "are_pieces" = true) (k10 : PySem.W.keepIn K (.ref f10) = true)
    (a11 : PySem.W.nsIn K mainGlobals "need_pieces" = some (some (.ref f11))) (l11 : K.lookup f11 = some ⟨oc11, od11, .func (PySem.W.fnOf "need_pieces" "need_pieces" (defArgs sneed_pieces) (defBody sneed_pieces) (defScope sneed_pieces) .none kV11 dc11 pm11 an11 cd11 ct11), sl11⟩) (c11 : PySem.W.codeIn K cd11 "need_pieces" = true) (k11 : PySem.W.keepIn K (.ref f11) = true)
    (a12 : PySem.W.nsIn K mainGlobals "pieces_along" = some (some (.ref f12))) (l12 : K.lookup f12 = some ⟨oc12, od12, .func (PySem.W.fnOf "pieces_along" "pieces_along" (defArgs spieces_along) (defBody spieces_along) (defScope spieces_along) .none kV12 dc12 pm12 an12 cd12 ct12), sl12⟩) (c12 : PySem.W.codeIn K cd12 "pieces_along" = true) (k12 : PySem.W.keepIn K (.ref f12) = true)
    (a13 : PySem.W.nsIn K mainGlobals "are_ties" = some (some (.ref f13))) (l13 : K.lookup f13 = some ⟨oc13, od13, .func (PySem.W.fnOf "are_ties" "are_ties" (defArgs sare_ties) (defBody sare_ties) (defScope sare_ties) .none kV13 dc13 pm13 an13 cd13 ct13), sl13⟩) (c13 : PySem.W.codeIn K cd13 "are_ties" = true) (k13 : PySem.W.keepIn K (.ref f13) = true)
    (a14 : PySem.W.nsIn K mainGlobals "need_web" = some (some (.ref f14))) (l14 : K.lookup f14 = some ⟨oc14, od14, .func (PySem.W.fnOf "need_web" "need_web" (defArgs sneed_web) (defBody sneed_web) (defScope sneed_web) .none kV14 dc14 pm14 an14 cd14 ct14), sl14⟩) (c14 : PySem.W.codeIn K cd14 "need_web" = true) (k14 : PySem.W.keepIn K (.ref f14) = true)
    (a15 : PySem.W.nsIn K mainGlobals "need_place" = some (some (.ref f15))) (l15 : K.lookup f15 = some ⟨oc15, od15, .func (PySem.W.fnOf "need_place" "need_place" (defArgs sneed_place) (defBody sneed_place) (defScope sneed_place) .none kV15 dc15 pm15 an15 cd15 ct15), sl15⟩) (c15 : PySem.W.codeIn K cd15 "need_place" = true) (k15 : PySem.W.keepIn K (.ref f15) = true)
    (a16 : PySem.W.nsIn K mainGlobals "need_tie" = some (some (.ref f16))) (l16 : K.lookup f16 = some ⟨oc16, od16, .func (PySem.W.fnOf "need_tie" "need_tie" (defArgs sneed_tie) (defBody sneed_tie) (defScope sneed_tie) .none kV16 dc16 pm16 an16 cd16 ct16), sl16⟩) (c16 : PySem.W.codeIn K cd16 "need_tie" = true) (k16 : PySem.W.keepIn K (.ref f16) = true)
    (a17 : PySem.W.nsIn K mainGlobals "are_numbers" = some (some (.ref f17))) (l17 : K.lookup f17 = some ⟨oc17, od17, .func (PySem.W.fnOf "are_numbers" "are_numbers" (defArgs sare_numbers) (defBody sare_numbers) (defScope sare_numbers) .none kV17 dc17 pm17 an17 cd17 ct17), sl17⟩) (c17 : PySem.W.codeIn K cd17 "are_numbers" = true) (k17 : PySem.W.keepIn K (.ref f17) = true)
    (a18 : PySem.W.nsIn K mainGlobals "_go_on" = some (some (.ref f18))) (l18 : K.lookup f18 = some ⟨oc18, od18, .func (PySem.W.fnOf "_go_on" "_go_on" (defArgs s_go_on) (defBody s_go_on) (defScope s_go_on) .none kV18 dc18 pm18 an18 cd18 ct18), sl18⟩) (c18 : PySem.W.codeIn K cd18 "_go_on" = true) (k18 : PySem.W.keepIn K (.ref f18) = true)
    (a19 : PySem.W.nsIn K mainGlobals "is_walk" = some (some (.ref f19))) (l19 : K.lookup f19 = some ⟨oc19, od19, .func (PySem.W.fnOf "is_walk" "is_walk" (defArgs sis_walk) (defBody sis_walk) (defScope sis_walk) .none kV19 dc19 pm19 an19 cd19 ct19), sl19⟩) (c19 : PySem.W.codeIn K cd19 "is_walk" = true) (k19 : PySem.W.keepIn K (.ref f19) = true)
    (a20 : PySem.W.nsIn K mainGlobals "need_walk" = some (some (.ref f20))) (l20 : K.lookup f20 = some ⟨oc20, od20, .func (PySem.W.fnOf "need_walk" "need_walk" (defArgs sneed_walk) (defBody sneed_walk) (defScope sneed_walk) .none kV20 dc20 pm20 an20 cd20 ct20), sl20⟩) (c20 : PySem.W.codeIn K cd20 "need_walk" = true) (k20 : PySem.W.keepIn K (.ref f20) = true)
    (a21 : PySem.W.nsIn K mainGlobals "copied_web" = some (some (.ref f21))) (l21 : K.lookup f21 = some ⟨oc21, od21, .func (PySem.W.fnOf "copied_web" "copied_web" (defArgs scopied_web) (defBody scopied_web) (defScope scopied_web) .none kV21 dc21 pm21 an21 cd21 ct21), sl21⟩) (c21 : PySem.W.codeIn K cd21 "copied_web" = true) (k21 : PySem.W.keepIn K (.ref f21) = true)
    (a22 : PySem.W.nsIn K mainGlobals "_web_of" = some (some (.ref f22))) (l22 : K.lookup f22 = some ⟨oc22, od22, .func (PySem.W.fnOf "_web_of" "_web_of" (defArgs s_web_of) (defBody s_web_of) (defScope s_web_of) .none kV22 dc22 pm22 an22 cd22 ct22), sl22⟩) (c22 : PySem.W.codeIn K cd22 "_web_of" = true) (k22 : PySem.W.keepIn K (.ref f22) = true)
    (a23 : PySem.W.nsIn K mainGlobals "_need_letters" = some (some (.ref f23))) (l23 : K.lookup f23 = some ⟨oc23, od23, .func (PySem.W.fnOf "_need_letters" "_need_letters" (defArgs s_need_letters) (defBody s_need_letters) (defScope s_need_letters) .none kV23 dc23 pm23 an23 cd23 ct23), sl23⟩) (c23 : PySem.W.codeIn K cd23 "_need_letters" = true) (k23 : PySem.W.keepIn K (.ref f23) = true)
    (a24 : PySem.W.nsIn K mainGlobals "_law_pot" = some (some (.ref f24))) (l24 : K.lookup f24 = some ⟨oc24, od24, .func (PySem.W.fnOf "_law_pot" "_law_pot" (defArgs s_law_pot) (defBody s_law_pot) (defScope s_law_pot) .none kV24 dc24 pm24 an24 cd24 ct24), sl24⟩) (c24 : PySem.W.codeIn K cd24 "_law_pot" = true) (k24 : PySem.W.keepIn K (.ref f24) = true)
    (a25 : PySem.W.nsIn K mainGlobals "_law_draw" = some (some (.ref f25))) (l25 : K.lookup f25 = some ⟨oc25, od25, .func (PySem.W.fnOf "_law_draw" "_law_draw" (defArgs s_law_draw) (defBody s_law_draw) (defScope s_law_draw) .none kV25 dc25 pm25 an25 cd25 ct25), sl25⟩) (c25 : PySem.W.codeIn K cd25 "_law_draw" = true) (k25 : PySem.W.keepIn K (.ref f25) = true)
    (a26 : PySem.W.nsIn K mainGlobals "_law_pick" = some (some (.ref f26))) (l26 : K.lookup f26 = some ⟨oc26, od26, .func (PySem.W.fnOf "_law_pick" "_law_pick" (defArgs s_law_pick) (defBody s_law_pick) (defScope s_law_pick) .none kV26 dc26 pm26 an26 cd26 ct26), sl26⟩) (c26 : PySem.W.codeIn K cd26 "_law_pick" = true) (k26 : PySem.W.keepIn K (.ref f26) = true)
    (a27 : PySem.W.nsIn K mainGlobals "_law_pieces_drawn" = some (some (.ref f27))) (l27 : K.lookup f27 = some ⟨oc27, od27, .func (PySem.W.fnOf "_law_pieces_drawn" "_law_pieces_drawn" (defArgs s_law_pieces_drawn) (defBody s_law_pieces_drawn) (defScope s_law_pieces_drawn) .none kV27 dc27 pm27 an27 cd27 ct27), sl27⟩) (c27 : PySem.W.codeIn K cd27 "_law_pieces_drawn" = true) (k27 : PySem.W.keepIn K (.ref f27) = true)
    (a28 : PySem.W.nsIn K mainGlobals "_law_words" = some (some (.ref f28))) (l28 : K.lookup f28 = some ⟨oc28, od28, .func (PySem.W.fnOf "_law_words" "_law_words" (defArgs s_law_words) (defBody s_law_words) (defScope s_law_words) .none kV28 dc28 pm28 an28 cd28 ct28), sl28⟩) (c28 : PySem.W.codeIn K cd28 "_law_words" = true) (k28 : PySem.W.keepIn K (.ref f28) = true)
    (a29 : PySem.W.nsIn K mainGlobals "_law_ties" = some (some (.ref f29))) (l29 : K.lookup f29 = some ⟨oc29, od29, .func (PySem.W.fnOf "_law_ties" "_law_ties" (defArgs s_law_ties) (defBody s_law_ties) (defScope s_law_ties) .none kV29 dc29 pm29 an29 cd29 ct29), sl29⟩) (c29 : PySem.W.codeIn K cd29 "_law_ties" = true) (k29 : PySem.W.keepIn K (.ref f29) = true)
    (a30 : PySem.W.nsIn K mainGlobals "_law_grown" = some (some (.ref f30))) (l30 : K.lookup f30 = some ⟨oc30, od30, .func (PySem.W.fnOf "_law_grown" "_law_grown" (defArgs s_law_grown) (defBody s_law_grown) (defScope s_law_grown) .none kV30 dc30 pm30 an30 cd30 ct30), sl30⟩) (c30 : PySem.W.codeIn K cd30 "_law_grown" = true) (k30 : PySem.W.keepIn K (.ref f30) = true)
    (a31 : PySem.W.nsIn K mainGlobals "_law_text" = some (some (.ref f31))) (l31 : K.lookup f31 = some ⟨oc31, od31, .func (PySem.W.fnOf "_law_text" "_law_text" (defArgs s_law_text) (defBody s_law_text) (defScope s_law_text) .none kV31 dc31 pm31 an31 cd31 ct31), sl31⟩) (c31 : PySem.W.codeIn K cd31 "_law_text" = true) (k31 : PySem.W.keepIn K (.ref f31) = true)
    (a32 : PySem.W.nsIn K mainGlobals "_law_walk_of" = some (some (.ref f32))) (l32 : K.lookup f32 = some ⟨oc32, od32, .func (PySem.W.fnOf "_law_walk_of" "_law_walk_of" (defArgs s_law_walk_of) (defBody s_law_walk_of) (defScope s_law_walk_of) .none kV32 dc32 pm32 an32 cd32 ct32), sl32⟩) (c32 : PySem.W.codeIn K cd32 "_law_walk_of" = true) (k32 : PySem.W.keepIn K (.ref f32) = true)
    (a33 : PySem.W.nsIn K mainGlobals "_law_bent" = some (some (.ref f33))) (l33 : K.lookup f33 = some ⟨oc33, od33, .func (PySem.W.fnOf "_law_bent" "_law_bent" (defArgs s_law_bent) (defBody s_law_bent) (defScope s_law_bent) .none kV33 dc33 pm33 an33 cd33 ct33), sl33⟩) (c33 : PySem.W.codeIn K cd33 "_law_bent" = true) (k33 : PySem.W.keepIn K (.ref f33) = true)
    (a34 : PySem.W.nsIn K mainGlobals "_law_texts_right" = some (some (.ref f34))) (l34 : K.lookup f34 = some ⟨oc34, od34, .func (PySem.W.fnOf "_law_texts_right" "_law_texts_right" (defArgs s_law_texts_right) (defBody s_law_texts_right) (defScope s_law_texts_right) .none kV34 dc34 pm34 an34 cd34 ct34), sl34⟩) (c34 : PySem.W.codeIn K cd34 "_law_texts_right" = true) (k34 : PySem.W.keepIn K (.ref f34) = true)
    (a35 : PySem.W.nsIn K mainGlobals "_law_right" = some (some (.ref f35))) (l35 : K.lookup f35 = some ⟨oc35, od35, .func (PySem.W.fnOf "_law_right" "_law_right" (defArgs s_law_right) (defBody s_law_right) (defScope s_law_right) .none kV35 dc35 pm35 an35 cd35 ct35), sl35⟩) (c35 : PySem.W.codeIn K cd35 "_law_right" = true) (k35 : PySem.W.keepIn K (.ref f35) = true)
    (a36 : PySem.W.nsIn K mainGlobals "law" = some (some (.ref f36))) (l36 : K.lookup f36 = some ⟨oc36, od36, .func (PySem.W.fnOf "law" "law" (defArgs slaw) (defBody slaw) (defScope slaw) .none kV36 dc36 pm36 an36 cd36 ct36), sl36⟩) (c36 : PySem.W.codeIn K cd36 "law" = true) (k36 : PySem.W.keepIn K (.ref f36) = true)
    (pgC : PySem.W.plainGet K C Str.empty = true) (hdC : PySem.W.hasDictIn K C = true) (poC : PySem.W.plainOver K C = true) (saC : PySem.W.findIn K (.ref C) "__setattr__" = some (some (.builtin "object.__setattr__"))) (mkC : PySem.W.makesIn K C = true) (kcC : PySem.W.keepIn K (.ref C) = true)
    (n0C : PySem.W.findIn K (.ref C) "_places" = some none)
    (n1C : PySem.W.findIn K (.ref C) "_ties" = some none)
    (n2C : PySem.W.findIn K (.ref C) "_ties_from" = some none)
    (n3C : PySem.W.findIn K (.ref C) "_ties_to" = some none)
    (q1C : PySem.W.findIn K (.ref C) "__class__" = some (some (.builtin "object.__class__"))) (q2C : PySem.W.specialIn K (.builtin "object.__class__") "__get__" = some (some (.builtin "getset_descriptor.__get__"))) (q3C : PySem.W.takesIn K (.builtin "object.__class__") = some true) (q4C : PySem.W.mroIn K C (.type "object") = some true)
    (w1C : PySem.W.findIn K (.ref C) "__ne__" = some (some (.builtin "object.__ne__")))
    (pgC2 : PySem.W.plainGet K C2 Str.empty = true) (hdC2 : PySem.W.hasDictIn K C2 = true) (poC2 : PySem.W.plainOver K C2 = true) (saC2 : PySem.W.findIn K (.ref C2) "__setattr__" = some (some (.builtin "object.__setattr__"))) (mkC2 : PySem.W.makesIn K C2 = true) (kcC2 : PySem.W.keepIn K (.ref C2) = true)
    (n0C2 : PySem.W.findIn K (.ref C2) "_pieces" = some none)
    (n1C2 : PySem.W.findIn K (.ref C2) "_words" = some none)
    (n2C2 : PySem.W.findIn K (.ref C2) "_web" = some none)
    (q1C2 : PySem.W.findIn K (.ref C2) "__class__" = some (some (.builtin "object.__class__"))) (q2C2 : PySem.W.specialIn K (.builtin "object.__class__") "__get__" = some (some (.builtin "getset_descriptor.__get__"))) (q3C2 : PySem.W.takesIn K (.builtin "object.__class__") = some true) (q4C2 : PySem.W.mroIn K C2 (.type "object") = some true)
    (w1C2 : PySem.W.findIn K (.ref C2) "__ne__" = some (some (.builtin "object.__ne__")))
    (w2C2 : PySem.W.notFirst K C2 (.type "list") = true) (w3C2 : PySem.W.isClsIn K C2 = true) (w4C2 : PySem.W.typeIn K (.ref C2) = some (.type "type")) (w5C2 : PySem.W.subIn K (.type "list") (.ref C2) = some false)
    (z0 : PySem.W.nsIn K mainGlobals "isinstance" = some none)
    (z1 : PySem.W.nsIn K mainGlobals "int" = some none)
    (z2 : PySem.W.nsIn K mainGlobals "bool" = some none)
    (z3 : PySem.W.nsIn K mainGlobals "str" = some none)
    (z4 : PySem.W.nsIn K mainGlobals "list" = some none)
    (z5 : PySem.W.nsIn K mainGlobals "tuple" = some none)
    (z6 : PySem.W.nsIn K mainGlobals "len" = some none)
    (z7 : PySem.W.nsIn K mainGlobals "range" = some none)
    (z8 : PySem.W.nsIn K mainGlobals "abs" = some none)
    (z9 : PySem.W.nsIn K mainGlobals "max" = some none)
    (z10 : PySem.W.nsIn K mainGlobals "divmod" = some none)
    (z11 : PySem.W.nsIn K mainGlobals "enumerate" = some none)
    (z12 : PySem.W.nsIn K mainGlobals "all" = some none)
    (z13 : PySem.W.nsIn K mainGlobals "sorted" = some none)
    (z14 : PySem.W.nsIn K mainGlobals "set" = some none)
    (y0 : PySem.W.nsIn K mainGlobals "MOST_PLACES" = some (some (.int 60 t0)))
    (y1 : PySem.W.nsIn K mainGlobals "MOST_TIES" = some (some (.int 80 t1)))
    (y2 : PySem.W.nsIn K mainGlobals "LONGEST_WALK" = some (some (.int 400 t2)))
    (y3 : PySem.W.nsIn K mainGlobals "MOST_LETTERS" = some (some (.int 400 t3)))
    (y4 : PySem.W.nsIn K mainGlobals "MOST_PIECES" = some (some (.int 80 t4)))
    (y5 : PySem.W.nsIn K mainGlobals "MOST_WORDS" = some (some (.int 60 t5)))
    : ∃ fd : FuncData, (∀ (s : Shared) (v : Value), BindsTo s fd ⟨[v], []⟩ [("_law_script", v)]) ∧ ∀ base : Heap, K.In base → base.Ns mainGlobals mg → FnOk l.prog w K mg base CX0 12 fa fd ["_law_script"] (splaw K 0 0) := by
  have e := hfa.symm.trans (PySem.W.mg_of X G a36)
  cases e
  have B : Bs mg := ⟨PySem.W.mg_none_of X G z0, PySem.W.mg_none_of X G z1, PySem.W.mg_none_of X G z2, PySem.W.mg_none_of X G z3, PySem.W.mg_none_of X G z4, PySem.W.mg_none_of X G z5, PySem.W.mg_none_of X G z6, PySem.W.mg_none_of X G z7, PySem.W.mg_none_of X G z8, PySem.W.mg_none_of X G z9, PySem.W.mg_none_of X G z10, PySem.W.mg_none_of X G z11, PySem.W.mg_none_of X G z12, PySem.W.mg_none_of X G z13, PySem.W.mg_none_of X G z14⟩
  have Glb : Glo mg := ⟨⟨t0, PySem.W.mg_of X G y0⟩, ⟨t1, PySem.W.mg_of X G y1⟩, ⟨t2, PySem.W.mg_of X G y2⟩, ⟨t3, PySem.W.mg_of X G y3⟩, ⟨t4, PySem.W.mg_of X G y4⟩, ⟨t5, PySem.W.mg_of X G y5⟩⟩
  have WK : WebK K mg C := ⟨⟨pgC, hdC, poC, saC⟩, n0C, n1C, n2C, n3C, PySem.W.mg_of X G aC, q1C, q2C, q3C, q4C, (by unfold PySem.W.kitOne; exact if_pos (beq_self_eq_true _)), w1C⟩
  have PK : PieceK K mg C2 := ⟨⟨pgC2, hdC2, poC2, saC2⟩, n0C2, n1C2, n2C2, PySem.W.mg_of X G aC2, q1C2, q2C2, q3C2, q4C2, (by unfold PySem.W.kitOne; exact if_pos (beq_self_eq_true _)), w1C2, w2C2, kit_noL w3C2 w4C2 w5C2⟩
  have DWeb___init__ : DefI K C "__init__" "Web.__init__" sWeb___init__ ["self", "places", "ties"] := ⟨fM0, _, fun_mk (st := sWeb___init__) lM0 cM0 kM0, ⟨mkC, aM0, iM0, kcC⟩, (fun_mk (st := sWeb___init__) lM0 cM0 kM0).binds (ps := ["self", "places", "ties"]) fun _ _ _ _ _ _ us hl => match us, hl with | [_, _, _], _ => rfl⟩
  have DWeb___eq__ : DefM K C "__eq__" "Web.__eq__" sWeb___eq__ ["self", "other"] := ⟨fM1, _, fun_mk (st := sWeb___eq__) lM1 cM1 kM1, ⟨aM1, iM1, kM1⟩, (fun_mk (st := sWeb___eq__) lM1 cM1 kM1).binds (ps := ["self", "other"]) fun _ _ _ _ _ _ us hl => match us, hl with | [_, _], _ => rfl⟩
  have DWeb_places : DefP K C "places" "Web.places" sWeb_places ["self"] := ⟨pM2, fM2, _, fun_mk (st := sWeb_places) lM2 cM2 kM2, ⟨aM2, gM2, tM2, _, rM2⟩, (fun_mk (st := sWeb_places) lM2 cM2 kM2).binds (ps := ["self"]) fun _ _ _ _ _ _ us hl => match us, hl with | [_], _ => rfl⟩
  have DWeb_many : DefP K C "many" "Web.many" sWeb_many ["self"] := ⟨pM3, fM3, _, fun_mk (st := sWeb_many) lM3 cM3 kM3, ⟨aM3, gM3, tM3, _, rM3⟩, (fun_mk (st := sWeb_many) lM3 cM3 kM3).binds (ps := ["self"]) fun _ _ _ _ _ _ us hl => match us, hl with | [_], _ => rfl⟩
  have DWeb_ties : DefM K C "ties" "Web.ties" sWeb_ties ["self"] := ⟨fM4, _, fun_mk (st := sWeb_ties) lM4 cM4 kM4, ⟨aM4, iM4, kM4⟩, (fun_mk (st := sWeb_ties) lM4 cM4 kM4).binds (ps := ["self"]) fun _ _ _ _ _ _ us hl => match us, hl with | [_], _ => rfl⟩
  have DPieceWeb___init__ : DefI K C2 "__init__" "PieceWeb.__init__" sPieceWeb___init__ ["self", "pieces"] := ⟨fM5, _, fun_mk (st := sPieceWeb___init__) lM5 cM5 kM5, ⟨mkC2, aM5, iM5, kcC2⟩, (fun_mk (st := sPieceWeb___init__) lM5 cM5 kM5).binds (ps := ["self", "pieces"]) fun _ _ _ _ _ _ us hl => match us, hl with | [_, _], _ => rfl⟩
  have DPieceWeb___eq__ : DefM K C2 "__eq__" "PieceWeb.__eq__" sPieceWeb___eq__ ["self", "other"] := ⟨fM6, _, fun_mk (st := sPieceWeb___eq__) lM6 cM6 kM6, ⟨aM6, iM6, kM6⟩, (fun_mk (st := sPieceWeb___eq__) lM6 cM6 kM6).binds (ps := ["self", "other"]) fun _ _ _ _ _ _ us hl => match us, hl with | [_, _], _ => rfl⟩
  have DPieceWeb_size : DefP K C2 "size" "PieceWeb.size" sPieceWeb_size ["self"] := ⟨pM7, fM7, _, fun_mk (st := sPieceWeb_size) lM7 cM7 kM7, ⟨aM7, gM7, tM7, _, rM7⟩, (fun_mk (st := sPieceWeb_size) lM7 cM7 kM7).binds (ps := ["self"]) fun _ _ _ _ _ _ us hl => match us, hl with | [_], _ => rfl⟩
  have DPieceWeb_web : DefM K C2 "web" "PieceWeb.web" sPieceWeb_web ["self"] := ⟨fM8, _, fun_mk (st := sPieceWeb_web) lM8 cM8 kM8, ⟨aM8, iM8, kM8⟩, (fun_mk (st := sPieceWeb_web) lM8 cM8 kM8).binds (ps := ["self"]) fun _ _ _ _ _ _ us hl => match us, hl with | [_], _ => rfl⟩
  have DPieceWeb_pieces : DefM K C2 "pieces" "PieceWeb.pieces" sPieceWeb_pieces ["self"] := ⟨fM9, _, fun_mk (st := sPieceWeb_pieces) lM9 cM9 kM9, ⟨aM9, iM9, kM9⟩, (fun_mk (st := sPieceWeb_pieces) lM9 cM9 kM9).binds (ps := ["self"]) fun _ _ _ _ _ _ us hl => match us, hl with | [_], _ => rfl⟩
  have DPieceWeb_words : DefM K C2 "words" "PieceWeb.words" sPieceWeb_words ["self"] := ⟨fM10, _, fun_mk (st := sPieceWeb_words) lM10 cM10 kM10, ⟨aM10, iM10, kM10⟩, (fun_mk (st := sPieceWeb_words) lM10 cM10 kM10).binds (ps := ["self"]) fun _ _ _ _ _ _ us hl => match us, hl with | [_], _ => rfl⟩
  have DPieceWeb_word_at : DefM K C2 "word_at" "PieceWeb.word_at" sPieceWeb_word_at ["self", "place"] := ⟨fM11, _, fun_mk (st := sPieceWeb_word_at) lM11 cM11 kM11, ⟨aM11, iM11, kM11⟩, (fun_mk (st := sPieceWeb_word_at) lM11 cM11 kM11).binds (ps := ["self", "place"]) fun _ _ _ _ _ _ us hl => match us, hl with | [_, _], _ => rfl⟩
  have DPieceWeb_letter_of : DefM K C2 "letter_of" "PieceWeb.letter_of" sPieceWeb_letter_of ["self", "tie"] := ⟨fM12, _, fun_mk (st := sPieceWeb_letter_of) lM12 cM12 kM12, ⟨aM12, iM12, kM12⟩, (fun_mk (st := sPieceWeb_letter_of) lM12 cM12 kM12).binds (ps := ["self", "tie"]) fun _ _ _ _ _ _ us hl => match us, hl with | [_, _], _ => rfl⟩
  have DPieceWeb_text_of : DefM K C2 "text_of" "PieceWeb.text_of" sPieceWeb_text_of ["self", "walk"] := ⟨fM13, _, fun_mk (st := sPieceWeb_text_of) lM13 cM13 kM13, ⟨aM13, iM13, kM13⟩, (fun_mk (st := sPieceWeb_text_of) lM13 cM13 kM13).binds (ps := ["self", "walk"]) fun _ _ _ _ _ _ us hl => match us, hl with | [_, _], _ => rfl⟩
  have DPieceWeb_walk_of : DefM K C2 "walk_of" "PieceWeb.walk_of" sPieceWeb_walk_of ["self", "text"] := ⟨fM14, _, fun_mk (st := sPieceWeb_walk_of) lM14 cM14 kM14, ⟨aM14, iM14, kM14⟩, (fun_mk (st := sPieceWeb_walk_of) lM14 cM14 kM14).binds (ps := ["self", "text"]) fun _ _ _ _ _ _ us hl => match us, hl with | [_, _], _ => rfl⟩
  have DPieceWeb__letters_of : DefM K C2 "_letters_of" "PieceWeb._letters_of" sPieceWeb__letters_of ["self", "ties"] := ⟨fM15, _, fun_mk (st := sPieceWeb__letters_of) lM15 cM15 kM15, ⟨aM15, iM15, kM15⟩, (fun_mk (st := sPieceWeb__letters_of) lM15 cM15 kM15).binds (ps := ["self", "ties"]) fun _ _ _ _ _ _ us hl => match us, hl with | [_, _], _ => rfl⟩
  have DPieceWeb__ties_along : DefM K C2 "_ties_along" "PieceWeb._ties_along" sPieceWeb__ties_along ["self", "text"] := ⟨fM16, _, fun_mk (st := sPieceWeb__ties_along) lM16 cM16 kM16, ⟨aM16, iM16, kM16⟩, (fun_mk (st := sPieceWeb__ties_along) lM16 cM16 kM16).binds (ps := ["self", "text"]) fun _ _ _ _ _ _ us hl => match us, hl with | [_, _], _ => rfl⟩
  have Dis_integer : Def K mg "is_integer" sis_integer ["value"] := def_mk X G a0 l0 c0 k0 fun _ _ _ _ _ _ us hl => match us, hl with | [_], _ => rfl
  have Dis_count : Def K mg "is_count" sis_count ["value"] := def_mk X G a1 l1 c1 k1 fun _ _ _ _ _ _ us hl => match us, hl with | [_], _ => rfl
  have Dis_between : Def K mg "is_between" sis_between ["value", "least", "most"] := def_mk X G a2 l2 c2 k2 fun _ _ _ _ _ _ us hl => match us, hl with | [_, _, _], _ => rfl
  have Dis_below : Def K mg "is_below" sis_below ["value", "limit"] := def_mk X G a3 l3 c3 k3 fun _ _ _ _ _ _ us hl => match us, hl with | [_, _], _ => rfl
  have Dis_size : Def K mg "is_size" sis_size ["value"] := def_mk X G a4 l4 c4 k4 fun _ _ _ _ _ _ us hl => match us, hl with | [_], _ => rfl
  have Dis_listed : Def K mg "is_listed" sis_listed ["value"] := def_mk X G a5 l5 c5 k5 fun _ _ _ _ _ _ us hl => match us, hl with | [_], _ => rfl
  have Dis_letter : Def K mg "is_letter" sis_letter ["sign"] := def_mk X G a6 l6 c6 k6 fun _ _ _ _ _ _ us hl => match us, hl with | [_], _ => rfl
  have Dis_text : Def K mg "is_text" sis_text ["value"] := def_mk X G a7 l7 c7 k7 fun _ _ _ _ _ _ us hl => match us, hl with | [_], _ => rfl
  have Dneed_text : Def K mg "need_text" sneed_text ["text"] := def_mk X G a8 l8 c8 k8 fun _ _ _ _ _ _ us hl => match us, hl with | [_], _ => rfl
  have Dwords_of : Def K mg "words_of" swords_of ["pieces"] := def_mk X G a9 l9 c9 k9 fun _ _ _ _ _ _ us hl => match us, hl with | [_], _ => rfl
  have Dare_pieces : Def K mg "are_pieces" sare_pieces ["value"] := def_mk X G a10 l10 c10 k10 fun _ _ _ _ _ _ us hl => match us, hl with | [_], _ => rfl
  have Dneed_pieces : Def K mg "need_pieces" sneed_pieces ["pieces"] := def_mk X G a11 l11 c11 k11 fun _ _ _ _ _ _ us hl => match us, hl with | [_], _ => rfl
  have Dpieces_along : Def K mg "pieces_along" spieces_along ["text", "size"] := def_mk X G a12 l12 c12 k12 fun _ _ _ _ _ _ us hl => match us, hl with | [_, _], _ => rfl
  have Dare_ties : Def K mg "are_ties" sare_ties ["places", "value"] := def_mk X G a13 l13 c13 k13 fun _ _ _ _ _ _ us hl => match us, hl with | [_, _], _ => rfl
  have Dneed_web : Def K mg "need_web" sneed_web ["web"] := def_mk X G a14 l14 c14 k14 fun _ _ _ _ _ _ us hl => match us, hl with | [_], _ => rfl
  have Dneed_place : Def K mg "need_place" sneed_place ["web", "place"] := def_mk X G a15 l15 c15 k15 fun _ _ _ _ _ _ us hl => match us, hl with | [_, _], _ => rfl
  have Dneed_tie : Def K mg "need_tie" sneed_tie ["web", "tie"] := def_mk X G a16 l16 c16 k16 fun _ _ _ _ _ _ us hl => match us, hl with | [_, _], _ => rfl
  have Dare_numbers : Def K mg "are_numbers" sare_numbers ["web", "value"] := def_mk X G a17 l17 c17 k17 fun _ _ _ _ _ _ us hl => match us, hl with | [_, _], _ => rfl
  have D_go_on : Def K mg "_go_on" s_go_on ["web", "value", "longest"] := def_mk X G a18 l18 c18 k18 fun _ _ _ _ _ _ us hl => match us, hl with | [_, _, _], _ => rfl
  have Dis_walk : Def K mg "is_walk" sis_walk ["web", "value"] := def_mk X G a19 l19 c19 k19 fun _ _ _ _ _ _ us hl => match us, hl with | [_, _], _ => rfl
  have Dneed_walk : Def K mg "need_walk" sneed_walk ["web", "walk"] := def_mk X G a20 l20 c20 k20 fun _ _ _ _ _ _ us hl => match us, hl with | [_, _], _ => rfl
  have Dcopied_web : Def K mg "copied_web" scopied_web ["web"] := def_mk X G a21 l21 c21 k21 fun _ _ _ _ _ _ us hl => match us, hl with | [_], _ => rfl
  have D_web_of : Def K mg "_web_of" s_web_of ["words", "pieces"] := def_mk X G a22 l22 c22 k22 fun _ _ _ _ _ _ us hl => match us, hl with | [_, _], _ => rfl
  have D_need_letters : Def K mg "_need_letters" s_need_letters ["many"] := def_mk X G a23 l23 c23 k23 fun _ _ _ _ _ _ us hl => match us, hl with | [_], _ => rfl
  have D_law_pot : Def K mg "_law_pot" s_law_pot ["_law_script", "_law_k"] := def_mk X G a24 l24 c24 k24 fun _ _ _ _ _ _ us hl => match us, hl with | [_, _], _ => rfl
  have D_law_draw : Def K mg "_law_draw" s_law_draw ["_law_pot_here", "_law_size"] := def_mk X G a25 l25 c25 k25 fun _ _ _ _ _ _ us hl => match us, hl with | [_, _], _ => rfl
  have D_law_pick : Def K mg "_law_pick" s_law_pick ["_law_pot_here", "_law_some"] := def_mk X G a26 l26 c26 k26 fun _ _ _ _ _ _ us hl => match us, hl with | [_, _], _ => rfl
  have D_law_pieces_drawn : Def K mg "_law_pieces_drawn" s_law_pieces_drawn ["_law_pot_here", "_law_size", "_law_most"] := def_mk X G a27 l27 c27 k27 fun _ _ _ _ _ _ us hl => match us, hl with | [_, _, _], _ => rfl
  have D_law_words : Def K mg "_law_words" s_law_words ["_law_pieces"] := def_mk X G a28 l28 c28 k28 fun _ _ _ _ _ _ us hl => match us, hl with | [_], _ => rfl
  have D_law_ties : Def K mg "_law_ties" s_law_ties ["_law_pieces"] := def_mk X G a29 l29 c29 k29 fun _ _ _ _ _ _ us hl => match us, hl with | [_], _ => rfl
  have D_law_grown : Def K mg "_law_grown" s_law_grown ["_law_pot_here", "_law_ties_here", "_law_many"] := def_mk X G a30 l30 c30 k30 fun _ _ _ _ _ _ us hl => match us, hl with | [_, _, _], _ => rfl
  have D_law_text : Def K mg "_law_text" s_law_text ["_law_pieces", "_law_walk"] := def_mk X G a31 l31 c31 k31 fun _ _ _ _ _ _ us hl => match us, hl with | [_, _], _ => rfl
  have D_law_walk_of : Def K mg "_law_walk_of" s_law_walk_of ["_law_pieces", "_law_text_here"] := def_mk X G a32 l32 c32 k32 fun _ _ _ _ _ _ us hl => match us, hl with | [_, _], _ => rfl
  have D_law_bent : Def K mg "_law_bent" s_law_bent ["_law_pot_here", "_law_text_here"] := def_mk X G a33 l33 c33 k33 fun _ _ _ _ _ _ us hl => match us, hl with | [_, _], _ => rfl
  have D_law_texts_right : Def K mg "_law_texts_right" s_law_texts_right ["_law_pot_here", "_law_web", "_law_pieces", "_law_ties_here"] := def_mk X G a34 l34 c34 k34 fun _ _ _ _ _ _ us hl => match us, hl with | [_, _, _, _], _ => rfl
  have D_law_right : Def K mg "_law_right" s_law_right ["_law_pot_here"] := def_mk X G a35 l35 c35 k35 fun _ _ _ _ _ _ us hl => match us, hl with | [_], _ => rfl
  have Dlaw : Def K mg "law" slaw ["_law_script"] := def_mk X G a36 l36 c36 k36 fun _ _ _ _ _ _ us hl => match us, hl with | [_], _ => rfl
  refine ⟨PySem.W.fnOf "law" "law" (defArgs slaw) (defBody slaw) (defScope slaw) .none kV36 dc36 pm36 an36 cd36 ct36, fun s v => .of_eq rfl, fun base _ _ => ?_⟩
  have H_law_draw := ok_law_draw (P := l.prog) (w := w) (base := base) D_law_draw B Glb WK PK
  have H_law_pick := ok_law_pick (P := l.prog) (w := w) (base := base) D_law_pick B Glb WK PK H_law_draw
  have H_law_pieces_drawn := ok_law_pieces_drawn (P := l.prog) (w := w) (base := base) D_law_pieces_drawn B Glb WK PK H_law_pick H_law_draw
  have H_law_grown := ok_law_grown (P := l.prog) (w := w) (base := base) D_law_grown B Glb WK PK H_law_draw H_law_pick
  have H_law_text := ok_law_text (P := l.prog) (w := w) (base := base) D_law_text B Glb WK PK
  have H_law_bent := ok_law_bent (P := l.prog) (w := w) (base := base) D_law_bent B Glb WK PK H_law_pick H_law_draw
  have H_law_walk_of := ok_law_walk_of (P := l.prog) (w := w) (base := base) D_law_walk_of B Glb WK PK
  have Hneed_web := okneed_web (P := l.prog) (w := w) (base := base) Dneed_web B Glb WK PK
  have His_listed := okis_listed (P := l.prog) (w := w) (base := base) Dis_listed B Glb WK PK
  have His_integer := okis_integer (P := l.prog) (w := w) (base := base) Dis_integer B Glb WK PK
  have His_between := okis_between (P := l.prog) (w := w) (base := base) Dis_between B Glb WK PK His_integer
  have His_count := okis_count (P := l.prog) (w := w) (base := base) Dis_count B Glb WK PK His_integer
  have His_below := okis_below (P := l.prog) (w := w) (base := base) Dis_below B Glb WK PK His_count
  have HWeb_many := okWeb_many (P := l.prog) (w := w) (base := base) DWeb_many B Glb WK PK
  have Hare_numbers := okare_numbers (P := l.prog) (w := w) (base := base) Dare_numbers B Glb WK PK His_listed His_below HWeb_many
  have HWeb_ties := okWeb_ties (P := l.prog) (w := w) (base := base) DWeb_ties B Glb WK PK
  have H_go_on := ok_go_on (P := l.prog) (w := w) (base := base) D_go_on B Glb WK PK His_listed His_between Hare_numbers HWeb_ties
  have His_walk := okis_walk (P := l.prog) (w := w) (base := base) Dis_walk B Glb WK PK Hneed_web H_go_on
  have Hneed_walk := okneed_walk (P := l.prog) (w := w) (base := base) Dneed_walk B Glb WK PK His_walk
  have H_need_letters := ok_need_letters (P := l.prog) (w := w) (base := base) D_need_letters B Glb WK PK
  have HPieceWeb__letters_of := okPieceWeb__letters_of (P := l.prog) (w := w) (base := base) DPieceWeb__letters_of B Glb WK PK
  have HPieceWeb_size := okPieceWeb_size (P := l.prog) (w := w) (base := base) DPieceWeb_size B Glb WK PK
  have HPieceWeb_text_of := okPieceWeb_text_of (P := l.prog) (w := w) (base := base) DPieceWeb_text_of B Glb WK PK Hneed_walk H_need_letters HPieceWeb__letters_of HPieceWeb_size
  have His_letter := okis_letter (P := l.prog) (w := w) (base := base) Dis_letter B Glb WK PK
  have His_text := okis_text (P := l.prog) (w := w) (base := base) Dis_text B Glb WK PK His_letter
  have Hneed_text := okneed_text (P := l.prog) (w := w) (base := base) Dneed_text B Glb WK PK His_text
  have Hpieces_along := okpieces_along (P := l.prog) (w := w) (base := base) Dpieces_along B Glb WK PK
  have HPieceWeb__ties_along := okPieceWeb__ties_along (P := l.prog) (w := w) (base := base) DPieceWeb__ties_along B Glb WK PK Hpieces_along HPieceWeb_size
  have HPieceWeb_walk_of := okPieceWeb_walk_of (P := l.prog) (w := w) (base := base) DPieceWeb_walk_of B Glb WK PK Hneed_text HPieceWeb_size HPieceWeb__ties_along
  have H_law_texts_right := ok_law_texts_right (P := l.prog) (w := w) (base := base) D_law_texts_right B Glb WK PK H_law_grown H_law_text H_law_draw H_law_bent H_law_walk_of HPieceWeb_text_of HPieceWeb_walk_of
  have H_law_words := ok_law_words (P := l.prog) (w := w) (base := base) D_law_words B Glb WK PK
  have H_law_ties := ok_law_ties (P := l.prog) (w := w) (base := base) D_law_ties B Glb WK PK H_law_words
  have HWeb___eq__ := okWeb___eq__ (P := l.prog) (w := w) (base := base) DWeb___eq__ B Glb WK PK
  have HPieceWeb___eq__ := okPieceWeb___eq__ (P := l.prog) (w := w) (base := base) DPieceWeb___eq__ B Glb WK PK
  have His_size := okis_size (P := l.prog) (w := w) (base := base) Dis_size B Glb WK PK His_between
  have Hwords_of := okwords_of (P := l.prog) (w := w) (base := base) Dwords_of B Glb WK PK
  have Hare_pieces := okare_pieces (P := l.prog) (w := w) (base := base) Dare_pieces B Glb WK PK His_listed His_between His_text His_size Hwords_of
  have Hneed_pieces := okneed_pieces (P := l.prog) (w := w) (base := base) Dneed_pieces B Glb WK PK Hare_pieces
  have Hare_ties := okare_ties (P := l.prog) (w := w) (base := base) Dare_ties B Glb WK PK His_listed His_below
  have HWeb___init__ := okWeb___init__ (P := l.prog) (w := w) (base := base) DWeb___init__ B Glb WK PK His_between Hare_ties
  have H_web_of := ok_web_of (P := l.prog) (w := w) (base := base) D_web_of B Glb WK PK HWeb___init__
  have HPieceWeb___init__ := okPieceWeb___init__ (P := l.prog) (w := w) (base := base) DPieceWeb___init__ B Glb WK PK Hneed_pieces Hwords_of H_web_of
  have HPieceWeb_pieces := okPieceWeb_pieces (P := l.prog) (w := w) (base := base) DPieceWeb_pieces B Glb WK PK
  have HPieceWeb_words := okPieceWeb_words (P := l.prog) (w := w) (base := base) DPieceWeb_words B Glb WK PK
  have HWeb_places := okWeb_places (P := l.prog) (w := w) (base := base) DWeb_places B Glb WK PK
  have Hneed_place := okneed_place (P := l.prog) (w := w) (base := base) Dneed_place B Glb WK PK His_below HWeb_places
  have HPieceWeb_word_at := okPieceWeb_word_at (P := l.prog) (w := w) (base := base) DPieceWeb_word_at B Glb WK PK Hneed_place
  have Hneed_tie := okneed_tie (P := l.prog) (w := w) (base := base) Dneed_tie B Glb WK PK His_below HWeb_many
  have HPieceWeb_letter_of := okPieceWeb_letter_of (P := l.prog) (w := w) (base := base) DPieceWeb_letter_of B Glb WK PK Hneed_tie
  have Hcopied_web := okcopied_web (P := l.prog) (w := w) (base := base) Dcopied_web B Glb WK PK HWeb___init__ HWeb_places HWeb_ties
  have HPieceWeb_web := okPieceWeb_web (P := l.prog) (w := w) (base := base) DPieceWeb_web B Glb WK PK Hcopied_web
  have H_law_right := ok_law_right (P := l.prog) (w := w) (base := base) D_law_right B Glb WK PK H_law_pieces_drawn H_law_texts_right H_law_draw H_law_words H_law_ties HWeb___eq__ HPieceWeb___eq__ HPieceWeb___init__ HPieceWeb_size HPieceWeb_pieces HPieceWeb_words HWeb___init__ HWeb_ties HPieceWeb_word_at HPieceWeb_letter_of HPieceWeb_web
  have H_law_pot := ok_law_pot (P := l.prog) (w := w) (base := base) D_law_pot B Glb WK PK
  have Hlaw := oklaw (P := l.prog) (w := w) (base := base) Dlaw B Glb WK PK H_law_right H_law_pot
  obtain ⟨f, fd, O, m, k, b, F⟩ := Hlaw
  have e2 := m.symm.trans hfa
  cases e2
  rw [fd_is F l36] at O
  exact O
theorem walk {l : PySem.W.OpenLaw} {q : Program} {loose : List Str} {XP : (Str → Option Value) → Heap → Prop} {YP : World → Heap → Prop} {d : DefRec} {K : Params → PySem.W.Frag} (hn : l.most = some 63) (hdf : d.params.defaults = [])
    (hY : ∀ (w : World) (h : Heap), YP w h → (K w.params).In h)
    (F : ∀ (w : World) (mg : Str → Option Value) (fa : Addr) (h : Heap), (K w.params).In h → h.Ns mainGlobals mg → mg d.name = some (.ref fa) →
      ∃ fd : FuncData, (∀ (s : Shared) (u : Value), BindsTo s fd ⟨[u], []⟩ [("_law_script", u)]) ∧ ∀ base : Heap, (K w.params).In base → base.Ns mainGlobals mg → FnOk l.prog w (K w.params) mg base CX0 12 fa fd ["_law_script"] (splaw (K w.params) 0 0)) :
    PySem.W.WalkO q loose XP YP l.row.toRowW d [] (fun f vs => PySem.call f vs) :=
  L2.walk_of (n := 63) (k := 12) (x := "_law_script") (CX := fun _ => CX0) (sp := fun w => splaw (K w.params) 0 0) hn (by decide) hdf ⟨rfl, by decide, by decide⟩ hY F (fun _ _ a ns hl _ hS => ⟨a, ns, rfl, hS, hl, fun _ => rfl⟩) fun _ _ _ _ _ z => z
end My
open PySem PySem.W PyProof.Rows
set_option maxRecDepth 100000 in
set_option maxHeartbeats 0 in
theorem PySem.Challenge.cw_suretexts_k26_whole_piece_webs_holds : PySem.Challenge.rw_suretexts_k26_whole_piece_webs.Holds := by
  w_on; o_law; k_head; (case hw => w_witness2)
  k_fill
  refine My.walk (l := PySem.Challenge.rw_suretexts_k26_whole_piece_webs) rfl rfl (fun w h Y => PySem.W.kIn_of Y) ?F
  case F =>
    intro w mg fa h KX G hmg
    refine' My.all_mk KX G hmg ?aC ?aC2 ?aM0 ?iM0 ?lM0 ?cM0 ?kM0 ?aM1 ?iM1 ?lM1 ?cM1 ?kM1 ?aM2 ?gM2 ?tM2 ?rM2 ?lM2 ?cM2 ?kM2 ?aM3 ?gM3 ?tM3 ?rM3 ?lM3 ?cM3 ?kM3 ?aM4 ?iM4 ?lM4 ?cM4 ?kM4 ?aM5 ?iM5 ?lM5 ?cM5 ?kM5 ?aM6 ?iM6 ?lM6 ?cM6 ?kM6 ?aM7 ?gM7 ?tM7 ?rM7 ?lM7 ?cM7 ?kM7 ?aM8 ?iM8 ?lM8 ?cM8 ?kM8 ?aM9 ?iM9 ?lM9 ?cM9 ?kM9 ?aM10 ?iM10 ?lM10 ?cM10 ?kM10 ?aM11 ?iM11 ?lM11 ?cM11 ?kM11 ?aM12 ?iM12 ?lM12 ?cM12 ?kM12 ?aM13 ?iM13 ?lM13 ?cM13 ?kM13 ?aM14 ?iM14 ?lM14 ?cM14 ?kM14 ?aM15 ?iM15 ?lM15 ?cM15 ?kM15 ?aM16 ?iM16 ?lM16 ?cM16 ?kM16 ?a0 ?l0 ?c0 ?k0 ?a1 ?l1 ?c1 ?k1 ?a2 ?l2 ?c2 ?k2 ?a3 ?l3 ?c3 ?k3 ?a4 ?l4 ?c4 ?k4 ?a5 ?l5 ?c5 ?k5 ?a6 ?l6 ?c6 ?k6 ?a7 ?l7 ?c7 ?k7 ?a8 ?l8 ?c8 ?k8 ?a9 ?l9 ?c9 ?k9 ?a10 ?l10 ?c10 ?k10 ?a11 ?l11 ?c11 ?k11 ?a12 ?l12 ?c12 ?k12 ?a13 ?l13 ?c13 ?k13 ?a14 ?l14 ?c14 ?k14 ?a15 ?l15 ?c15 ?k15 ?a16 ?l16 ?c16 ?k16 ?a17 ?l17 ?c17 ?k17 ?a18 ?l18 ?c18 ?k18 ?a19 ?l19 ?c19 ?k19 ?a20 ?l20 ?c20 ?k20 ?a21 ?l21 ?c21 ?k21 ?a22 ?l22 ?c22 ?k22 ?a23 ?l23 ?c23 ?k23 ?a24 ?l24 ?c24 ?k24 ?a25 ?l25 ?c25 ?k25 ?a26 ?l26 ?c26 ?k26 ?a27 ?l27 ?c27 ?k27 ?a28 ?l28 ?c28 ?k28 ?a29 ?l29 ?c29 ?k29 ?a30 ?l30 ?c30 ?k30 ?a31 ?l31 ?c31 ?k31 ?a32 ?l32 ?c32 ?k32 ?a33 ?l33 ?c33 ?k33 ?a34 ?l34 ?c34 ?k34 ?a35 ?l35 ?c35 ?k35 ?a36 ?l36 ?c36 ?k36 ?pgC ?hdC ?poC ?saC ?mkC ?kcC ?n0C ?n1C ?n2C ?n3C ?q1C ?q2C ?q3C ?q4C ?w1C ?pgC2 ?hdC2 ?poC2 ?saC2 ?mkC2 ?kcC2 ?n0C2 ?n1C2 ?n2C2 ?q1C2 ?q2C2 ?q3C2 ?q4C2 ?w1C2 ?w2C2 ?w3C2 ?w4C2 ?w5C2 ?z0 ?z1 ?z2 ?z3 ?z4 ?z5 ?z6 ?z7 ?z8 ?z9 ?z10 ?z11 ?z12 ?z13 ?z14 ?y0 ?y1 ?y2 ?y3 ?y4 ?y5
    (case aC => k_is)
    (case aC2 => k_is)
    (case aM0 => k_is)
    (case iM0 => k_is)
    (case lM0 => k_is)
    (case cM0 => k_is)
    (case kM0 => k_is)
    (case aM1 => k_is)
    (case iM1 => k_is)
    (case lM1 => k_is)
    (case cM1 => k_is)
    (case kM1 => k_is)
    (case aM2 => k_is)
    (case gM2 => k_is)
    (case tM2 => k_is)
    (case rM2 => k_is)
    (case lM2 => k_is)
    (case cM2 => k_is)
    (case kM2 => k_is)
    (case aM3 => k_is)
    (case gM3 => k_is)
    (case tM3 => k_is)
    (case rM3 => k_is)
    (case lM3 => k_is)
    (case cM3 => k_is)
    (case kM3 => k_is)
    (case aM4 => k_is)
    (case iM4 => k_is)
    (case lM4 => k_is)
    (case cM4 => k_is)
    (case kM4 => k_is)
    (case aM5 => k_is)
    (case iM5 => k_is)
    (case lM5 => k_is)
    (case cM5 => k_is)
    (case kM5 => k_is)
    (case aM6 => k_is)
    (case iM6 => k_is)
    (case lM6 => k_is)
    (case cM6 => k_is)
    (case kM6 => k_is)
    (case aM7 => k_is)
    (case gM7 => k_is)
    (case tM7 => k_is)
    (case rM7 => k_is)
    (case lM7 => k_is)
    (case cM7 => k_is)
    (case kM7 => k_is)
    (case aM8 => k_is)
    (case iM8 => k_is)
    (case lM8 => k_is)
    (case cM8 => k_is)
    (case kM8 => k_is)
    (case aM9 => k_is)
    (case iM9 => k_is)
    (case lM9 => k_is)
    (case cM9 => k_is)
    (case kM9 => k_is)
    (case aM10 => k_is)
    (case iM10 => k_is)
    (case lM10 => k_is)
    (case cM10 => k_is)
    (case kM10 => k_is)
    (case aM11 => k_is)
    (case iM11 => k_is)
    (case lM11 => k_is)
    (case cM11 => k_is)
    (case kM11 => k_is)
    (case aM12 => k_is)
    (case iM12 => k_is)
    (case lM12 => k_is)
    (case cM12 => k_is)
    (case kM12 => k_is)
    (case aM13 => k_is)
    (case iM13 => k_is)
    (case lM13 => k_is)
    (case cM13 => k_is)
    (case kM13 => k_is)
    (case aM14 => k_is)
    (case iM14 => k_is)
    (case lM14 => k_is)
    (case cM14 => k_is)
    (case kM14 => k_is)
    (case aM15 => k_is)
    (case iM15 => k_is)
    (case lM15 => k_is)
    (case cM15 => k_is)
    (case kM15 => k_is)
    (case aM16 => k_is)
    (case iM16 => k_is)
    (case lM16 => k_is)
    (case cM16 => k_is)
    (case kM16 => k_is)
    (case a0 => k_is)
    (case l0 => k_is)
    (case c0 => k_is)
    (case k0 => k_is)
    (case a1 => k_is)
    (case l1 => k_is)
    (case c1 => k_is)
    (case k1 => k_is)
    (case a2 => k_is)
    (case l2 => k_is)
    (case c2 => k_is)
    (case k2 => k_is)
    (case a3 => k_is)
    (case l3 => k_is)
    (case c3 => k_is)
    (case k3 => k_is)
    (case a4 => k_is)
    (case l4 => k_is)
    (case c4 => k_is)
    (case k4 => k_is)
    (case a5 => k_is)
    (case l5 => k_is)
    (case c5 => k_is)
    (case k5 => k_is)
    (case a6 => k_is)
    (case l6 => k_is)
    (case c6 => k_is)
    (case k6 => k_is)
    (case a7 => k_is)
    (case l7 => k_is)
    (case c7 => k_is)
    (case k7 => k_is)
    (case a8 => k_is)
    (case l8 => k_is)
    (case c8 => k_is)
    (case k8 => k_is)
    (case a9 => k_is)
    (case l9 => k_is)
    (case c9 => k_is)
    (case k9 => k_is)
    (case a10 => k_is)
    (case l10 => k_is)
    (case c10 => k_is)
    (case k10 => k_is)
    (case a11 => k_is)
    (case l11 => k_is)
    (case c11 => k_is)
    (case k11 => k_is)
    (case a12 => k_is)
    (case l12 => k_is)
    (case c12 => k_is)
    (case k12 => k_is)
    (case a13 => k_is)
    (case l13 => k_is)
    (case c13 => k_is)
    (case k13 => k_is)
    (case a14 => k_is)
    (case l14 => k_is)
    (case c14 => k_is)
    (case k14 => k_is)
    (case a15 => k_is)
    (case l15 => k_is)
    (case c15 => k_is)
    (case k15 => k_is)
    (case a16 => k_is)
    (case l16 => k_is)
    (case c16 => k_is)
    (case k16 => k_is)
    (case a17 => k_is)
    (case l17 => k_is)
    (case c17 => k_is)
    (case k17 => k_is)
    (case a18 => k_is)
    (case l18 => k_is)
    (case c18 => k_is)
    (case k18 => k_is)
    (case a19 => k_is)
    (case l19 => k_is)
    (case c19 => k_is)
    (case k19 => k_is)
    (case a20 => k_is)
    (case l20 => k_is)
    (case c20 => k_is)
    (case k20 => k_is)
    (case a21 => k_is)
    (case l21 => k_is)
    (case c21 => k_is)
    (case k21 => k_is)
    (case a22 => k_is)
    (case l22 => k_is)
    (case c22 => k_is)
    (case k22 => k_is)
    (case a23 => k_is)
    (case l23 => k_is)
    (case c23 => k_is)
    (case k23 => k_is)
    (case a24 => k_is)
    (case l24 => k_is)
    (case c24 => k_is)
    (case k24 => k_is)
    (case a25 => k_is)
    (case l25 => k_is)
    (case c25 => k_is)
    (case k25 => k_is)
    (case a26 => k_is)
    (case l26 => k_is)
    (case c26 => k_is)
    (case k26 => k_is)
    (case a27 => k_is)
    (case l27 => k_is)
    (case c27 => k_is)
    (case k27 => k_is)
    (case a28 => k_is)
    (case l28 => k_is)
    (case c28 => k_is)
    (case k28 => k_is)
    (case a29 => k_is)
    (case l29 => k_is)
    (case c29 => k_is)
    (case k29 => k_is)
    (case a30 => k_is)
    (case l30 => k_is)
    (case c30 => k_is)
    (case k30 => k_is)
    (case a31 => k_is)
    (case l31 => k_is)
    (case c31 => k_is)
    (case k31 => k_is)
    (case a32 => k_is)
    (case l32 => k_is)
    (case c32 => k_is)
    (case k32 => k_is)
    (case a33 => k_is)
    (case l33 => k_is)
    (case c33 => k_is)
    (case k33 => k_is)
    (case a34 => k_is)
    (case l34 => k_is)
    (case c34 => k_is)
    (case k34 => k_is)
    (case a35 => k_is)
    (case l35 => k_is)
    (case c35 => k_is)
    (case k35 => k_is)
    (case a36 => k_is)
    (case l36 => k_is)
    (case c36 => k_is)
    (case k36 => k_is)
    (case pgC => k_is)
    (case hdC => k_is)
    (case poC => k_is)
    (case saC => k_is)
    (case mkC => k_is)
    (case kcC => k_is)
    (case n0C => k_is)
    (case n1C => k_is)
    (case n2C => k_is)
    (case n3C => k_is)
    (case q1C => k_is)
    (case q2C => k_is)
    (case q3C => k_is)
    (case q4C => k_is)
    (case w1C => k_is)
    (case pgC2 => k_is)
    (case hdC2 => k_is)
    (case poC2 => k_is)
    (case saC2 => k_is)
    (case mkC2 => k_is)
    (case kcC2 => k_is)
    (case n0C2 => k_is)
    (case n1C2 => k_is)
    (case n2C2 => k_is)
    (case q1C2 => k_is)
    (case q2C2 => k_is)
    (case q3C2 => k_is)
    (case q4C2 => k_is)
    (case w1C2 => k_is)
    (case w2C2 => k_is)
    (case w3C2 => k_is)
    (case w4C2 => k_is)
    (case w5C2 => k_is)
    (case z0 => k_is)
    (case z1 => k_is)
    (case z2 => k_is)
    (case z3 => k_is)
    (case z4 => k_is)
    (case z5 => k_is)
    (case z6 => k_is)
    (case z7 => k_is)
    (case z8 => k_is)
    (case z9 => k_is)
    (case z10 => k_is)
    (case z11 => k_is)
    (case z12 => k_is)
    (case z13 => k_is)
    (case z14 => k_is)
    (case y0 => k_is)
    (case y1 => k_is)
    (case y2 => k_is)
    (case y3 => k_is)
    (case y4 => k_is)
    (case y5 => k_is)
