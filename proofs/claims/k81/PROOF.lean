import PyProof.Rows.All
import Wide.All
import OpenK.AllK
import Wide.FinOn
import HandS.ForMost
import HandS.IsInst
import HandS.SortInts
import HandS.Walk
import HandS.Property
import HandS.Style
import HandS.OwnEq
import PyProof.InstNe
import HandS.MakeKwOnly
import HandS.Iter
import HandS.DictComp
import HandS.Small
import HandS.DictTup
import KE.SortData
import KE.KDictWalk
import HandS.ListItems
import HandS.More
import HandS.Set
import HandS.Strs
import PyProof.TupleOfSeq
import PySem.Challenge.RW_suretexts_k81_whole_deeds_undone_and_red
set_option Elab.async false
set_option maxRecDepth 100000
set_option linter.all false
namespace My
/-! ### reading round and round -/
def rd (l : List Nat) (p n : Nat) : List Nat := (List.range n).map fun k => l.getD ((p + k) % l.length) 0
theorem rd_len (l : List Nat) (p n : Nat) : (rd l p n).length = n := by simp [rd]
theorem rd_zero (l : List Nat) (p : Nat) : rd l p 0 = [] := rfl
theorem rd_succ (l : List Nat) (p n : Nat) : rd l p (n + 1) = rd l p n ++ [l.getD ((p + n) % l.length) 0] := by
  simp [rd, List.range_succ]
theorem rd_get (l : List Nat) (p n k : Nat) (h : k < n) : (rd l p n)[k]? = some (l.getD ((p + k) % l.length) 0) := by
  simp [rd, h]
theorem rd_drop (l : List Nat) (p n k : Nat) : (rd l p n).drop k = rd l (p + k) (n - k) := by
  apply List.ext_getElem?
  intro i
  rw [List.getElem?_drop]
  by_cases h : k + i < n
  · rw [rd_get _ _ _ _ h, rd_get _ _ _ _ (by omega), Nat.add_assoc]
  · rw [List.getElem?_eq_none (by rw [rd_len]; omega), List.getElem?_eq_none (by rw [rd_len]; omega)]
theorem rd_mod (l : List Nat) (p n : Nat) : rd l (p % l.length) n = rd l p n := by
  unfold rd
  apply List.map_congr_left
  intro k _
  rw [Nat.mod_add_mod]
theorem rd_self (l : List Nat) : rd l 0 l.length = l := by
  apply List.ext_getElem?
  intro i
  by_cases h : i < l.length
  · rw [rd_get _ _ _ _ h, Nat.zero_add, Nat.mod_eq_of_lt h, List.getElem?_eq_getElem h, List.getD_eq_getElem?_getD, List.getElem?_eq_getElem h]
    rfl
  · rw [List.getElem?_eq_none (by rw [rd_len]; omega), List.getElem?_eq_none (by omega)]
/-- turned -/
theorem rd_turn (l : List Nat) (p : Nat) (h : p < l.length) : rd l p l.length = l.drop p ++ l.take p := by
  apply List.ext_getElem?
  intro i
  by_cases hi : i < l.length
  · rw [rd_get _ _ _ _ hi]
    by_cases h2 : i < l.length - p
    · rw [List.getElem?_append_left (by rw [List.length_drop]; exact h2), List.getElem?_drop, Nat.mod_eq_of_lt (by omega), List.getElem?_eq_getElem (by omega), List.getD_eq_getElem?_getD, List.getElem?_eq_getElem (by omega)]
      rfl
    · rw [List.getElem?_append_right (by rw [List.length_drop]; omega), List.length_drop, List.getElem?_take_of_lt (by omega)]
      have e : (p + i) % l.length = i - (l.length - p) := by
        rw [Nat.mod_eq_sub_mod (by omega), Nat.mod_eq_of_lt (by omega)]
        omega
      rw [e, List.getElem?_eq_getElem (by omega), List.getD_eq_getElem?_getD, List.getElem?_eq_getElem (by omega)]
      rfl
  · rw [List.getElem?_eq_none (by rw [rd_len]; omega), List.getElem?_eq_none (by rw [List.length_append, List.length_drop, List.length_take]; omega)]
/-- reading from a turned ring -/
theorem rd_turned (l : List Nat) (b p n : Nat) (hl : 0 < l.length) : rd (rd l b l.length) p n = rd l (b + p) n := by
  unfold rd
  apply List.map_congr_left
  intro k _
  have e : ((List.range l.length).map fun k => l.getD ((b + k) % l.length) 0).length = l.length := by simp
  rw [e]
  have h2 : (p + k) % l.length < l.length := Nat.mod_lt _ hl
  rw [List.getD_eq_getElem?_getD, List.getElem?_map, List.getElem?_range h2]
  show l.getD ((b + (p + k) % l.length) % l.length) 0 = _
  rw [Nat.add_mod_mod, Nat.add_assoc]

/-! ### beginnings that are endings -/
def Pre (w t : List Nat) (k : Nat) : Prop := k ≤ w.length ∧ w.take k <:+ t
def Longest (w t : List Nat) (k : Nat) : Prop := Pre w t k ∧ ∀ k', Pre w t k' → k' ≤ k
def IsLB (p : List Nat) (b : Nat) : Prop := b < p.length ∧ p.take b <:+ p ∧ ∀ b', b' < p.length → p.take b' <:+ p → b' ≤ b
def At (w t : List Nat) (c k : Nat) : Prop := Pre w t k ∧ ∀ k', Pre w t k' → w[k']? = some c → k' ≤ k
theorem suff_one {a t : List Nat} {x c : Nat} : a ++ [x] <:+ t ++ [c] ↔ a <:+ t ∧ x = c := by
  constructor
  · rintro ⟨u, hu⟩
    rw [← List.append_assoc] at hu
    have h := List.append_inj' hu rfl
    exact ⟨⟨u, h.1⟩, by simpa using h.2⟩
  · rintro ⟨⟨u, hu⟩, rfl⟩
    exact ⟨u, by rw [← hu, List.append_assoc]⟩
theorem pre_succ {w t : List Nat} {c k : Nat} : Pre w (t ++ [c]) (k + 1) ↔ Pre w t k ∧ w[k]? = some c := by
  unfold Pre
  constructor
  · rintro ⟨h1, h2⟩
    have hk : k < w.length := by omega
    rw [List.take_succ_eq_append_getElem hk, suff_one] at h2
    exact ⟨⟨by omega, h2.1⟩, by rw [List.getElem?_eq_getElem hk, h2.2]⟩
  · rintro ⟨⟨h1, h2⟩, h3⟩
    have hk : k < w.length := by
      rw [List.getElem?_eq_some_iff] at h3
      exact h3.1
    rw [List.take_succ_eq_append_getElem hk, suff_one]
    rw [List.getElem?_eq_getElem hk] at h3
    exact ⟨by omega, h2, Option.some.inj h3⟩
theorem pre_zero (w t : List Nat) : Pre w t 0 := ⟨Nat.zero_le _, by simp⟩
theorem at_start {w t : List Nat} {c k : Nat} (h : Longest w t k) : At w t c k := ⟨h.1, fun k' h' _ => h.2 k' h'⟩
theorem at_fall {w t : List Nat} {c k b : Nat} (h : At w t c k) (hne : w[k]? ≠ some c) (hb : IsLB (w.take k) b) : At w t c b := by
  obtain ⟨h1, h2⟩ := h
  obtain ⟨b1, b2, b3⟩ := hb
  have lk : (w.take k).length = k := by rw [List.length_take]; have := h1.1; omega
  rw [lk] at b1 b3
  have tk : ∀ j, j ≤ k → (w.take k).take j = w.take j := fun j hj => by rw [List.take_take, Nat.min_eq_left hj]
  refine ⟨⟨by have := h1.1; omega, ?_⟩, fun k' p' e' => ?_⟩
  · rw [← tk b (by omega)]
    exact b2.trans h1.2
  · have l1 := h2 k' p' e'
    have l2 : k' ≠ k := by rintro rfl; exact hne e'
    have l3 : k' < k := by omega
    refine b3 k' l3 ?_
    rw [tk k' (by omega)]
    refine List.suffix_of_suffix_length_le p'.2 h1.2 ?_
    rw [List.length_take, List.length_take]
    have := h1.1
    omega
theorem at_hit {w t : List Nat} {c k : Nat} (h : At w t c k) (he : w[k]? = some c) : Longest w (t ++ [c]) (k + 1) := by
  refine ⟨pre_succ.mpr ⟨h.1, he⟩, fun k' p' => ?_⟩
  cases k' with
  | zero => omega
  | succ j =>
    have q := pre_succ.mp p'
    have := h.2 j q.1 q.2
    omega
theorem at_miss {w t : List Nat} {c : Nat} (h : At w t c 0) (he : w[0]? ≠ some c) : Longest w (t ++ [c]) 0 := by
  refine ⟨pre_zero _ _, fun k' p' => ?_⟩
  cases k' with
  | zero => omega
  | succ j =>
    have q := pre_succ.mp p'
    have l := h.2 j q.1 q.2
    have e : j = 0 := by omega
    subst e
    exact absurd q.2 he
theorem longest_nil (w : List Nat) : Longest w [] 0 := by
  refine ⟨pre_zero _ _, fun k' p' => ?_⟩
  have h := List.suffix_nil.mp p'.2
  have h2 : (w.take k').length = 0 := by rw [h]; rfl
  rw [List.length_take] at h2
  have := p'.1
  omega
theorem longest_le {w t : List Nat} {k : Nat} (h : Longest w t k) : k ≤ t.length := by
  have h1 := h.1.2.length_le
  rw [List.length_take] at h1
  have := h.1.1
  omega
/-- the longest beginning that ends the letters behind the first one is the longest border -/
theorem lb_of_longest {w : List Nat} {i k : Nat} (hi : i < w.length) (h : Longest w ((w.drop 1).take i) k) : IsLB (w.take (i + 1)) k := by
  have hk := longest_le h
  have ht : ((w.drop 1).take i).length = i := by rw [List.length_take, List.length_drop]; omega
  rw [ht] at hk
  have hl : (w.take (i + 1)).length = i + 1 := by rw [List.length_take]; omega
  have tk : ∀ j, j ≤ i + 1 → (w.take (i + 1)).take j = w.take j := fun j hj => by rw [List.take_take, Nat.min_eq_left hj]
  obtain ⟨a, r, rfl⟩ : ∃ a r, w = a :: r := by
    cases w with
    | nil => simp at hi
    | cons a r => exact ⟨a, r, rfl⟩
  have e : (a :: r).take (i + 1) = a :: ((a :: r).drop 1).take i := by simp
  refine ⟨by omega, ?_, fun b' hb' hs => ?_⟩
  · rw [tk k (by omega), e]
    exact h.1.2.trans (List.suffix_cons _ _)
  · rw [hl] at hb'
    refine h.2 b' ⟨by omega, ?_⟩
    rw [tk b' (by omega), e, List.suffix_cons_iff] at hs
    rcases hs with hs | hs
    · have hq := congrArg List.length hs
      rw [List.length_take, ← e, hl] at hq
      omega
    · exact hs
theorem lb_one {w : List Nat} (h : 0 < w.length) : IsLB (w.take 1) 0 := lb_of_longest h (by simpa using longest_nil w)
theorem lb_unique {p : List Nat} {a b : Nat} (h1 : IsLB p a) (h2 : IsLB p b) : a = b := by
  have := h1.2.2 b h2.1 h2.2.1
  have := h2.2.2 a h1.1 h1.2.1
  omega
/-- the list of the longest borders -/
def Bords (w : List Nat) (L : List Nat) : Prop := L.length = w.length ∧ ∀ j, j < w.length → ∃ b, L[j]? = some b ∧ IsLB (w.take (j + 1)) b
theorem bords_unique {w A B : List Nat} (h1 : Bords w A) (h2 : Bords w B) : A = B := by
  apply List.ext_getElem?
  intro i
  by_cases h : i < w.length
  · obtain ⟨a, ea, la⟩ := h1.2 i h
    obtain ⟨b, eb, lb⟩ := h2.2 i h
    rw [ea, eb, lb_unique la lb]
  · rw [List.getElem?_eq_none (by rw [h1.1]; omega), List.getElem?_eq_none (by rw [h2.1]; omega)]
/-- some first ones of them -/
def BordsTo (w : List Nat) (n : Nat) (L : List Nat) : Prop := L.length = n ∧ ∀ j, j < n → ∃ b, L[j]? = some b ∧ IsLB (w.take (j + 1)) b
theorem bordsTo_one {w : List Nat} (h : 0 < w.length) : BordsTo w 1 [0] := by
  refine ⟨rfl, fun j hj => ?_⟩
  have e : j = 0 := by omega
  subst e
  exact ⟨0, rfl, lb_one h⟩
theorem bordsTo_succ {w L : List Nat} {i k : Nat} (hi : i < w.length) (hB : BordsTo w i L) (h : Longest w ((w.drop 1).take i) k) : BordsTo w (i + 1) (L ++ [k]) := by
  refine ⟨by rw [List.length_append, hB.1]; rfl, fun j hj => ?_⟩
  by_cases hji : j < i
  · obtain ⟨b, e, l⟩ := hB.2 j hji
    exact ⟨b, by rw [List.getElem?_append_left (by rw [hB.1]; exact hji)]; exact e, l⟩
  · have e : j = i := by omega
    subst e
    refine ⟨k, ?_, lb_of_longest hi h⟩
    rw [List.getElem?_append_right (by rw [hB.1]; omega), hB.1, Nat.sub_self]
    rfl
theorem bordsTo_at {w L : List Nat} {n k : Nat} (hB : BordsTo w n L) (h0 : 0 < k) (hk : k ≤ n) : ∃ b, L[k - 1]? = some b ∧ IsLB (w.take k) b ∧ b < k := by
  obtain ⟨b, e, l⟩ := hB.2 (k - 1) (by omega)
  rw [show k - 1 + 1 = k by omega] at l
  refine ⟨b, e, l, ?_⟩
  have := l.1
  rw [List.length_take] at this
  omega
theorem bords_of {w L : List Nat} : BordsTo w w.length L ↔ Bords w L := Iff.rfl

/-! ### a word begins at a place -/
def due (l w : List Nat) : List Nat := (List.range l.length).filter fun p => rd l p w.length == w
theorem mem_due {l w : List Nat} {p : Nat} : p ∈ due l w ↔ p < l.length ∧ rd l p w.length = w := by
  simp [due]
/-- of the first n letters read -/
def dueTo (l w : List Nat) (n : Nat) : List Nat := (List.range n).filter fun p => rd l p w.length == w
theorem dueTo_all (l w : List Nat) : dueTo l w l.length = due l w := rfl
theorem dueTo_succ_yes {l w : List Nat} {n : Nat} (h : rd l n w.length = w) : dueTo l w (n + 1) = dueTo l w n ++ [n] := by
  simp [dueTo, List.range_succ, List.filter_append, h]
theorem dueTo_succ_no {l w : List Nat} {n : Nat} (h : ¬ rd l n w.length = w) : dueTo l w (n + 1) = dueTo l w n := by
  simp [dueTo, List.range_succ, List.filter_append, h]
/-- the whole word was just read -/
theorem longest_full {l w : List Nat} {n k : Nat} (h : Longest w (rd l 0 n) k) : k = w.length ↔ w.length ≤ n ∧ rd l (n - w.length) w.length = w := by
  have key : w <:+ rd l 0 n ↔ w.length ≤ n ∧ rd l (n - w.length) w.length = w := by
    constructor
    · intro hs
      have hl := hs.length_le
      rw [rd_len] at hl
      refine ⟨hl, ?_⟩
      have e := List.suffix_iff_eq_drop.mp hs
      rw [rd_len, rd_drop, Nat.zero_add, show n - (n - w.length) = w.length by omega] at e
      exact e.symm
    · rintro ⟨hl, e⟩
      rw [List.suffix_iff_eq_drop, rd_len, rd_drop, Nat.zero_add, show n - (n - w.length) = w.length by omega]
      exact e.symm
  rw [← key]
  constructor
  · rintro rfl
    have := h.1.2
    rw [List.take_length] at this
    exact this
  · intro hs
    have h1 := h.1.1
    have h2 := h.2 w.length ⟨Nat.le_refl _, by rw [List.take_length]; exact hs⟩
    omega

/-! ### the period -/
theorem getD_lt {l : List Nat} {i : Nat} (h : i < l.length) : l[i]? = some (l.getD i 0) := by
  rw [List.getD_eq_getElem?_getD, List.getElem?_eq_getElem h]
  rfl
theorem line_period {l : List Nat} {b : Nat} (h : IsLB l b) (i : Nat) (hi : i + (l.length - b) < l.length) : l.getD (i + (l.length - b)) 0 = l.getD i 0 := by
  have hb := h.1
  have e := List.suffix_iff_eq_drop.mp h.2.1
  have hl : (l.take b).length = b := by rw [List.length_take]; omega
  rw [hl] at e
  have e2 := congrArg (fun z : List Nat => z[i]?) e
  simp only [List.getElem?_take, List.getElem?_drop] at e2
  rw [if_pos (by omega)] at e2
  rw [List.getD_eq_getElem?_getD, List.getD_eq_getElem?_getD, e2, Nat.add_comm]
theorem line_mult {l : List Nat} {s : Nat} (h : ∀ i, i + s < l.length → l.getD (i + s) 0 = l.getD i 0) : ∀ (m i : Nat), i + m * s < l.length → l.getD (i + m * s) 0 = l.getD i 0
  | 0, i, _ => by simp
  | m + 1, i, hi => by
    have e : i + (m + 1) * s = (i + m * s) + s := by rw [Nat.succ_mul]; omega
    rw [e] at hi ⊢
    rw [h _ hi]
    exact line_mult h m i (by omega)
theorem round_period {l : List Nat} {s : Nat} (_hs : 0 < s) (hsl : s ≤ l.length) (hd : l.length % s = 0) (h : ∀ i, i + s < l.length → l.getD (i + s) 0 = l.getD i 0) (i : Nat) (hi : i < l.length) : l.getD ((i + s) % l.length) 0 = l.getD i 0 := by
  by_cases hlt : i + s < l.length
  · rw [Nat.mod_eq_of_lt hlt]
    exact h i hlt
  · have e1 : (i + s) % l.length = i + s - l.length := by
      rw [Nat.mod_eq_sub_mod (by omega), Nat.mod_eq_of_lt (by omega)]
    rw [e1]
    obtain ⟨q, hq⟩ : ∃ q, l.length = s * q := ⟨l.length / s, by rw [Nat.mul_div_cancel' (Nat.dvd_of_mod_eq_zero hd)]⟩
    have hq0 : 0 < q := by
      rcases Nat.eq_zero_or_pos q with z | z
      · subst z; omega
      · exact z
    obtain ⟨r, rfl⟩ : ∃ r, q = r + 1 := ⟨q - 1, by omega⟩
    have e2 : l.length = r * s + s := by rw [hq, Nat.mul_succ, Nat.mul_comm]
    have e3 : i = (i + s - l.length) + r * s := by omega
    have := line_mult h r (i + s - l.length) (by omega)
    rw [← e3] at this
    exact this.symm
/-- the told period -/
def per (l : List Nat) (b : Nat) : Nat := if l.length % (l.length - b) = 0 then l.length - b else l.length
theorem per_turns {l : List Nat} {b : Nat} (h : IsLB l b) (i : Nat) (hi : i < l.length) : l.getD ((i + per l b) % l.length) 0 = l.getD i 0 := by
  have hb := h.1
  unfold per
  split
  · exact round_period (by omega) (by omega) (by assumption) (fun j hj => line_period h j hj) i hi
  · rw [Nat.add_mod_right, Nat.mod_eq_of_lt hi]
theorem rd_per {l : List Nat} {b : Nat} (h : IsLB l b) (p n : Nat) : rd l (p + per l b) n = rd l p n := by
  have hb := h.1
  unfold rd
  apply List.map_congr_left
  intro k _
  rw [show p + per l b + k = (p + k) + per l b by omega, ← Nat.mod_add_mod]
  rw [per_turns h ((p + k) % l.length) (Nat.mod_lt _ (by omega))]
theorem per_pos {l : List Nat} {b : Nat} (h : IsLB l b) : 0 < per l b ∧ per l b ≤ l.length := by
  have hb := h.1
  unfold per
  split <;> omega

/-! ### rising lists of the same numbers are one list -/
theorem rising_ext : ∀ {a b : List Int}, a.Pairwise (· < ·) → b.Pairwise (· < ·) → (∀ x, x ∈ a ↔ x ∈ b) → a = b
  | [], [], _, _, _ => rfl
  | [], y :: ys, _, _, h => by have := (h y).mpr (by simp); simp at this
  | x :: xs, [], _, _, h => by have := (h x).mp (by simp); simp at this
  | x :: xs, y :: ys, ha, hb, h => by
    rw [List.pairwise_cons] at ha hb
    have e : x = y := by
      have h1 := (h x).mp (by simp)
      have h2 := (h y).mpr (by simp)
      rw [List.mem_cons] at h1 h2
      rcases h1 with h1 | h1
      · exact h1
      · rcases h2 with h2 | h2
        · exact h2.symm
        · have := ha.1 y h2
          have := hb.1 x h1
          omega
    subst e
    congr 1
    refine rising_ext ha.2 hb.2 fun z => ?_
    constructor
    · intro hz
      have := (h z).mp (List.mem_cons_of_mem _ hz)
      rw [List.mem_cons] at this
      rcases this with rfl | this
      · have := ha.1 _ hz; omega
      · exact this
    · intro hz
      have := (h z).mpr (List.mem_cons_of_mem _ hz)
      rw [List.mem_cons] at this
      rcases this with rfl | this
      · have := hb.1 _ hz; omega
      · exact this
theorem rising_of {s : List Int} (h : s.Pairwise (· ≤ ·)) (n : s.Nodup) : s.Pairwise (· < ·) := by
  have := h.and n
  exact this.imp fun ⟨h1, h2⟩ => by omega
/-- sorted, and the same numbers, none twice: that is it -/
theorem sorted_is {s m d : List Int} (hp : List.Perm s m) (hs : s.Pairwise (· ≤ ·)) (hn : m.Nodup) (hd : d.Pairwise (· < ·)) (h : ∀ x, x ∈ m ↔ x ∈ d) : s = d := by
  refine rising_ext (rising_of hs (hp.nodup_iff.mpr hn)) hd fun x => ?_
  rw [hp.mem_iff]
  exact h x
theorem due_rising (l w : List Nat) : ((due l w).map fun n : Nat => (n : Int)).Pairwise (· < ·) := by
  rw [List.pairwise_map]
  refine List.Pairwise.imp (fun {a b} (h : a < b) => by omega) ?_
  exact List.Pairwise.filter _ List.pairwise_lt_range
end My
namespace My
open PySem L2 PyProof.Rows
/-- a text by its letters -/
abbrev T (l : List Nat) : V := .str ⟨l.toArray⟩
section
variable {X : Cx}
theorem mul_flat (l : List Nat) (n : Nat) : ((List.replicate n l.toArray).foldl (· ++ ·) (#[] : Array Nat)) = (List.replicate n l).flatten.toArray := by
  have h : ∀ (m : Nat) (acc : List Nat), (List.replicate m l.toArray).foldl (· ++ ·) acc.toArray = (acc ++ (List.replicate m l).flatten).toArray := by
    intro m
    induction m with
    | zero => intro acc; simp
    | succ m ih =>
      intro acc
      rw [List.replicate_succ, List.foldl_cons]
      have e : acc.toArray ++ l.toArray = (acc ++ l).toArray := by simp
      rw [e, ih, List.replicate_succ, List.flatten_cons, List.append_assoc]
  have := h n []
  simpa using this
theorem op_mul_str : OpR X (binaryOp .Mult) (fun x y H Q => ∃ l n, x = T l ∧ y = .int (n : Nat) ∧ 1 ≤ n ∧ n ≤ 1000 ∧ l.length ≤ 1000 ∧ Q (T (List.replicate n l).flatten) H) := by
  intro pins s σ H x y v u Q I rx ry h
  obtain ⟨l, n, rfl, rfl, h1, h2, h3, q⟩ := h
  obtain ⟨t, rfl⟩ := rx
  obtain ⟨t', rfl⟩ := ry
  have hlen : (⟨l.toArray⟩ : Str).length = l.length := by simp [Str.length]
  have ok : MulOk ⟨l.toArray⟩ (n : Int) := by
    refine ⟨?_, fun _ _ => ?_, fun _ _ => ?_⟩
    · have a1 : decide ((n : Int) < -(2 ^ 63 : Int)) = false := decide_eq_false (by omega)
      have a2 : decide ((n : Int) ≥ 2 ^ 63) = false := decide_eq_false (by omega)
      rw [a1, a2]
      rfl
    · rw [hlen]
      have : (1000000 : Int) ≤ (2 ^ 63 - 1) / (n : Int) := by
        rw [Int.le_ediv_iff_mul_le (by omega)]
        omega
      omega
    · rw [hlen]
      have e : (n : Int).toNat = n := by omega
      rw [e]
      have : l.length * n ≤ 1000 * 1000 := Nat.mul_le_mul h3 h2
      have z : (1000000 : Nat) ≤ sizeLine := by decide
      simp [Builtin.Str.tooLong]
      omega
  refine SB.mul ok fun t'' k => ?_
  have em : Txt.mul ⟨l.toArray⟩ (n : Int) = ⟨(List.replicate n l).flatten.toArray⟩ := by
    unfold Txt.mul
    rw [if_neg (by omega)]
    split
    · rename_i c
      rw [hlen] at c
      simp at c
      rcases c with c | c
      · have : n = 1 := by omega
        subst this
        simp
      · subst c
        simp
    · have e : (n : Int).toNat = n := by omega
      rw [e]
      exact congrArg Str.mk (mul_flat l n)
  rw [em]
  exact ⟨.str _, H, I.tok _, ⟨_, rfl⟩, q⟩
theorem call_repr_bl : CallR X (.builtin "repr") (fun xs H Q => ∃ b, xs = [.bl b] ∧ Q (.str (if b then "True" else "False")) H) := by
  intro pins s σ H xs us Q I r h
  obtain ⟨b, rfl, q⟩ := h
  obtain ⟨u, rfl, e⟩ := vals1 r
  cases e
  exact PySem.P.repr_of_bool ⟨.str _, H, I.tok _, ⟨_, rfl⟩, q⟩
/-- a module's constant that is an int -/
theorem pe_globI {x : Str} {n : Int} {pos : Pos} (h : ∃ t, X.mg x = some (.int n t)) (hg : Gl X x := by rfl) (hd : (x == ("__debug__" : Str)) = false := by decide) : PE X (.Name x pos) (tC (.int n)) := by
  obtain ⟨t, e⟩ := h
  exact pe_glob (v := .int n) hg e ⟨t, rfl⟩ hd
variable {CX : CXT} {k : Nat} {f : Addr} {fd : FuncData} {ps ks : List Str} {sp : Sp} {E : XK} {x : Str} {p pos : Pos} {kws : List Keyword} {tk : TA} {g : List Value → List Value → List Value} {gV : List V → List V → List V}
/-- f(a=.., b=..) -/
theorem pe_callKK (F : FnOk X.prog X.w X.K X.mg X.base CX k f fd ps sp) (hr : Room k X.A) (hg : Gl X x) (hm : X.mg x = some (.ref f)) (hk : PySem.W.keepIn X.K (.ref f) = true) (hb : KBinds X.K fd ps ks g gV) (hx : Passes CX X E)
    (hkw : PK X kws tk) (hall : (backToKw pos (keywordEach kws X.env)).all (·.1.isSome) = true := by rfl) (hks : (backToKw pos (keywordEach kws X.env)).filterMap (·.1) = ks := by rfl)
    (hdb : (x == ("__debug__" : Str)) = false := by decide)
    (hpl : ((backTo pos (starEach [] X.env)).any (·.1) || (backToKw pos (keywordEach kws X.env)).any (·.1.isNone)) = false := by rfl) :
    PE X (.Call (.Name x p) [] kws pos) (tCallK sp gV E tNil tk) := by
  refine ⟨fun pins s σ H Q I h => ?_⟩
  refine wpAny_Call_Name_kw (ld_glob I hg hm ?_ hdb)
  refine PySem.W.callWith_KW0 (h₀ := X.base) I.ok.mod.kin hk hall (thn (hkw.run pos pins s σ H _ I h) fun ws s2 ⟨zs, H2, I2, rz, q2⟩ => ⟨I2.kIn, ?_⟩) hpl
  rw [hks]
  exact run_fnk F hr hb hx I2 .nil rz q2
end
/-! ### a def that stands, and one that keeps a promise -/
def Def (K : PySem.W.Frag) (mg : Str → Option Value) (x : Str) (st : Stmt) (ps : List Str) : Prop := ∃ (f : Addr) (fd : FuncData), Fun K x x st f fd ∧ mg x = some (.ref f) ∧ Binds K fd ps []
section
variable {P : Program} {w : World} {K : PySem.W.Frag} {mg : Str → Option Value} {base : Heap}
def Good (P : Program) (w : World) (K : PySem.W.Frag) (mg : Str → Option Value) (base : Heap) (x : Str) (st : Stmt) (ps : List Str) (k : Nat) (sp : Sp) : Prop := ∃ (f : Addr) (fd : FuncData), FnOk P w K mg base CX0 k f fd ps sp ∧ mg x = some (.ref f) ∧ PySem.W.keepIn K (.ref f) = true ∧ Binds K fd ps [] ∧ Fun K x x st f fd
theorem Def.good {x : Str} {st : Stmt} {ps : List Str} {k : Nat} {sp : Sp} (D : Def K mg x st ps) (h : ∀ f fd, Fun K x x st f fd → FnOk P w K mg base CX0 k f fd ps sp) : Good P w K mg base x st ps k sp := by
  obtain ⟨f, fd, F, m, b⟩ := D
  exact ⟨f, fd, h f fd F, m, F.kp, b, F⟩
theorem def_mk {h : Heap} (X : K.In h) (G : h.Ns mainGlobals mg) {x : Str} {st : Stmt} {ps : List Str} {f : Addr} {oc : Value} {od an : Option Addr} {osl : Array (Option Value)} {kV doc pm cdv ct : Value} (a : PySem.W.nsIn K mainGlobals x = some (some (.ref f)))
    (l : K.lookup f = some ⟨oc, od, .func (PySem.W.fnOf x x (defArgs st) (defBody st) (defScope st) .none kV doc pm an cdv ct), osl⟩) (c : PySem.W.codeIn K cdv x = true) (k : PySem.W.keepIn K (.ref f) = true)
    (hb : ∀ (kV doc pm : Value) (an : Option Addr) (cdv ct : Value) (us : List Value), us.length = ps.length → bindArgs (PySem.W.fnOf x x (defArgs st) (defBody st) (defScope st) .none kV doc pm an cdv ct) ⟨us, []⟩ = pure (ps.zip us)) : Def K mg x st ps :=
  ⟨f, _, fun_mk l c k, PySem.W.mg_of X G a, (fun_mk l c k).binds hb⟩
theorem fun_kbinds {x qual : Str} {st : Stmt} {f : Addr} {fd : FuncData} {ps ks : List Str} (F : Fun K x qual st f fd) (g : List Value → List Value → List Value) (gV : List V → List V → List V)
    (hrel : ∀ {vs : List V} {us : List Value} {zs : List V} {ws : List Value}, Vals vs us → Vals zs ws → Vals (gV vs zs) (g us ws))
    (h : ∀ (kV doc pm : Value) (an : Option Addr) (cdv ct : Value) (us ws : List Value), (g us ws).length = ps.length → bindArgs (PySem.W.fnOf x qual (defArgs st) (defBody st) (defScope st) .none kV doc pm an cdv ct) ⟨us, ks.zip ws⟩ = pure (ps.zip (g us ws))) : KBinds K fd ps ks g gV := by
  obtain ⟨oc, od, kV, doc, pm, an, cdv, ct, osl, rfl, lk, hcd⟩ := F.ex
  exact ⟨fun s us ws X hl => .of_eq (h kV doc pm an cdv ct us ws hl), hrel⟩
/-- two keywords, in the parameters' order, or turned; one -/
def g12 {α : Type} : List α → List α → List α | [], [a, b] => [a, b] | _, _ => []
def g21 {α : Type} : List α → List α → List α | [], [a, b] => [b, a] | _, _ => []
def g1 {α : Type} : List α → List α → List α | [], [a] => [a] | _, _ => []
theorem g12_inv {α : Type} {us ws : List α} (h : (g12 us ws).length = 2) : us = [] ∧ ∃ a b, ws = [a, b] := by
  match us, ws, h with
  | [], [a, b], _ => exact ⟨rfl, a, b, rfl⟩
  | [], [], h => exact absurd h (by simp [g12, g21, g1])
  | [], [_], h => exact absurd h (by simp [g12])
  | [], _ :: _ :: _ :: _, h => exact absurd h (by simp [g12])
  | _ :: _, _, h => exact absurd h (by simp [g12])
theorem g21_inv {α : Type} {us ws : List α} (h : (g21 us ws).length = 2) : us = [] ∧ ∃ a b, ws = [a, b] := by
  match us, ws, h with
  | [], [a, b], _ => exact ⟨rfl, a, b, rfl⟩
  | [], [], h => exact absurd h (by simp [g12, g21, g1])
  | [], [_], h => exact absurd h (by simp [g21])
  | [], _ :: _ :: _ :: _, h => exact absurd h (by simp [g21])
  | _ :: _, _, h => exact absurd h (by simp [g21])
theorem g1_inv {α : Type} {us ws : List α} (h : (g1 us ws).length = 1) : us = [] ∧ ∃ a, ws = [a] := by
  match us, ws, h with
  | [], [a], _ => exact ⟨rfl, a, rfl⟩
  | [], [], h => exact absurd h (by simp [g12, g21, g1])
  | [], _ :: _ :: _, h => exact absurd h (by simp [g1])
  | _ :: _, _, h => exact absurd h (by simp [g1])
theorem rel12 {vs : List V} {us : List Value} {zs : List V} {ws : List Value} (a : Vals vs us) (b : Vals zs ws) : Vals (g12 vs zs) (g12 us ws) := by
  cases a with
  | nil =>
    cases b with
    | nil => exact .nil
    | cons r b =>
      cases b with
      | nil => exact .nil
      | cons r2 b =>
        cases b with
        | nil => exact .cons r (.cons r2 .nil)
        | cons r3 b => exact .nil
  | cons r a => exact .nil
theorem rel21 {vs : List V} {us : List Value} {zs : List V} {ws : List Value} (a : Vals vs us) (b : Vals zs ws) : Vals (g21 vs zs) (g21 us ws) := by
  cases a with
  | nil =>
    cases b with
    | nil => exact .nil
    | cons r b =>
      cases b with
      | nil => exact .nil
      | cons r2 b =>
        cases b with
        | nil => exact .cons r2 (.cons r .nil)
        | cons r3 b => exact .nil
  | cons r a => exact .nil
theorem rel1 {vs : List V} {us : List Value} {zs : List V} {ws : List Value} (a : Vals vs us) (b : Vals zs ws) : Vals (g1 vs zs) (g1 us ws) := by
  cases a with
  | nil =>
    cases b with
    | nil => exact .nil
    | cons r b =>
      cases b with
      | nil => exact .cons r .nil
      | cons r3 b => exact .nil
  | cons r a => exact .nil
end
end My
namespace My
open PySem L2 PyProof.Rows
theorem bl_is1 {x : Bool} {Q : VK} {H : Hp} (h : x = true) (q : Q (.bl true) H) : Q (.bl x) H := by
  rw [h]
  exact q
/-! ### a list that nobody asks for any more is forgotten -/
section
variable {X : Cx} {pins : List (Addr × Obj)} {σ : L2.St} {H1 H2 : Hp} {s : Shared} {D : Addr} {xs : List V}
theorem inv_drop (I : Inv X pins σ H1 s) (e : H1 = upd H2 D (.lst xs)) (n : H2 D = none) : Inv X pins σ H2 s := by
  subst e
  have off : ∀ b, upd H2 D (.lst xs) b = none → H2 b = none := fun b h => by
    by_cases hb : b = D
    · rw [hb]; exact n
    · rw [upd_ne hb] at h; exact h
  have back : ∀ b o, o ≠ HO.lst xs → upd H2 D (.lst xs) b = some o → H2 b = some o := fun b o ho h => by
    by_cases hb : b = D
    · subst hb
      rw [upd_same] at h
      exact absurd (Option.some.inj h).symm ho
    · rw [upd_ne hb] at h; exact h
  refine ⟨I.ok, I.os, I.bare, ?_, I.loc, I.cell, off _ I.free, fun x c h => off _ (I.freeC x c h), fun p hp => ?_, ?_, I.len⟩
  · have u := I.base
    refine ⟨u.keep, u.slot, fun b o h1 h2 h3 => off _ (u.free b o h1 h2 h3), u.there, fun b ys h => back _ _ (by intro z; cases z) (u.tups b ys h), fun b o v h => back _ _ (by intro z; cases z) (u.frzs b o v h), fun b ps h => ?_⟩
    obtain ⟨more, h⟩ := u.tbls b ps h
    exact ⟨more, back _ _ (by intro z; cases z) h⟩
  · obtain ⟨a, b, c⟩ := I.pin p hp
    exact ⟨a, off _ b, c⟩
  · intro a o h
    have ha : a ≠ D := fun z => by rw [z, n] at h; cases h
    refine (I.hok a o (by rw [upd_ne ha]; exact h)).stay (fun _ _ _ z => z) (fun b h => back _ _ (by intro z; cases z) h) (fun b ys h => back _ _ (by intro z; cases z) h)
theorem pe_drop {e : Expr} {te : TE} (he : PE X e te) : PE X e (fun σ H Q => te σ H fun v H1 => ∃ D xs H2, H1 = upd H2 D (.lst xs) ∧ H2 D = none ∧ Q v H2) := by
  refine ⟨fun pins s σ H Q I h => ?_⟩
  exact wpAny_mono (he.run pins s σ H _ I h) (fun u s1 ⟨v, H1, I1, r, D, xs, H2, e, n, q⟩ => ⟨v, H2, inv_drop I1 e n, r, q⟩) fun _ _ h => h
theorem ix_seqK {K : PySem.W.Frag} (h : X.K = K) : IxR X (rIx K) := h ▸ ix_seq
end
end My
namespace My
open PySem L2 PyProof.Rows
/-! ### methods, properties, __init__ of a class at C -/
section
variable {P : Program} {w : World} {K : PySem.W.Frag} {mg : Str → Option Value} {base : Heap} {C : Addr}
def DefM (K : PySem.W.Frag) (C : Addr) (x qual : Str) (st : Stmt) (ps : List Str) : Prop := ∃ (f : Addr) (fd : FuncData), Fun K x qual st f fd ∧ Meth K C x f ∧ Binds K fd ps []
def DefP (K : PySem.W.Frag) (C : Addr) (x qual : Str) (st : Stmt) (ps : List Str) : Prop := ∃ (p f : Addr) (fd : FuncData), Fun K x qual st f fd ∧ PropOf K C x p f ∧ Binds K fd ps []
def DefI (K : PySem.W.Frag) (C : Addr) (x qual : Str) (st : Stmt) (ps : List Str) : Prop := ∃ (f : Addr) (fd : FuncData), Fun K x qual st f fd ∧ Mk K C f ∧ Binds K fd ps []
def GoodM (P : Program) (w : World) (K : PySem.W.Frag) (mg : Str → Option Value) (base : Heap) (C : Addr) (x qual : Str) (st : Stmt) (ps : List Str) (k : Nat) (sp : Sp) : Prop := ∃ (f : Addr) (fd : FuncData), FnOk P w K mg base CX0 k f fd ps sp ∧ Meth K C x f ∧ Binds K fd ps [] ∧ Fun K x qual st f fd
def GoodP (P : Program) (w : World) (K : PySem.W.Frag) (mg : Str → Option Value) (base : Heap) (C : Addr) (x _qual : Str) (_st : Stmt) (ps : List Str) (k : Nat) (sp : Sp) : Prop := ∃ (p f : Addr) (fd : FuncData), FnOk P w K mg base CX0 k f fd ps sp ∧ PropOf K C x p f ∧ Binds K fd ps []
def GoodI (P : Program) (w : World) (K : PySem.W.Frag) (mg : Str → Option Value) (base : Heap) (C : Addr) (x _qual : Str) (_st : Stmt) (ps : List Str) (k : Nat) (sp : Sp) : Prop := ∃ (f : Addr) (fd : FuncData), FnOk P w K mg base CX0 k f fd ps sp ∧ Mk K C f ∧ Binds K fd ps []
theorem DefM.good {x qual : Str} {st : Stmt} {ps : List Str} {k : Nat} {sp : Sp} (D : DefM K C x qual st ps) (h : ∀ f fd, Fun K x qual st f fd → FnOk P w K mg base CX0 k f fd ps sp) : GoodM P w K mg base C x qual st ps k sp := by
  obtain ⟨f, fd, F, m, b⟩ := D
  exact ⟨f, fd, h f fd F, m, b, F⟩
theorem DefP.good {x qual : Str} {st : Stmt} {ps : List Str} {k : Nat} {sp : Sp} (D : DefP K C x qual st ps) (h : ∀ f fd, Fun K x qual st f fd → FnOk P w K mg base CX0 k f fd ps sp) : GoodP P w K mg base C x qual st ps k sp := by
  obtain ⟨p, f, fd, F, m, b⟩ := D
  exact ⟨p, f, fd, h f fd F, m, b⟩
theorem DefI.good {x qual : Str} {st : Stmt} {ps : List Str} {k : Nat} {sp : Sp} (D : DefI K C x qual st ps) (h : ∀ f fd, Fun K x qual st f fd → FnOk P w K mg base CX0 k f fd ps sp) : GoodI P w K mg base C x qual st ps k sp := by
  obtain ⟨f, fd, F, m, b⟩ := D
  exact ⟨f, fd, h f fd F, m, b⟩
end
def g123 {α : Type} : List α → List α → List α | [], [a, b, c] => [a, b, c] | _, _ => []
theorem g123_inv {α : Type} {us ws : List α} (h : (g123 us ws).length = 3) : us = [] ∧ ∃ a b c, ws = [a, b, c] := by
  unfold g123 at h
  split at h
  · exact ⟨rfl, _, _, _, rfl⟩
  · simp at h
theorem rel123 {vs : List V} {us : List Value} {zs : List V} {ws : List Value} (a : Vals vs us) (b : Vals zs ws) : Vals (g123 vs zs) (g123 us ws) := by
  cases a with
  | cons h t => exact .nil
  | nil => cases b with
    | nil => exact .nil
    | cons h1 t => cases t with
      | nil => exact .nil
      | cons h2 t => cases t with
        | nil => exact .nil
        | cons h3 t => cases t with
          | nil => exact .cons h1 (.cons h2 (.cons h3 .nil))
          | cons h4 t => exact .nil
/-- self, then one keyword -/
def gm1 {α : Type} : List α → List α → List α | [a], [b] => [a, b] | _, _ => []
theorem gm1_inv {α : Type} {us ws : List α} (h : (gm1 us ws).length = 2) : ∃ a b, us = [a] ∧ ws = [b] := by
  unfold gm1 at h
  split at h
  · exact ⟨_, _, rfl, rfl⟩
  · simp at h
theorem relm1 {vs : List V} {us : List Value} {zs : List V} {ws : List Value} (a : Vals vs us) (b : Vals zs ws) : Vals (gm1 vs zs) (gm1 us ws) := by
  cases a with
  | nil => exact .nil
  | cons h t => cases t with
    | cons h2 t => exact .nil
    | nil => cases b with
      | nil => exact .nil
      | cons h1 t => cases t with
        | nil => exact .cons h (.cons h1 .nil)
        | cons h2 t => exact .nil
/-! ### a list or a tuple, gone through -/
section
variable {X : Cx}
theorem pi_or {tg e : Expr} {w1 w2 : TI} (h1 : PI X tg e w1) (h2 : PI X tg e w2) : PI X tg e (fun σ H R => w1 σ H R ∨ w2 σ H R) := by
  constructor
  intro pins s σ H R I h
  rcases h with h | h
  · exact h1.run pins s σ H R I h
  · exact h2.run pins s σ H R I h
end
end My
namespace My
open PySem L2 PyProof.Rows
/-! ### == by an own __eq__, whatever it answers -/
section
variable {X : Cx}
theorem op_eqOwn {CX : CXT} {k : Nat} {C f : Addr} {fd : FuncData} {ps : List Str} {sp : Sp} {E : XK} (F : FnOk X.prog X.w X.K X.mg X.base CX k f fd ps sp) (hr : Room k X.A)
    (hs : PySem.W.findIn X.K (.ref C) "__eq__" = some (some (.ref f))) (hf : PySem.W.isFn X.K (.ref f) = true) (hb : Binds X.K fd ps []) (hx : Passes CX X E) :
    OpR X (compareOp .Eq) (fun x y H Q => ∃ a b dx dy fs gs, x = .ref a ∧ y = .ref b ∧ H a = some (.ins C dx fs) ∧ H b = some (.ins C dy gs) ∧ sp [x, y] H (fun v H' => ∃ c, v = .bl c ∧ Q (.bl c) H') E) := by
  intro pins s σ H x y v u Q I rx ry h
  obtain ⟨a, b, dx, dy, fs, gs, rfl, rfl, ha, hb', hsp⟩ := h
  cases rx
  cases ry
  show wpAny (model X.prog X.w) X.A (richCompare .Eq (.ref a) (.ref b)) (EP X pins σ Q) X.xe s
  obtain ⟨_, J, _⟩ := ins_get I.hok ha
  obtain ⟨_, J', _⟩ := ins_get I.hok hb'
  obtain ⟨_, J, _⟩ := J.look
  obtain ⟨_, J', _⟩ := J'.look
  obtain ⟨m, hF⟩ := I.fr
  refine PySem.W.cmp_K (op := .Eq) (tb := .ref C) hr.units0 hF I.ok.mod.kin J J'.type (by simp [PySem.W.notFirst]) hs hf ?_
  have vals : Vals [V.ref a, V.ref b] [Value.ref a, Value.ref b] := .cons rfl (.cons rfl .nil)
  have e0 : Env0 X.prog X.w X.K X.mg X.base X.A X.stack s H := I.env0
  have hl := F.len _ _ _ _ hsp
  refine wpAny_call (codeAny_mono (F.run X.A X.stack s H ⟨[.ref a, .ref b], []⟩ [.ref a, .ref b] [.ref a, .ref b] _ E hr e0 (by
    have bd := hb s [.ref a, .ref b] I.kIn (by simpa using hl)
    simpa using bd) vals hsp) fun r s' hq => ?_)
  cases r with
  | error e => exact hx pins σ H s e s' I hq
  | ok fl =>
    cases fl with
    | ret w =>
      obtain ⟨z, H', I', rz, c, ez, qz⟩ := I.after hq
      subst ez
      cases rz
      exact ⟨.bl c, H', I', rfl, qz⟩
    | next => exact False.elim hq
    | brk => exact False.elim hq
    | cont => exact False.elim hq
end
end My
namespace My
open PySem L2 PyProof.Rows PySem.W
/-! ### != of instances with an own __eq__ and the object's __ne__ -/
section
variable {prog : Program} {w : World} {A : Around} {E : Value → Shared → Prop} {s : Shared} {K : PySem.W.Frag} {x y C L f : Addr} {h₀ : Heap} {m : Str → Option Value} {ox : Obj} {od : Option Obj}
theorem check_ne {Q : Unit → Shared → Prop} (X : K.In s.heap) (I : PySem.W.InstAt s.heap x ox C od) (hm : PySem.W.mroIn K C (.type "object") = some true) (hq : Q () s) :
    wpAny (model prog w) A (checkBuiltinCall "object.__ne__" ⟨[.ref x, .ref y], []⟩) Q E s := by
  have L1 := PySem.W.looks_mroIn (M := model prog w) X hm
  simp only [checkBuiltinCall, F.cmpKind_ne, F.cmpSplit_ne]
  refine wpAny_bind ?_
  unfold isInstance
  refine wpAny_bind (I.type.here (L1.here ?_))
  simp only [Bool.not_true, Bool.false_eq_true, if_false]
  exact wpAny_pure hq
theorem entry_ne {Q : Fin → Shared → Prop} (hu : A.units < cLine) (X : K.In s.heap) (I : PySem.W.InstAt s.heap x ox C od) (hs : PySem.W.findIn K (.ref C) "__eq__" = some (some (.ref f))) (hf : PySem.W.isFn K (.ref f) = true)
    (hcall : wpAny (model prog w) A (call (.ref f) [.ref x, .ref y]) (fun v s' => ∃ b, v = .bool b ∧ Q (.done (.ret (.bool (!b)))) s') E s) :
    wpAny (model prog w) A (Builtin.«object.__ne__» ⟨[.ref x, .ref y], []⟩) Q E s := by
  unfold Builtin.«object.__ne__»
  repeat (first
    | with_reducible refine wpAny_cRoomFor hu ?_
    | (refine wpAny_bind (m := callSpecialIfBound? (.ref x) (Str.ofString "__eq__") [.ref y])
        (PySem.W.ifBound_K X I hs hf (wpAny_mono hcall (fun r s' hr => by
          obtain ⟨b, rfl, hq⟩ := hr
          repeat (first | exact hq | exact wpAny_pure hq | exact wpAny_truthy_bool hq | (refine wpAny_bind (m := truthy (.bool _)) (wpAny_truthy_bool ?_)) | wp_step)) fun _ _ e => e)))
    | wp_step)
theorem try_ne {Q : Option Value → Shared → Prop} (hu : A.units + 1 < cLine) (X : K.In s.heap) (I : PySem.W.InstAt s.heap x ox C od) (hm : PySem.W.mroIn K C (.type "object") = some true) (hn : PySem.W.findIn K (.ref C) "__ne__" = some (some (.builtin "object.__ne__")))
    (hs : PySem.W.findIn K (.ref C) "__eq__" = some (some (.ref f))) (hf : PySem.W.isFn K (.ref f) = true)
    (hcall : wpAny (model prog w) A.in1 (call (.ref f) [.ref x, .ref y]) (fun v s' => ∃ b, v = .bool b ∧ Q (some (.bool (!b))) s') E s) :
    wpAny (model prog w) A (tryCompare (.ref x) "__ne__" (.ref y)) Q E s := by
  have S := F.cmp_object.ne
  have one : wpAny (model prog w) A (callSpecialIfBound? (.ref x) "__ne__" [.ref y]) (fun r s' => ∃ b, r = some (.bool b) ∧ Q (some (.bool b)) s') E s := by
    simp only [callSpecialIfBound?, bindSpecialIfBound?]
    refine wpAny_holding (wpAny_bind (wpAny_bind (wpAny_bind (I.type.here ((PySem.W.looks_findIn X hn).here ?_)))))
    simp only [S.bind]
    refine wpAny_bind (wpAny_askSetting (wpAny_ite ?_))
    have fin : wpAny (model prog w) A (call (.builtin "object.__ne__") ([.ref x] ++ [.ref y]) >>= fun v => pure (some v)) (fun r s' => ∃ b, r = some (.bool b) ∧ Q (some (.bool b)) s') E s := by
      refine wpAny_bind (wpAny_call (codeAny_call_builtin S.plain F.cmpEntry_ne (check_ne X I hm (entry_ne (A := A.in1) hu X I hs hf (wpAny_mono hcall (fun v s' hv => ?_) fun _ _ e => e)))))
      obtain ⟨b, rfl, hq⟩ := hv
      exact ⟨b, rfl, wpAny_pure ⟨_, rfl, hq⟩⟩
    split
    · exact wpAny_bind (wpAny_pure (wpAny_pure fin))
    · exact wpAny_tryCatch (wpAny_bind (wpAny_pure (wpAny_pure fin)))
  unfold tryCompare
  refine wpAny_bind (wpAny_mono one (fun v s' hv => ?_) fun _ _ e => e)
  obtain ⟨b, rfl, hq⟩ := hv
  exact wpAny_pure hq
theorem ne_own {Q : Value → Shared → Prop} {oy : Obj} {odY : Option Obj} (hu : A.units + 1 < cLine) (X : K.In s.heap) (I : PySem.W.InstAt s.heap x ox C od) (J : PySem.W.InstAt s.heap y oy C odY) (hm : PySem.W.mroIn K C (.type "object") = some true) (hn : PySem.W.findIn K (.ref C) "__ne__" = some (some (.builtin "object.__ne__")))
    (hs : PySem.W.findIn K (.ref C) "__eq__" = some (some (.ref f))) (hf : PySem.W.isFn K (.ref f) = true)
    (hcall : wpAny (model prog w) A.in1 (call (.ref f) [.ref x, .ref y]) (fun v s' => ∃ b, v = .bool b ∧ Q (.bool (!b)) s') E s) :
    wpAny (model prog w) A (richCompare .NotEq (.ref x) (.ref y)) Q E s := by
  unfold richCompare
  simp only [oneThing_ref]
  refine wpAny_holding ?_
  refine wpAny_bind (wpAny_cRoomFor (Nat.lt_of_succ_lt hu) ?_)
  rw [cmpInfo_NotEq]
  dsimp only
  refine wpAny_bind (I.type.here (wpAny_bind (J.type.here ?_)))
  rw [show (Value.ref C != Value.ref C) = false from by simp]
  simp only [Bool.false_eq_true, if_false]
  refine wpAny_bind (wpAny_pure ?_)
  simp only [Bool.false_eq_true, if_false]
  refine wpAny_bind (try_ne hu X I hm hn hs hf (wpAny_mono hcall (fun v s' hv => ?_) fun _ _ e => e))
  obtain ⟨b, rfl, hq⟩ := hv
  exact ⟨b, rfl, wpAny_pure hq⟩
end
section
variable {X : Cx}
theorem op_neOwn {CX : CXT} {k : Nat} {C f : Addr} {fd : FuncData} {ps : List Str} {sp : Sp} {E : XK} (F : FnOk X.prog X.w X.K X.mg X.base CX k f fd ps sp) (hr : Room (k + 1) X.A) (hm : PySem.W.mroIn X.K C (.type "object") = some true) (hn : PySem.W.findIn X.K (.ref C) "__ne__" = some (some (.builtin "object.__ne__")))
    (hs : PySem.W.findIn X.K (.ref C) "__eq__" = some (some (.ref f))) (hf : PySem.W.isFn X.K (.ref f) = true) (hb : Binds X.K fd ps []) (hx : Passes CX X E) :
    OpR X (compareOp .NotEq) (fun x y H Q => ∃ a b dx dy fs gs, x = .ref a ∧ y = .ref b ∧ H a = some (.ins C dx fs) ∧ H b = some (.ins C dy gs) ∧ sp [x, y] H (fun v H' => ∃ c, v = .bl c ∧ Q (.bl (!c)) H') E) := by
  intro pins s σ H x y v u Q I rx ry h
  obtain ⟨a, b, dx, dy, fs, gs, rfl, rfl, ha, hb', hsp⟩ := h
  cases rx
  cases ry
  show wpAny (model X.prog X.w) X.A (richCompare .NotEq (.ref a) (.ref b)) (EP X pins σ Q) X.xe s
  obtain ⟨_, J, _⟩ := ins_get I.hok ha
  obtain ⟨_, J', _⟩ := ins_get I.hok hb'
  obtain ⟨_, J, _⟩ := J.look
  obtain ⟨_, J', _⟩ := J'.look
  have hu : X.A.units + 1 < cLine := hu_of hr
  refine ne_own hu I.kIn J J' hm hn hs hf ?_
  have vals : Vals [V.ref a, V.ref b] [Value.ref a, Value.ref b] := .cons rfl (.cons rfl .nil)
  have e0 : Env0 X.prog X.w X.K X.mg X.base X.A.in1 X.stack s H := I.env0.in1
  have hl := F.len _ _ _ _ hsp
  refine wpAny_call (codeAny_mono (F.run X.A.in1 X.stack s H ⟨[.ref a, .ref b], []⟩ [.ref a, .ref b] [.ref a, .ref b] _ E hr.in1 e0 (by
    have bd := hb s [.ref a, .ref b] I.kIn (by simpa using hl)
    simpa using bd) vals hsp) fun r s' hq => ?_)
  cases r with
  | error e => exact hx pins σ H s e s' I hq
  | ok fl =>
    cases fl with
    | ret w =>
      obtain ⟨z, H', I', rz, c, ez, qz⟩ := I.after hq
      subst ez
      cases rz
      exact ⟨c, rfl, .bl (!c), H', I', rfl, qz⟩
    | next => exact False.elim hq
    | brk => exact False.elim hq
    | cont => exact False.elim hq
/-- == of an instance with an own __eq__ and a dict -/
theorem op_eqDict {CX : CXT} {k : Nat} {C f : Addr} {fd : FuncData} {ps : List Str} {sp : Sp} {E : XK} (F : FnOk X.prog X.w X.K X.mg X.base CX k f fd ps sp) (hr : Room k X.A)
    (hs : PySem.W.findIn X.K (.ref C) "__eq__" = some (some (.ref f))) (hf : PySem.W.isFn X.K (.ref f) = true) (hnf : PySem.W.notFirst X.K C (.type "dict") = true) (hb : Binds X.K fd ps []) (hx : Passes CX X E) :
    OpR X (compareOp .Eq) (fun x y H Q => ∃ a d dx fs kvs, x = .ref a ∧ y = .ref d ∧ H a = some (.ins C dx fs) ∧ H d = some (.dK kvs) ∧ sp [x, y] H (fun v H' => ∃ c, v = .bl c ∧ Q (.bl c) H') E) := by
  intro pins s σ H x y v u Q I rx ry h
  obtain ⟨a, b, dx, fs, kvs, rfl, rfl, ha, hb', hsp⟩ := h
  cases rx
  cases ry
  show wpAny (model X.prog X.w) X.A (richCompare .Eq (.ref a) (.ref b)) (EP X pins σ Q) X.xe s
  obtain ⟨_, J, _⟩ := ins_get I.hok ha
  obtain ⟨_, J, _⟩ := J.look
  obtain ⟨_, _, _, _, ob, es, ep, e, ⟨hcls, _⟩, _⟩ := (show ObjOk X.prog X.w H s.heap b (.dK kvs) from I.hok b _ hb')
  have hty : PySem.W.Looks (model X.prog X.w) s.heap (typeOf (.ref b)) (.type "dict") := hcls ▸ (PySem.W.Looks.ld e).andThen .now
  obtain ⟨m, hF⟩ := I.fr
  refine PySem.W.cmp_K (op := .Eq) (tb := .type "dict") hr.units0 hF I.ok.mod.kin J hty hnf hs hf ?_
  have vals : Vals [V.ref a, V.ref b] [Value.ref a, Value.ref b] := .cons rfl (.cons rfl .nil)
  have e0 : Env0 X.prog X.w X.K X.mg X.base X.A X.stack s H := I.env0
  have hl := F.len _ _ _ _ hsp
  refine wpAny_call (codeAny_mono (F.run X.A X.stack s H ⟨[.ref a, .ref b], []⟩ [.ref a, .ref b] [.ref a, .ref b] _ E hr e0 (by
    have bd := hb s [.ref a, .ref b] I.kIn (by simpa using hl)
    simpa using bd) vals hsp) fun r s' hq => ?_)
  cases r with
  | error e => exact hx pins σ H s e s' I hq
  | ok fl =>
    cases fl with
    | ret w =>
      obtain ⟨z, H', I', rz, c, ez, qz⟩ := I.after hq
      subst ez
      cases rz
      exact ⟨.bl c, H', I', rfl, qz⟩
    | next => exact False.elim hq
    | brk => exact False.elim hq
    | cont => exact False.elim hq
def tMethKK (C : Addr) (m : Str) (sp : Sp) (gV : List V → List V → List V) (E : XK) (ta : TE) (tk : TA) : TE := fun σ H Q => ta σ H fun x H1 => ∃ a dx fs, x = .ref a ∧ H1 a = some (.ins C dx fs) ∧ fs.lookup m = none ∧ tk σ H1 fun zs H2 => sp (gV [x] zs) H2 Q E
/-- o.m(a=.., b=..) -/
theorem pe_methKK {CX : CXT} {k : Nat} {f C : Addr} {fd : FuncData} {ps ks : List Str} {sp : Sp} {E : XK} {m : Str} {pos apos : Pos} {o : Expr} {kws : List Keyword} {ta : TE} {tk : TA} {g : List Value → List Value → List Value} {gV : List V → List V → List V} {pl : Sem Bool} (he : PE X o ta) (c : Cls X.K C) (hm : Meth X.K C m f) (F : FnOk X.prog X.w X.K X.mg X.base CX k f fd ps sp) (hr : Room k X.A) (hb : KBinds X.K fd ps ks g gV) (hx : Passes CX X E)
    (hkw : PK X kws tk) (hall : (backToKw pos (keywordEach kws X.env)).all (·.1.isSome) = true := by rfl) (hks : (backToKw pos (keywordEach kws X.env)).filterMap (·.1) = ks := by rfl)
    (hpl : ((backTo pos (starEach [] X.env)).any (·.1) || (backToKw pos (keywordEach kws X.env)).any (·.1.isNone)) = false := by rfl)
    (ht : eval (.Call (.Attribute o m apos) [] kws pos) X.env = (do
      let ov ← eval o X.env
      standAt apos.atName
      let (f, first) ← holding [ov] (getMethod ov m pl)
      callWith pos f first (backTo pos (starEach [] X.env)) (backToKw pos (keywordEach kws X.env))) := by rfl) :
    PE X (.Call (.Attribute o m apos) [] kws pos) (tMethKK C m sp gV E ta tk) := by
  refine ⟨fun pins s σ H Q I h => ?_⟩
  refine PySem.W.methodCall_KW (pl := pl) (thn (he.run pins s σ H _ I h) fun u s1 ⟨x, H1, I1, rx, a, dx, fs, ex, ea, l, q⟩ => ?_) ht
  subst ex
  obtain rfl : u = Value.ref a := rx
  refine getmeth_ok I1 ea c hm l ?_
  refine PySem.W.callWith_KW0 (first := [.ref a]) (h₀ := X.base) I.ok.mod.kin hm.kp hall (thn (hkw.run pos pins s1 σ H1 _ I1 q) fun ws s2 ⟨zs, H2, I2, rz, q2⟩ => ⟨I2.kIn, ?_⟩) hpl
  rw [hks]
  exact run_fnk (us := [.ref a]) (vs := [.ref a]) F hr hb hx I2 (.cons rfl .nil) rz q2
end
end My
/-! C(k = v, ..): a new instance by keywords -/
namespace My
open PySem PySem.W L2 PyProof.Rows
/-- an __init__ that keeps a promise, with the def itself -/
def GoodJ (P : Program) (w : World) (K : PySem.W.Frag) (mg : Str → Option Value) (base : Heap) (C : Addr) (x qual : Str) (st : Stmt) (ps : List Str) (k : Nat) (sp : Sp) : Prop := ∃ (f : Addr) (fd : FuncData), FnOk P w K mg base CX0 k f fd ps sp ∧ Mk K C f ∧ Binds K fd ps [] ∧ Fun K x qual st f fd
theorem DefI.goodJ {P : Program} {w : World} {K : PySem.W.Frag} {mg : Str → Option Value} {base : Heap} {C : Addr} {x qual : Str} {st : Stmt} {ps : List Str} {k : Nat} {sp : Sp} (D : DefI K C x qual st ps) (h : ∀ f fd, Fun K x qual st f fd → FnOk P w K mg base CX0 k f fd ps sp) : GoodJ P w K mg base C x qual st ps k sp := by
  obtain ⟨f, fd, F, m, b⟩ := D
  exact ⟨f, fd, h f fd F, m, b, F⟩
theorem fun_kbn {K : PySem.W.Frag} {x qual : Str} {st : Stmt} {f : Addr} {fd : FuncData} {ps ks : List Str} (F : Fun K x qual st f fd) (n : Nat) (g : List Value → List Value → List Value) (gV : List V → List V → List V)
    (hrel : ∀ {vs : List V} {us : List Value} {zs : List V} {ws : List Value}, Vals vs us → Vals zs ws → Vals (gV vs zs) (g us ws))
    (h : ∀ (kV doc pm : Value) (an : Option Addr) (cdv ct : Value) (us ws : List Value), us.length = n → ws.length = ks.length → bindArgs (PySem.W.fnOf x qual (defArgs st) (defBody st) (defScope st) .none kV doc pm an cdv ct) ⟨us, ks.zip ws⟩ = pure (ps.zip (g us ws))) : KBn K fd ps n ks g gV := by
  obtain ⟨oc, od, kV, doc, pm, an, cdv, ct, osl, rfl, lk, hcd⟩ := F.ex
  exact ⟨fun s us ws X l1 l2 => .of_eq (h kV doc pm an cdv ct us ws l1 l2), hrel⟩
/-- one keyword -/
theorem fun_kbn1 {K : PySem.W.Frag} {x qual : Str} {st : Stmt} {f : Addr} {fd : FuncData} {p q : Str} (F : Fun K x qual st f fd)
    (h : ∀ (kV doc pm : Value) (an : Option Addr) (cdv ct : Value) (u v : Value), bindArgs (PySem.W.fnOf x qual (defArgs st) (defBody st) (defScope st) .none kV doc pm an cdv ct) ⟨[u], [(q, v)]⟩ = pure ([p, q].zip [u, v])) : KBn K fd [p, q] 1 [q] gm1 gm1 :=
  fun_kbn F 1 gm1 gm1 relm1 fun kV doc pm an cdv ct us ws l1 l2 => by
    obtain ⟨u, rfl⟩ := List.length_eq_one_iff.mp l1
    obtain ⟨v, rfl⟩ := List.length_eq_one_iff.mp l2
    exact h kV doc pm an cdv ct u v
end My
/-! list(xs) within a comprehension -/
namespace My
open PySem L2 PyProof.Rows
theorem call_list_ofK {X : Cx} {K : PySem.W.Frag} (h : X.K = K) : CallR X (.type "list") (fun xs H Q => ∃ p ys, xs = [.ref p] ∧ (SqL K H p ys ∨ SqT K H p ys) ∧ ∀ l, H l = none → Q (.ref l) (upd H l (.lst ys))) := h ▸ call_list_of
end My
namespace My
open PySem L2 PyProof.Rows
/-- two keywords behind self, turned -/
def gm21 {α : Type} : List α → List α → List α | [a], [b, c] => [a, c, b] | _, _ => []
theorem gm21_inv {α : Type} {us ws : List α} (h : (gm21 us ws).length = 3) : ∃ a b c, us = [a] ∧ ws = [b, c] := by
  unfold gm21 at h
  split at h
  · exact ⟨_, _, _, rfl, rfl⟩
  · simp at h
theorem relm21 {vs : List V} {us : List Value} {zs : List V} {ws : List Value} (a : Vals vs us) (b : Vals zs ws) : Vals (gm21 vs zs) (gm21 us ws) := by
  cases a with
  | nil => exact .nil
  | cons r a =>
    cases a with
    | nil =>
      cases b with
      | nil => exact .nil
      | cons r1 b =>
        cases b with
        | nil => exact .nil
        | cons r2 b =>
          cases b with
          | nil => exact .cons r (.cons r2 (.cons r1 .nil))
          | cons r3 b => exact .nil
    | cons r2 a =>
      cases b <;> exact .nil
theorem fun_kbn2r {K : PySem.W.Frag} {x qual : Str} {st : Stmt} {f : Addr} {fd : FuncData} {p q r : Str} (F : Fun K x qual st f fd)
    (h : ∀ (kV doc pm : Value) (an : Option Addr) (cdv ct : Value) (u v z : Value), bindArgs (PySem.W.fnOf x qual (defArgs st) (defBody st) (defScope st) .none kV doc pm an cdv ct) ⟨[u], [(r, v), (q, z)]⟩ = pure ([p, q, r].zip [u, z, v])) : KBn K fd [p, q, r] 1 [r, q] gm21 gm21 :=
  fun_kbn F 1 gm21 gm21 relm21 fun kV doc pm an cdv ct us ws l1 l2 => by
    obtain ⟨u, rfl⟩ := List.length_eq_one_iff.mp l1
    obtain ⟨v, z, rfl⟩ : ∃ v z, ws = [v, z] := by
      match ws, l2 with
      | [v, z], _ => exact ⟨v, z, rfl⟩
    exact h kV doc pm an cdv ct u v z
end My
namespace My
open PySem PySem.W L2 L2.DX PyProof.Rows
/-! ### d.items() of a dict by texts, sorted -/
section
variable {X : Cx}
def rItemsK : V → List V → Hp → VK → Prop := fun x xs H Q => ∃ (a : Addr) (kvs : List (Key × V)), x = .ref a ∧ xs = [] ∧ H a = some (.dK kvs) ∧ ∀ p, H p = none → Q (.ref p) (upd H p (itemsO p a))
theorem mt_itemsK : MtR X "dict.items" rItemsK := by
  intro pins s σ H x xs v us Q I rx rxs h
  obtain ⟨d, kvs, rfl, rfl, hd0, q⟩ := h
  cases rx
  cases rxs
  obtain ⟨_, hd, vs, rel, dof⟩ := dk_of I.hok hd0
  obtain ⟨es, ep, raw, _, _⟩ := PySem.Heap.DictOf.raw dof
  exact DT.callItems (es := es) (ep := ep) hd raw ⟨.ref s.heap.objs.size, upd H s.heap.objs.size (itemsO s.heap.objs.size d), I.laid (t' := s.toks) (fun b u e => Heap.get?_push_of_some _ e) (Nat.le_refl _) (itemsO_ok (Heap.get?_push_size _ rfl)), rfl, q _ (I.hok.fresh (Nat.le_refl _))⟩
/-- an entry: a text and a number -/
abbrev entSI (e : Str × Int) : Key × V := (Sum.inr e.1, .int e.2)
abbrev encSI (e : Str × Int) : PyData := .tuple [.str e.1, .int e.2]
theorem kv_at : ∀ {kvs : List (Key × V)} {vs : List (Key × Value)}, KV kvs vs → ∀ {j : Nat} {p : Key × V}, kvs[j]? = some p → ∃ q, vs[j]? = some q ∧ p.1 = q.1 ∧ RelV p.2 q.2
  | _, _, .nil, _, _, h => by simp at h
  | _, _, .cons r _, 0, _, h => by
    cases h
    exact ⟨_, rfl, r⟩
  | _, _, .cons _ t, j + 1, p, h => by
    obtain ⟨q, h1, h2⟩ := kv_at t (j := j) (by simpa using h)
    exact ⟨q, by simpa using h1, h2⟩
theorem eachIs_of {α β : Type} {R : α → β → Prop} : ∀ {as : List α} {bs : List β}, as.length = bs.length → (∀ (j : Nat) (a : α) (b : β), as[j]? = some a → bs[j]? = some b → R a b) → PySem.W.EachIs R as bs
  | [], [], _, _ => .nil
  | [], _ :: _, h, _ => by simp at h
  | _ :: _, [], h, _ => by simp at h
  | a :: as, b :: bs, h, k => .cons (k 0 a b rfl rfl) (eachIs_of (by simpa using h) fun j x y hx hy => k (j + 1) x y (by simpa using hx) (by simpa using hy))
theorem encSI_alike (kvs : List (Str × Int)) : AllAlike (kvs.map encSI) := by
  intro d hd d' hd'
  obtain ⟨e, _, rfl⟩ := List.mem_map.mp hd
  obtain ⟨e', _, rfl⟩ := List.mem_map.mp hd'
  rfl
theorem encSI_sortable (kvs : List (Str × Int)) : Sortable (kvs.map encSI) := .tuples fun b => ⟨_, _, rfl⟩
theorem eachIs_refs {β : Type} {as : List Addr} {bs : List β} : ∀ {out : List Value} {cs : List β}, PySem.W.EachIs (fun v b => ∃ (j : Nat) (x : Addr), v = Value.ref x ∧ as[j]? = some x ∧ bs[j]? = some b) out cs →
    ∃ ts : List Addr, out = ts.map Value.ref ∧ Paired (fun (x : Addr) (b : β) => ∃ j : Nat, as[j]? = some x ∧ bs[j]? = some b) ts cs
  | _, _, .nil => ⟨[], rfl, .nil⟩
  | _, _, .cons h t => by
    obtain ⟨j, x, rfl, h1, h2⟩ := h
    obtain ⟨ts, rfl, hp⟩ := eachIs_refs t
    exact ⟨x :: ts, rfl, .cons ⟨j, h1, h2⟩ hp⟩
theorem paired_imp {α β : Type} {F G : α → β → Prop} (h : ∀ a b, F a b → G a b) : ∀ {l1 : List α} {l2 : List β}, Paired F l1 l2 → Paired G l1 l2
  | _, _, .nil => .nil
  | _, _, .cons a r => .cons (h _ _ a) (paired_imp h r)
theorem vals_refs : ∀ ts : List Addr, Vals (ts.map V.ref) (ts.map Value.ref)
  | [] => .nil
  | _ :: r => .cons rfl (vals_refs r)
/-- the told list is new, its pairs too -/
def rSortItK : List V → Hp → VK → Prop := fun vs H Q => ∃ (p a : Addr) (kvs : List (Str × Int)), vs = [.ref p] ∧ H p = some (itemsO p a) ∧ H a = some (.dK (kvs.map entSI)) ∧ kvs.length ≤ 100000 ∧
  ∀ (H' : Hp) (l : Addr) (ts : List Addr), (∀ b o, H b = some o → H' b = some o) → H l = none → H' l = some (.lst (ts.map V.ref)) → Paired (fun t (e : Str × Int) => H' t = some (.tup [.str e.1, .int e.2])) ts (kvs.mergeSort (dataLe false encSI)) → Q (.ref l) H'
theorem cr_sortItK (hc : X.calm = true) (hu : X.A.units + 64 < cLine) : CallR X (.builtin "sorted") rSortItK := by
  intro pins s σ H xs us Q I r h
  obtain ⟨p, a, kvs, rfl, hp, ha, hlen, q⟩ := h
  obtain rfl := Vals.ref1 r
  have vw : s.heap.IsItemsView p a := by
    have z : ObjOk X.prog X.w H s.heap p (itemsO p a) := I.hok p _ hp
    exact z.1
  obtain ⟨_, hd, vs, rel, dof⟩ := dk_of I.hok ha
  obtain ⟨es, ep, raw, hsz, hent⟩ := PySem.Heap.DictOf.raw dof
  have l1 : vs.length = kvs.length := by
    have := Paired.length rel
    rw [List.length_map] at this
    exact this.symm
  have small : kvs.length ≤ sizeLine := Nat.le_trans hlen (by decide)
  refine DT.sortedI (es := es) (ep := ep) (I.ok.hd hc) vw raw (by rw [hsz, l1]; exact small) fun h' tk as kpt hlt hl mde => ?_
  have lak : as.length = kvs.length := by rw [hl, hsz, l1]
  have nod : as.Nodup := List.Pairwise.imp (fun h => Nat.ne_of_lt h) mde.rise
  have pr : ∀ (j : Nat) (b : Addr), as[j]? = some b → ∃ (e : Str × Int) (t t' : Tok), kvs[j]? = some e ∧ h'.get? b = some { cls := .type "tuple", data := .seq #[Value.str e.1 t, Value.int e.2 t'] } := fun j b ej => by
    obtain ⟨en, ee, gh⟩ := mde.pairs j b ej
    have hj2 : j < es.size := (Array.getElem?_eq_some_iff.mp ee).1
    have hj3 : j < kvs.length := by rw [← l1, ← hsz]; exact hj2
    obtain ⟨⟨k, v⟩, g1, g2, g3⟩ := kv_at rel (j := j) (p := entSI kvs[j]) (by rw [List.getElem?_map, List.getElem?_eq_getElem hj3]; rfl)
    obtain ⟨m1, m2⟩ := hent j hj2 k v g1
    have e1 : es[j] = en := (Array.getElem?_eq_some_iff.mp ee).2
    rw [e1] at m1 m2
    have g2' : k = Sum.inr kvs[j].1 := g2.symm
    subst g2'
    obtain ⟨t', ev⟩ : ∃ t', v = Value.int kvs[j].2 t' := g3
    rcases keyIs_shape (show keyIs (Sum.inr kvs[j].1) en.key = true from m1) with ⟨i, t, z, _⟩ | ⟨x, t, z, ek⟩
    · cases z
    · have ex : kvs[j].1 = x := Sum.inr.inj z
      refine ⟨kvs[j], t, t', List.getElem?_eq_getElem hj3, ?_⟩
      rw [gh, ek, m2, ev, ex]
  have gl : (h'.push { cls := .type "list", data := .seq (as.map Value.ref).toArray }).get? h'.objs.size = some (seqObj "list" (as.map Value.ref).toArray 0) := Heap.get?_push_size _ rfl
  have far : ∀ b o, h'.get? b = some o → b ≠ h'.objs.size := fun b o e => Nat.ne_of_lt (Heap.lt_size e)
  have kp : ∀ b o, h'.get? b = some o → (h'.push { cls := .type "list", data := .seq (as.map Value.ref).toArray }).get? b = some o := fun b o e => Heap.get?_push_of_some _ e
  generalize h'.push { cls := .type "list", data := .seq (as.map Value.ref).toArray } = h2 at gl kp ⊢
  have at_ : ∀ (j : Nat) (v : Value) (e : Str × Int), (as.map Value.ref)[j]? = some v → kvs[j]? = some e → ∃ b, v = .ref b ∧ as[j]? = some b := fun j v e hv _ => by
    rw [List.getElem?_map] at hv
    cases z : as[j]? with
    | none => rw [z] at hv; cases hv
    | some b => rw [z] at hv; exact ⟨b, (Option.some.inj hv).symm, rfl⟩
  refine list_sort_data (s := { s with heap := h2, toks := tk }) (R := fun v e => ∃ (j : Nat) (x : Addr), v = Value.ref x ∧ as[j]? = some x ∧ kvs[j]? = some e) (enc := encSI) (bs := kvs) gl (eachIs_of (by rw [List.length_map]; exact lak) fun j v e hv ee => ?_) (eachIs_of (by rw [List.length_map]; exact lak) fun j v e hv ee => ?_) (encSI_alike kvs) (encSI_sortable kvs) small (fun b _ => ?_) fun out ho1 ho2 => ?_
  · obtain ⟨b, e1, e2⟩ := at_ j v e hv ee
    exact ⟨j, b, e1, e2, ee⟩
  · obtain ⟨b, rfl, e2⟩ := at_ j v e hv ee
    obtain ⟨e', t, t', g1, g2⟩ := pr j b e2
    rw [ee] at g1
    cases g1
    exact ⟨[] ++ ([] ++ []), .tuple (kp _ _ g2) rfl rfl (.cons (.str _ _) (.cons (.int _ _) .nil)), by simp⟩
  · show X.A.units + 1 + 1 + 1 < cLine
    omega
  obtain ⟨ts, rfl, hts⟩ := eachIs_refs ho2
  show EP X pins σ Q (.ref h'.objs.size) { s with heap := sortedHeap h2 h'.objs.size (as.map Value.ref) (ts.map Value.ref).toArray, toks := tk }
  have kF : ∀ b o, b ≠ h'.objs.size → h2.get? b = some o → (sortedHeap h2 h'.objs.size (as.map Value.ref) (ts.map Value.ref).toArray).get? b = some o := fun b o hb e => (PyProof.Rows.sortedHeap_old hb (Heap.lt_size e)).trans e
  have kS : ∀ b o, s.heap.get? b = some o → (sortedHeap h2 h'.objs.size (as.map Value.ref) (ts.map Value.ref).toArray).get? b = some o := fun b o e => kF b o (far _ _ (kpt b o e)) (kp b o (kpt b o e))
  obtain ⟨eF, heF⟩ := PyProof.Rows.sortedHeap_at (vs := as.map Value.ref) (out := (ts.map Value.ref).toArray) gl
  generalize sortedHeap h2 h'.objs.size (as.map Value.ref) (ts.map Value.ref).toArray = hz at kF kS heF ⊢
  have free0 : H h'.objs.size = none := I.hok.fresh (Nat.le_of_lt hlt)
  have htl : (ts.map V.ref).length ≤ sizeLine := by
    rw [List.length_map] at ho1 ⊢
    rw [ho1]
    exact small
  have I2 : Inv X pins σ (upd H h'.objs.size (.lst (ts.map V.ref))) { s with heap := hz, toks := tk } :=
    (I.kept (t' := tk) kS).take (h' := hz) (t' := tk) (fun b ob _ e => e) (I.fpOk (Nat.le_of_lt hlt) free0) ⟨htl, ts.map Value.ref, eF, vals_refs ts, heF⟩
  obtain ⟨H2, I3, g, qt⟩ := takeT (P := fun b vs => ∃ (j : Nat) (e : Str × Int), as[j]? = some b ∧ kvs[j]? = some e ∧ vs = [.str e.1, .int e.2]) I as _ I2 nod fun b hb => by
    obtain ⟨j, ej⟩ := List.mem_iff_getElem?.mp hb
    obtain ⟨e, t, t', ee, gh⟩ := pr j b ej
    have big : s.heap.objs.size ≤ b := Nat.le_of_lt (mde.above b hb)
    refine ⟨big, by rw [upd_ne (far _ _ gh)]; exact I.hok.fresh big, [.str e.1, .int e.2], ⟨j, e, ej, ee, rfl⟩, fun H3 => ⟨(by show 2 ≤ sizeLine; decide), [Value.str e.1 t, Value.int e.2 t'], .cons ⟨t, rfl⟩ (.cons ⟨t', rfl⟩ .nil), ⟨_, kF _ _ (far _ _ gh) (kp _ _ gh), rfl, 0, rfl⟩⟩⟩
  refine ⟨.ref h'.objs.size, H2, I3, rfl, q H2 h'.objs.size ts (fun b o e => g b o (by rw [upd_ne (ne_of_none e free0)]; exact e)) free0 (g _ _ upd_same) (paired_imp (fun x e hx => ?_) hts)⟩
  obtain ⟨i, i1, i2⟩ := hx
  obtain ⟨vs', ⟨j, e', j1, j2, ev⟩, hH⟩ := qt x (List.mem_of_getElem? i1)
  have eqi : i = j := (List.getElem?_inj (List.getElem?_eq_some_iff.mp i1).1 nod).mp (i1.trans j1.symm)
  subst eqi
  rw [i2] at j2
  cases j2
  rw [ev] at hH
  exact hH
end
end My
namespace My
open PySem PySem.W L2 L2.DX PyProof.Rows
section
variable {X : Cx}
theorem dp_at {K : PySem.W.Frag} {H : Hp} : ∀ {ys : List V} {ds : List PyData}, DpAll K H ys ds → ∀ {j : Nat} {y : V} {d : PyData}, ys[j]? = some y → ds[j]? = some d → Dp K H y d
  | _, _, .nil, _, _, _, h, _ => by simp at h
  | _, _, .cons p _, 0, _, _, h, k => by
    cases h
    cases k
    exact p
  | _, _, .cons _ t, j + 1, _, _, h, k => dp_at t (j := j) (by simpa using h) (by simpa using k)
theorem dp_len {K : PySem.W.Frag} {H : Hp} : ∀ {ys : List V} {ds : List PyData}, DpAll K H ys ds → ys.length = ds.length
  | _, _, .nil => rfl
  | _, _, .cons _ t => congrArg Nat.succ (dp_len t)
theorem vals_at : ∀ {ys : List V} {us : List Value}, Vals ys us → ∀ {j : Nat} {u : Value}, us[j]? = some u → ∃ y, ys[j]? = some y ∧ RelV y u
  | _, _, .nil, _, _, h => by simp at h
  | _, _, .cons r _, 0, _, h => by
    cases h
    exact ⟨_, rfl, r⟩
  | _, _, .cons _ t, j + 1, _, h => by
    obtain ⟨y, h1, h2⟩ := vals_at t (j := j) (by simpa using h)
    exact ⟨y, by simpa using h1, h2⟩
theorem out_vals {ys : List V} {ds : List PyData} : ∀ {out : List Value} {cs : List PyData}, PySem.W.EachIs (fun v d => ∃ (j : Nat) (y : V), ys[j]? = some y ∧ ds[j]? = some d ∧ RelV y v) out cs →
    ∃ zs : List V, Vals zs out ∧ Paired (fun (z : V) (d : PyData) => ∃ j : Nat, ys[j]? = some z ∧ ds[j]? = some d) zs cs
  | _, _, .nil => ⟨[], .nil, .nil⟩
  | _, _, .cons h t => by
    obtain ⟨j, y, h1, h2, h3⟩ := h
    obtain ⟨zs, g1, g2⟩ := out_vals t
    exact ⟨y :: zs, .cons h3 g1, .cons ⟨j, h1, h2⟩ g2⟩
theorem vals_len : ∀ {ys : List V} {us : List Value}, Vals ys us → ys.length = us.length
  | _, _, .nil => rfl
  | _, _, .cons _ t => congrArg Nat.succ (vals_len t)
/-- sorted(xs), data of one shape: the items are set in sequence by what they are -/
def rSortD (K : PySem.W.Frag) : List V → Hp → VK → Prop := fun vs H Q => ∃ (a : Addr) (ys : List V) (ds : List PyData), vs = [.ref a] ∧ SqL K H a ys ∧ DpAll K H ys ds ∧ AllAlike ds ∧ Sortable ds ∧ (∀ d ∈ ds, d.depth ≤ 8) ∧ ys.length ≤ 100000 ∧
  ∀ (zs : List V) (p : Addr), Paired (fun (z : V) (d : PyData) => ∃ j : Nat, ys[j]? = some z ∧ ds[j]? = some d) zs (ds.mergeSort (dataLe false id)) → H p = none → Q (.ref p) (upd H p (.lst zs))
theorem cr_sortD (hu : X.A.units + 64 < cLine) : CallR X (.builtin "sorted") (rSortD X.K) := by
  intro pins s σ H xs us Q I r h
  obtain ⟨a, ys, ds, rfl, hs, hd, hal, hk, hdp, hlen, q⟩ := h
  obtain rfl := Vals.ref1 r
  obtain ⟨its, rv, pl, _⟩ := I.list hs
  have li : its.length = ds.length := by rw [← vals_len rv]; exact dp_len hd
  have small : ds.length ≤ sizeLine := by rw [← dp_len hd]; exact Nat.le_trans hlen (by decide)
  refine sorted_data (R := fun v d => ∃ (j : Nat) (y : V), ys[j]? = some y ∧ ds[j]? = some d ∧ RelV y v) (enc := id) (bs := ds) pl.isList (eachIs_of li fun j v d hv he => ?_) (eachIs_of li fun j v d hv he => ?_) (by rw [List.map_id]; exact hal) (by rw [List.map_id]; exact hk) small (fun d hdm => ?_) fun out ho1 ho2 => ?_
  · obtain ⟨y, g1, g2⟩ := vals_at rv hv
    exact ⟨j, y, g1, he, g2⟩
  · obtain ⟨y, g1, g2⟩ := vals_at rv hv
    exact Dp.reads I d y v (dp_at hd g1 he) g2
  · have := hdp d hdm
    show X.A.units + 2 + d.depth < cLine
    omega
  obtain ⟨zs, hz, hp⟩ := out_vals ho2
  obtain ⟨eF, heF⟩ := PyProof.Rows.sortedAll_at s.heap its out.toArray
  have hzl : zs.length ≤ sizeLine := by rw [vals_len hz, ho1]; exact small
  exact ⟨.ref (s.heap.objs.size + 1), upd H (s.heap.objs.size + 1) (.lst zs), I.laid (t' := s.toks) (fun _ _ => PyProof.Rows.sortedAll_old) (Nat.le_succ _) ⟨hzl, out, eF, hz, heF⟩, rfl, q zs _ hp (I.hok.fresh (Nat.le_succ _))⟩
end
end My
namespace My
open PySem PySem.W L2 PyProof.Rows
/-! ### told lists: texts with numbers, rising by the texts -/
theorem strict_ext {α : Type} {r : α → α → Prop} (irr : ∀ a, ¬ r a a) (tr : ∀ a b c, r a b → r b c → r a c) : ∀ {a b : List α}, a.Pairwise r → b.Pairwise r → (∀ x, x ∈ a ↔ x ∈ b) → a = b
  | [], [], _, _, _ => rfl
  | [], y :: ys, _, _, h => absurd ((h y).mpr List.mem_cons_self) (by simp)
  | x :: xs, [], _, _, h => absurd ((h x).mp List.mem_cons_self) (by simp)
  | x :: xs, y :: ys, hx, hy, h => by
    have hx' := List.pairwise_cons.mp hx
    have hy' := List.pairwise_cons.mp hy
    have e : x = y := by
      rcases List.mem_cons.mp ((h x).mp List.mem_cons_self) with z | z
      · exact z
      · rcases List.mem_cons.mp ((h y).mpr List.mem_cons_self) with z2 | z2
        · exact z2.symm
        · exact absurd (tr _ _ _ (hx'.1 y z2) (hy'.1 x z)) (irr x)
    subst e
    refine congrArg (x :: ·) (strict_ext irr tr hx'.2 hy'.2 fun z => ?_)
    constructor
    · intro hz
      rcases List.mem_cons.mp ((h z).mp (List.mem_cons_of_mem _ hz)) with q | q
      · exact absurd (by rw [q] at hz; exact hx'.1 x hz) (irr x)
      · exact q
    · intro hz
      rcases List.mem_cons.mp ((h z).mpr (List.mem_cons_of_mem _ hz)) with q | q
      · exact absurd (by rw [q] at hz; exact hy'.1 x hz) (irr x)
      · exact q
def sLt (x y : Str) : Prop := x.cps.toList < y.cps.toList
instance (x y : Str) : Decidable (sLt x y) := by unfold sLt; exact inferInstance
theorem sLt_irr (x : Str) : ¬ sLt x x := List.lt_irrefl _
theorem sLt_trans {x y z : Str} (h : sLt x y) (k : sLt y z) : sLt x z := List.lt_trans h k
theorem sLt_total (x y : Str) : sLt x y ∨ x = y ∨ sLt y x := by
  by_cases h : sLt x y
  · exact .inl h
  · by_cases k : sLt y x
    · exact .inr (.inr k)
    · exact .inr (.inl (str_of_cps (List.le_antisymm (List.not_lt.mp k) (List.not_lt.mp h))))
theorem dataLt_si (x x' : Str) (y y' : Int) : dataLt (.tuple [.str x, .int y]) (.tuple [.str x', .int y']) = decide (sLt x x' ∨ (x = x' ∧ y < y')) := by
  rw [dataLt_pair (by simp [alike]) (by simp [alike]), dataLt_str, dataLt_int]
  have e1 : PyData.eqv (.str x) (.str x') = decide (x = x') := by
    by_cases h : x = x'
    · subst h; simp [PyData.eqv]
    · simp [PyData.eqv, h]
  have e2 : PyData.eqv (.int y) (.int y') = decide (y = y') := by
    by_cases h : y = y'
    · subst h; simp [PyData.eqv]
    · simp [PyData.eqv, h]
  rw [e1, e2]
  by_cases h : x = x'
  · subst h
    have n := sLt_irr x
    by_cases h2 : y = y'
    · subst h2
      simp [n]
    · simp [h2, n]
  · by_cases h3 : sLt x x'
    · have h4 := h3
      unfold sLt at h4
      simp [h, h3, h4]
    · have h4 := h3
      unfold sLt at h4
      simp [h, h3, h4]
abbrev leSI (e f : Str × Int) : Bool := decide (sLt e.1 f.1 ∨ (e.1 = f.1 ∧ e.2 ≤ f.2))
theorem dataLe_si : dataLe false encSI = leSI := by
  funext e f
  show (!dataLt (.tuple [.str f.1, .int f.2]) (.tuple [.str e.1, .int e.2])) = _
  rw [dataLt_si]
  by_cases h : sLt f.1 e.1 ∨ (f.1 = e.1 ∧ f.2 < e.2)
  · have h' : ¬ (sLt e.1 f.1 ∨ (e.1 = f.1 ∧ e.2 ≤ f.2)) := by
      rintro (z | ⟨z, z2⟩)
      · rcases h with k | ⟨k, k2⟩
        · exact sLt_irr _ (sLt_trans z k)
        · rw [k] at z; exact sLt_irr _ z
      · rcases h with k | ⟨k, k2⟩
        · rw [z] at k; exact sLt_irr _ k
        · omega
    simp [h, leSI, h']
  · have h' : sLt e.1 f.1 ∨ (e.1 = f.1 ∧ e.2 ≤ f.2) := by
      rcases sLt_total e.1 f.1 with z | z | z
      · exact .inl z
      · refine .inr ⟨z, ?_⟩
        rcases Int.lt_or_le f.2 e.2 with k | k
        · exact absurd (.inr ⟨z.symm, k⟩) h
        · exact k
      · exact absurd (.inl z) h
    simp only [decide_eq_true h', leSI, decide_eq_false h, Bool.not_false]
theorem leSI_trans (a b c : Str × Int) (h : leSI a b = true) (k : leSI b c = true) : leSI a c = true := by
  have h1 := of_decide_eq_true h
  have k1 := of_decide_eq_true k
  refine decide_eq_true ?_
  rcases h1 with z | ⟨z, z2⟩
  · rcases k1 with w | ⟨w, w2⟩
    · exact .inl (sLt_trans z w)
    · rw [w] at z; exact .inl z
  · rcases k1 with w | ⟨w, w2⟩
    · rw [← z] at w; exact .inl w
    · exact .inr ⟨z.trans w, by omega⟩
theorem leSI_total (a b : Str × Int) : (leSI a b || leSI b a) = true := by
  rw [Bool.or_eq_true]
  rcases sLt_total a.1 b.1 with z | z | z
  · exact .inl (decide_eq_true (.inl z))
  · rcases Int.le_total a.2 b.2 with k | k
    · exact .inl (decide_eq_true (.inr ⟨z, k⟩))
    · exact .inr (decide_eq_true (.inr ⟨z.symm, k⟩))
  · exact .inr (decide_eq_true (.inl z))
/-- rising by the texts -/
def Told (M : List (Str × Int)) : Prop := M.Pairwise fun e f => sLt e.1 f.1
theorem told_of {L : List (Str × Int)} (hn : (L.map Prod.fst).Nodup) : Told (L.mergeSort (dataLe false encSI)) := by
  rw [dataLe_si]
  have hp : (L.mergeSort leSI).Perm L := List.mergeSort_perm _ _
  have hs := List.pairwise_mergeSort (le := leSI) leSI_trans leSI_total L
  have hn2 : ((L.mergeSort leSI).map Prod.fst).Nodup := ((hp.map Prod.fst).nodup_iff).mpr hn
  rw [List.Nodup, List.pairwise_map] at hn2
  refine (hs.and hn2).imp fun {e f} h => ?_
  rcases of_decide_eq_true h.1 with z | z
  · exact z
  · exact absurd z.1 h.2
theorem Told.unique {M N : List (Str × Int)} (h : Told M) (k : Told N) (e : ∀ x, x ∈ M ↔ x ∈ N) : M = N :=
  strict_ext (r := fun e f : Str × Int => sLt e.1 f.1) (fun a => sLt_irr _) (fun _ _ _ => sLt_trans) h k e
/-- texts alone -/
abbrev leS (x y : Str) : Bool := decide (x.cps.toList ≤ y.cps.toList)
theorem dataLe_s : dataLe false (fun x : Str => PyData.str x) = leS := dataLe_str fun x => x
theorem leS_trans (a b c : Str) (h : leS a b = true) (k : leS b c = true) : leS a c = true := decide_eq_true (List.le_trans (of_decide_eq_true h) (of_decide_eq_true k))
theorem leS_total (a b : Str) : (leS a b || leS b a) = true := by
  rw [Bool.or_eq_true]
  rcases List.le_total a.cps.toList b.cps.toList with z | z
  · exact .inl (decide_eq_true z)
  · exact .inr (decide_eq_true z)
theorem texts_of {L : List Str} (hn : L.Nodup) : (L.mergeSort leS).Pairwise sLt := by
  have hp : (L.mergeSort leS).Perm L := List.mergeSort_perm _ _
  have hs := List.pairwise_mergeSort (le := leS) leS_trans leS_total L
  refine (hs.and ((hp.nodup_iff).mpr hn)).imp fun {x y} h => ?_
  rcases sLt_total x y with z | z | z
  · exact z
  · exact absurd z h.2
  · exact absurd z (List.not_lt.mpr (of_decide_eq_true h.1))
end My
namespace My
open PySem L2 PyProof.Rows
def topS (i : Nat) : Stmt := PySem.Challenge.pw_suretexts_k81_whole_deeds_undone_and_red.main.body.getD i (.Pass ⟨0, 0, 0, 0⟩)
abbrev s_wall : Stmt := topS 0
theorem sc_wall : FnScope ["k"] ["k"] (defScope s_wall) := ⟨rfl, rfl, rfl, by decide +kernel, rfl, by decide +kernel, by decide +kernel⟩
abbrev sis_integer : Stmt := topS 28
theorem scis_integer : FnScope ["value"] ["value"] (defScope sis_integer) := ⟨rfl, rfl, rfl, by decide +kernel, rfl, by decide +kernel, by decide +kernel⟩
abbrev sis_count : Stmt := topS 29
theorem scis_count : FnScope ["value"] ["value"] (defScope sis_count) := ⟨rfl, rfl, rfl, by decide +kernel, rfl, by decide +kernel, by decide +kernel⟩
abbrev sis_between : Stmt := topS 30
theorem scis_between : FnScope ["value", "least", "most"] ["value", "least", "most"] (defScope sis_between) := ⟨rfl, rfl, rfl, by decide +kernel, rfl, by decide +kernel, by decide +kernel⟩
abbrev sis_below : Stmt := topS 31
theorem scis_below : FnScope ["value", "limit"] ["value", "limit"] (defScope sis_below) := ⟨rfl, rfl, rfl, by decide +kernel, rfl, by decide +kernel, by decide +kernel⟩
abbrev sis_size : Stmt := topS 32
theorem scis_size : FnScope ["value"] ["value"] (defScope sis_size) := ⟨rfl, rfl, rfl, by decide +kernel, rfl, by decide +kernel, by decide +kernel⟩
abbrev sis_listed : Stmt := topS 33
theorem scis_listed : FnScope ["value"] ["value"] (defScope sis_listed) := ⟨rfl, rfl, rfl, by decide +kernel, rfl, by decide +kernel, by decide +kernel⟩
abbrev sis_letter : Stmt := topS 34
theorem scis_letter : FnScope ["sign"] ["sign"] (defScope sis_letter) := ⟨rfl, rfl, rfl, by decide +kernel, rfl, by decide +kernel, by decide +kernel⟩
abbrev sneed_size : Stmt := topS 35
theorem scneed_size : FnScope ["size"] ["size"] (defScope sneed_size) := ⟨rfl, rfl, rfl, by decide +kernel, rfl, by decide +kernel, by decide +kernel⟩
abbrev sparts_in_turn : Stmt := topS 37
theorem scparts_in_turn : FnScope ["points", "steps", "ahead", "behind", "near", "far", "_", "left", "seen", "point", "parts"] ["points", "steps"] (defScope sparts_in_turn) := ⟨rfl, rfl, rfl, by decide +kernel, rfl, by decide +kernel, by decide +kernel⟩
abbrev s_left_from : Stmt := topS 38
theorem sc_left_from : FnScope ["ends", "point", "seen", "left", "trail", "here", "at", "end"] ["ends", "point", "seen"] (defScope s_left_from) := ⟨rfl, rfl, rfl, by decide +kernel, rfl, by decide +kernel, by decide +kernel⟩
abbrev sleast_start : Stmt := topS 40
theorem scleast_start : FnScope ["cycle", "size", "one", "two", "alike", "near", "far"] ["cycle"] (defScope sleast_start) := ⟨rfl, rfl, rfl, by decide +kernel, rfl, by decide +kernel, by decide +kernel⟩
abbrev sare_ties : Stmt := topS 45
theorem scare_ties : FnScope ["places", "value", "tie"] ["places", "value"] (defScope sare_ties) := ⟨rfl, rfl, rfl, by decide +kernel, rfl, by decide +kernel, by decide +kernel⟩
abbrev sneed_web : Stmt := topS 47
theorem scneed_web : FnScope ["web"] ["web"] (defScope sneed_web) := ⟨rfl, rfl, rfl, by decide +kernel, rfl, by decide +kernel, by decide +kernel⟩
abbrev sneed_place : Stmt := topS 48
theorem scneed_place : FnScope ["web", "place"] ["web", "place"] (defScope sneed_place) := ⟨rfl, rfl, rfl, by decide +kernel, rfl, by decide +kernel, by decide +kernel⟩
abbrev sare_numbers : Stmt := topS 49
theorem scare_numbers : FnScope ["web", "value", "tie"] ["web", "value"] (defScope sare_numbers) := ⟨rfl, rfl, rfl, by decide +kernel, rfl, by decide +kernel, by decide +kernel⟩
abbrev scopied_web : Stmt := topS 50
theorem sccopied_web : FnScope ["web"] ["web"] (defScope scopied_web) := ⟨rfl, rfl, rfl, by decide +kernel, rfl, by decide +kernel, by decide +kernel⟩
abbrev sweb_steps : Stmt := topS 51
theorem scweb_steps : FnScope ["web", "tie", "near", "far"] ["web"] (defScope sweb_steps) := ⟨rfl, rfl, rfl, by decide +kernel, rfl, by decide +kernel, by decide +kernel⟩
abbrev s_need_without : Stmt := topS 53
theorem sc_need_without : FnScope ["web", "without"] ["web", "without"] (defScope s_need_without) := ⟨rfl, rfl, rfl, by decide +kernel, rfl, by decide +kernel, by decide +kernel⟩
abbrev sway : Stmt := topS 54
theorem scway : FnScope ["web", "near", "far", "without", "ties", "came_by", "line", "at", "place", "tie", "end"] ["web", "near", "far", "without"] (defScope sway) := ⟨rfl, rfl, rfl, by decide +kernel, rfl, by decide +kernel, by decide +kernel⟩
abbrev s_walk_back : Stmt := topS 55
theorem sc_walk_back : FnScope ["ties", "came_by", "near", "far", "back"] ["ties", "came_by", "near", "far"] (defScope s_walk_back) := ⟨rfl, rfl, rfl, by decide +kernel, rfl, by decide +kernel, by decide +kernel⟩
abbrev sparts_of : Stmt := topS 56
theorem scparts_of : FnScope ["web"] ["web"] (defScope sparts_of) := ⟨rfl, rfl, rfl, by decide +kernel, rfl, by decide +kernel, by decide +kernel⟩
abbrev sis_close : Stmt := topS 57
theorem scis_close : FnScope ["web"] ["web"] (defScope sis_close) := ⟨rfl, rfl, rfl, by decide +kernel, rfl, by decide +kernel, by decide +kernel⟩
abbrev sis_single_ring : Stmt := topS 58
theorem scis_single_ring : FnScope ["web"] ["web"] (defScope sis_single_ring) := ⟨rfl, rfl, rfl, by decide +kernel, rfl, by decide +kernel, by decide +kernel⟩
abbrev sneed_close : Stmt := topS 59
theorem scneed_close : FnScope ["web"] ["web"] (defScope sneed_close) := ⟨rfl, rfl, rfl, by decide +kernel, rfl, by decide +kernel, by decide +kernel⟩
abbrev s_need_part : Stmt := topS 60
theorem sc_need_part : FnScope ["web", "part", "place"] ["web", "part"] (defScope s_need_part) := ⟨rfl, rfl, rfl, by decide +kernel, rfl, by decide +kernel, by decide +kernel⟩
abbrev spart_web : Stmt := topS 61
theorem scpart_web : FnScope ["web", "part", "anew", "at", "place", "ties", "within", "tie", "near", "far"] ["web", "part"] (defScope spart_web) := ⟨rfl, rfl, rfl, by decide +kernel, rfl, by decide +kernel, by decide +kernel⟩
abbrev sis_text : Stmt := topS 64
theorem scis_text : FnScope ["value", "sign"] ["value"] (defScope sis_text) := ⟨rfl, rfl, rfl, by decide +kernel, rfl, by decide +kernel, by decide +kernel⟩
abbrev sis_ring : Stmt := topS 65
theorem scis_ring : FnScope ["value"] ["value"] (defScope sis_ring) := ⟨rfl, rfl, rfl, by decide +kernel, rfl, by decide +kernel, by decide +kernel⟩
abbrev sneed_text : Stmt := topS 66
theorem scneed_text : FnScope ["text"] ["text"] (defScope sneed_text) := ⟨rfl, rfl, rfl, by decide +kernel, rfl, by decide +kernel, by decide +kernel⟩
abbrev sneed_ring : Stmt := topS 67
theorem scneed_ring : FnScope ["ring"] ["ring"] (defScope sneed_ring) := ⟨rfl, rfl, rfl, by decide +kernel, rfl, by decide +kernel, by decide +kernel⟩
abbrev s_turned_to : Stmt := topS 68
theorem sc_turned_to : FnScope ["ring", "place"] ["ring", "place"] (defScope s_turned_to) := ⟨rfl, rfl, rfl, by decide +kernel, rfl, by decide +kernel, by decide +kernel⟩
abbrev snormal : Stmt := topS 69
theorem scnormal : FnScope ["ring"] ["ring"] (defScope snormal) := ⟨rfl, rfl, rfl, by decide +kernel, rfl, by decide +kernel, by decide +kernel⟩
abbrev swords_of : Stmt := topS 73
theorem scwords_of : FnScope ["pieces", "piece"] ["pieces"] (defScope swords_of) := ⟨rfl, rfl, rfl, by decide +kernel, rfl, by decide +kernel, by decide +kernel⟩
abbrev sare_pieces : Stmt := topS 74
theorem scare_pieces : FnScope ["value", "piece"] ["value"] (defScope sare_pieces) := ⟨rfl, rfl, rfl, by decide +kernel, rfl, by decide +kernel, by decide +kernel⟩
abbrev sneed_pieces : Stmt := topS 75
theorem scneed_pieces : FnScope ["pieces"] ["pieces"] (defScope sneed_pieces) := ⟨rfl, rfl, rfl, by decide +kernel, rfl, by decide +kernel, by decide +kernel⟩
abbrev spieces_along : Stmt := topS 76
theorem scpieces_along : FnScope ["text", "size", "place"] ["text", "size"] (defScope spieces_along) := ⟨rfl, rfl, rfl, by decide +kernel, rfl, by decide +kernel, by decide +kernel⟩
abbrev spieces_often : Stmt := topS 77
theorem scpieces_often : FnScope ["readings", "size", "often", "text", "times", "piece"] ["readings", "size"] (defScope spieces_often) := ⟨rfl, rfl, rfl, by decide +kernel, rfl, by decide +kernel, by decide +kernel⟩
abbrev s_web_of : Stmt := topS 79
theorem sc_web_of : FnScope ["words", "pieces", "places", "place", "word", "piece"] ["words", "pieces"] (defScope s_web_of) := ⟨rfl, rfl, rfl, by decide +kernel, rfl, by decide +kernel, by decide +kernel⟩
abbrev sroad_between : Stmt := topS 82
theorem scroad_between : FnScope ["web", "first", "last", "ties"] ["web", "first", "last"] (defScope sroad_between) := ⟨rfl, rfl, rfl, by decide +kernel, rfl, by decide +kernel, by decide +kernel⟩
abbrev sneed_endings : Stmt := topS 85
theorem scneed_endings : FnScope ["web"] ["web"] (defScope sneed_endings) := ⟨rfl, rfl, rfl, by decide +kernel, rfl, by decide +kernel, by decide +kernel⟩
abbrev s_spoilt_pairs : Stmt := topS 86
theorem sc_spoilt_pairs : FnScope ["web", "ties", "first", "last"] ["web"] (defScope s_spoilt_pairs) := ⟨rfl, rfl, rfl, by decide +kernel, rfl, by decide +kernel, by decide +kernel⟩
abbrev s_as_bits : Stmt := topS 87
theorem sc_as_bits : FnScope ["many", "pairs", "bits", "tie", "other"] ["many", "pairs"] (defScope s_as_bits) := ⟨rfl, rfl, rfl, by decide +kernel, rfl, by decide +kernel, by decide +kernel⟩
abbrev s_walks_from : Stmt := topS 88
theorem sc_walks_from : FnScope ["web", "tie", "spoilt_ahead", "ties", "found", "waiting", "walk", "bits", "onward", "more"] ["web", "tie", "spoilt_ahead"] (defScope s_walks_from) := ⟨rfl, rfl, rfl, by decide +kernel, rfl, by decide +kernel, by decide +kernel⟩
abbrev ssure_walks : Stmt := topS 89
theorem scsure_walks : FnScope ["web", "pairs", "spoilt_ahead", "spoilt_behind", "found", "tie", "ahead", "walk", "bits", "first", "last", "more"] ["web"] (defScope ssure_walks) := ⟨rfl, rfl, rfl, by decide +kernel, rfl, by decide +kernel, by decide +kernel⟩
abbrev scontigs : Stmt := topS 90
theorem sccontigs : FnScope ["pieces", "pieceweb", "web", "found", "part", "within", "numbers", "number"] ["pieces"] (defScope scontigs) := ⟨rfl, rfl, rfl, by decide +kernel, rfl, by decide +kernel, by decide +kernel⟩
abbrev s_contigs_of_part : Stmt := topS 92
theorem sc_contigs_of_part : FnScope ["web", "pieces", "walk"] ["web", "pieces"] (defScope s_contigs_of_part) := ⟨rfl, rfl, rfl, by decide +kernel, rfl, by decide +kernel, by decide +kernel⟩
abbrev s_letters_along : Stmt := topS 93
theorem sc_letters_along : FnScope ["pieces", "ties", "tie"] ["pieces", "ties"] (defScope s_letters_along) := ⟨rfl, rfl, rfl, by decide +kernel, rfl, by decide +kernel, by decide +kernel⟩
abbrev s_once_around : Stmt := topS 94
theorem sc_once_around : FnScope ["web", "tour"] ["web"] (defScope s_once_around) := ⟨rfl, rfl, rfl, by decide +kernel, rfl, by decide +kernel, by decide +kernel⟩
abbrev sis_times : Stmt := topS 98
theorem scis_times : FnScope ["value"] ["value"] (defScope sis_times) := ⟨rfl, rfl, rfl, by decide +kernel, rfl, by decide +kernel, by decide +kernel⟩
abbrev sare_readings : Stmt := topS 99
theorem scare_readings : FnScope ["value", "reading"] ["value"] (defScope sare_readings) := ⟨rfl, rfl, rfl, by decide +kernel, rfl, by decide +kernel, by decide +kernel⟩
abbrev sneed_lot : Stmt := topS 101
theorem scneed_lot : FnScope ["lot"] ["lot"] (defScope sneed_lot) := ⟨rfl, rfl, rfl, by decide +kernel, rfl, by decide +kernel, by decide +kernel⟩
abbrev sneed_times : Stmt := topS 102
theorem scneed_times : FnScope ["times"] ["times"] (defScope sneed_times) := ⟨rfl, rfl, rfl, by decide +kernel, rfl, by decide +kernel, by decide +kernel⟩
abbrev s_times_together : Stmt := topS 103
theorem sc_times_together : FnScope ["readings", "together", "text", "times"] ["readings"] (defScope s_times_together) := ⟨rfl, rfl, rfl, by decide +kernel, rfl, by decide +kernel, by decide +kernel⟩
abbrev slot_told : Stmt := topS 104
theorem sclot_told : FnScope ["size", "told", "_", "times", "lot"] ["size", "told"] (defScope slot_told) := ⟨rfl, rfl, rfl, by decide +kernel, rfl, by decide +kernel, by decide +kernel⟩
abbrev s_lot_with : Stmt := topS 105
theorem sc_lot_with : FnScope ["lot", "readings", "together"] ["lot", "readings"] (defScope s_lot_with) := ⟨rfl, rfl, rfl, by decide +kernel, rfl, by decide +kernel, by decide +kernel⟩
abbrev swith_reading : Stmt := topS 106
theorem scwith_reading : FnScope ["lot", "text", "times"] ["lot", "text", "times"] (defScope swith_reading) := ⟨rfl, rfl, rfl, by decide +kernel, rfl, by decide +kernel, by decide +kernel⟩
abbrev swithout_reading : Stmt := topS 107
theorem scwithout_reading : FnScope ["lot", "text", "times", "read", "left", "reading"] ["lot", "text", "times"] (defScope swithout_reading) := ⟨rfl, rfl, rfl, by decide +kernel, rfl, by decide +kernel, by decide +kernel⟩
abbrev s_clusters_of : Stmt := topS 110
theorem sc_clusters_of : FnScope ["solid", "web", "lots", "part", "ties", "tie"] ["solid"] (defScope s_clusters_of) := ⟨rfl, rfl, rfl, by decide +kernel, rfl, by decide +kernel, by decide +kernel⟩
abbrev s_law_pot : Stmt := topS 113
theorem sc_law_pot : FnScope ["_law_script", "_law_k", "_law_cell", "_law_mixed"] ["_law_script", "_law_k"] (defScope s_law_pot) := ⟨rfl, rfl, rfl, by decide +kernel, rfl, by decide +kernel, by decide +kernel⟩
abbrev s_law_draw : Stmt := topS 114
theorem sc_law_draw : FnScope ["_law_pot_here", "_law_size", "_law_digit"] ["_law_pot_here", "_law_size"] (defScope s_law_draw) := ⟨rfl, rfl, rfl, by decide +kernel, rfl, by decide +kernel, by decide +kernel⟩
abbrev s_law_pick : Stmt := topS 115
theorem sc_law_pick : FnScope ["_law_pot_here", "_law_some"] ["_law_pot_here", "_law_some"] (defScope s_law_pick) := ⟨rfl, rfl, rfl, by decide +kernel, rfl, by decide +kernel, by decide +kernel⟩
abbrev s_law_pieces : Stmt := topS 116
theorem sc_law_pieces : FnScope ["_law_size", "_law_texts", "_law_found", "_law_text_here", "_law_at", "_law_piece"] ["_law_size", "_law_texts"] (defScope s_law_pieces) := ⟨rfl, rfl, rfl, by decide +kernel, rfl, by decide +kernel, by decide +kernel⟩
abbrev s_law_solid : Stmt := topS 117
theorem sc_law_solid : FnScope ["_law_size", "_law_least", "_law_texts", "_law_found", "_law_piece"] ["_law_size", "_law_least", "_law_texts"] (defScope s_law_solid) := ⟨rfl, rfl, rfl, by decide +kernel, rfl, by decide +kernel, by decide +kernel⟩
abbrev s_law_text : Stmt := topS 118
theorem sc_law_text : FnScope ["_law_pot_here", "_law_letters", "_law_found", "_law_turn"] ["_law_pot_here"] (defScope s_law_text) := ⟨rfl, rfl, rfl, by decide +kernel, rfl, by decide +kernel, by decide +kernel⟩
abbrev s_law_deed_right : Stmt := topS 119
theorem sc_law_deed_right : FnScope ["_law_pot_here", "_law_keeper", "_law_own", "_law_way", "_law_text_here", "_law_times", "_law_texts", "_law_later", "_law_deed"] ["_law_pot_here", "_law_keeper", "_law_own"] (defScope s_law_deed_right) := ⟨rfl, rfl, rfl, by decide +kernel, rfl, by decide +kernel, by decide +kernel⟩
abbrev s_law_is_as : Stmt := topS 120
theorem sc_law_is_as : FnScope ["_law_keeper", "_law_own", "_law_size", "_law_least", "_law_texts", "_law_log", "_law_is_bare"] ["_law_keeper", "_law_own", "_law_size", "_law_least"] (defScope s_law_is_as) := ⟨rfl, rfl, rfl, by decide +kernel, rfl, by decide +kernel, by decide +kernel⟩
abbrev s_law_anew : Stmt := topS 121
theorem sc_law_anew : FnScope ["_law_size", "_law_least", "_law_log", "_law_found", "_law_word", "_law_text_here", "_law_times"] ["_law_size", "_law_least", "_law_log"] (defScope s_law_anew) := ⟨rfl, rfl, rfl, by decide +kernel, rfl, by decide +kernel, by decide +kernel⟩
abbrev s_law_right : Stmt := topS 122
theorem sc_law_right : FnScope ["_law_pot_here", "_law_size", "_law_least", "_law_keeper", "_law_own", "_law_aside", "_law_kept", "_law_turn", "_law_texts", "_law_lone", "_law_text_here", "_law_left", "_law_again"] ["_law_pot_here"] (defScope s_law_right) := ⟨rfl, rfl, rfl, by decide +kernel, rfl, by decide +kernel, by decide +kernel⟩
abbrev slaw : Stmt := topS 123
theorem sclaw : FnScope ["_law_script"] ["_law_script"] (defScope slaw) := ⟨rfl, rfl, rfl, by decide +kernel, rfl, by decide +kernel, by decide +kernel⟩
abbrev sLot___init__ : Stmt := inClass (topS 100) 0
theorem scLot___init__ : FnScope ["self", "size", "readings"] ["self", "size", "readings"] (defScope sLot___init__) := ⟨rfl, rfl, rfl, by decide +kernel, rfl, by decide +kernel, by decide +kernel⟩
abbrev sLot___eq__ : Stmt := inClass (topS 100) 1
theorem scLot___eq__ : FnScope ["self", "other"] ["self", "other"] (defScope sLot___eq__) := ⟨rfl, rfl, rfl, by decide +kernel, rfl, by decide +kernel, by decide +kernel⟩
abbrev sLot_size : Stmt := inClass (topS 100) 2
theorem scLot_size : FnScope ["self"] ["self"] (defScope sLot_size) := ⟨rfl, rfl, rfl, by decide +kernel, rfl, by decide +kernel, by decide +kernel⟩
abbrev sLot_readings : Stmt := inClass (topS 100) 3
theorem scLot_readings : FnScope ["self"] ["self"] (defScope sLot_readings) := ⟨rfl, rfl, rfl, by decide +kernel, rfl, by decide +kernel, by decide +kernel⟩
abbrev sLot_times_of : Stmt := inClass (topS 100) 4
theorem scLot_times_of : FnScope ["self", "text"] ["self", "text"] (defScope sLot_times_of) := ⟨rfl, rfl, rfl, by decide +kernel, rfl, by decide +kernel, by decide +kernel⟩
abbrev sLot_pieces : Stmt := inClass (topS 100) 5
theorem scLot_pieces : FnScope ["self"] ["self"] (defScope sLot_pieces) := ⟨rfl, rfl, rfl, by decide +kernel, rfl, by decide +kernel, by decide +kernel⟩
abbrev sLot_solid : Stmt := inClass (topS 100) 6
theorem scLot_solid : FnScope ["self", "least", "piece", "times"] ["self", "least"] (defScope sLot_solid) := ⟨rfl, rfl, rfl, by decide +kernel, rfl, by decide +kernel, by decide +kernel⟩
abbrev sKeeper___init__ : Stmt := inClass (topS 111) 0
theorem scKeeper___init__ : FnScope ["self", "size", "least"] ["self", "size", "least"] (defScope sKeeper___init__) := ⟨rfl, rfl, rfl, by decide +kernel, rfl, by decide +kernel, by decide +kernel⟩
abbrev sKeeper_size : Stmt := inClass (topS 111) 1
theorem scKeeper_size : FnScope ["self"] ["self"] (defScope sKeeper_size) := ⟨rfl, rfl, rfl, by decide +kernel, rfl, by decide +kernel, by decide +kernel⟩
abbrev sKeeper_least : Stmt := inClass (topS 111) 2
theorem scKeeper_least : FnScope ["self"] ["self"] (defScope sKeeper_least) := ⟨rfl, rfl, rfl, by decide +kernel, rfl, by decide +kernel, by decide +kernel⟩
abbrev sKeeper__now : Stmt := inClass (topS 111) 3
theorem scKeeper__now : FnScope ["self"] ["self"] (defScope sKeeper__now) := ⟨rfl, rfl, rfl, by decide +kernel, rfl, by decide +kernel, by decide +kernel⟩
abbrev sKeeper__do : Stmt := inClass (topS 111) 4
theorem scKeeper__do : FnScope ["self", "deed", "lot"] ["self", "deed", "lot"] (defScope sKeeper__do) := ⟨rfl, rfl, rfl, by decide +kernel, rfl, by decide +kernel, by decide +kernel⟩
abbrev sKeeper_added : Stmt := inClass (topS 111) 5
theorem scKeeper_added : FnScope ["self", "text", "times"] ["self", "text", "times"] (defScope sKeeper_added) := ⟨rfl, rfl, rfl, by decide +kernel, rfl, by decide +kernel, by decide +kernel⟩
abbrev sKeeper_taken : Stmt := inClass (topS 111) 6
theorem scKeeper_taken : FnScope ["self", "text", "times"] ["self", "text", "times"] (defScope sKeeper_taken) := ⟨rfl, rfl, rfl, by decide +kernel, rfl, by decide +kernel, by decide +kernel⟩
abbrev sKeeper_undone : Stmt := inClass (topS 111) 7
theorem scKeeper_undone : FnScope ["self"] ["self"] (defScope sKeeper_undone) := ⟨rfl, rfl, rfl, by decide +kernel, rfl, by decide +kernel, by decide +kernel⟩
abbrev sKeeper_redone : Stmt := inClass (topS 111) 8
theorem scKeeper_redone : FnScope ["self"] ["self"] (defScope sKeeper_redone) := ⟨rfl, rfl, rfl, by decide +kernel, rfl, by decide +kernel, by decide +kernel⟩
abbrev sKeeper_lot : Stmt := inClass (topS 111) 9
theorem scKeeper_lot : FnScope ["self"] ["self"] (defScope sKeeper_lot) := ⟨rfl, rfl, rfl, by decide +kernel, rfl, by decide +kernel, by decide +kernel⟩
abbrev sKeeper_solid : Stmt := inClass (topS 111) 10
theorem scKeeper_solid : FnScope ["self"] ["self"] (defScope sKeeper_solid) := ⟨rfl, rfl, rfl, by decide +kernel, rfl, by decide +kernel, by decide +kernel⟩
abbrev sKeeper_log : Stmt := inClass (topS 111) 11
theorem scKeeper_log : FnScope ["self"] ["self"] (defScope sKeeper_log) := ⟨rfl, rfl, rfl, by decide +kernel, rfl, by decide +kernel, by decide +kernel⟩
abbrev sKeeper_clusters : Stmt := inClass (topS 111) 12
theorem scKeeper_clusters : FnScope ["self", "solid"] ["self"] (defScope sKeeper_clusters) := ⟨rfl, rfl, rfl, by decide +kernel, rfl, by decide +kernel, by decide +kernel⟩
abbrev sKeeper_contigs : Stmt := inClass (topS 111) 13
theorem scKeeper_contigs : FnScope ["self", "kept", "reckoned", "cluster", "key", "contig"] ["self"] (defScope sKeeper_contigs) := ⟨rfl, rfl, rfl, by decide +kernel, rfl, by decide +kernel, by decide +kernel⟩
abbrev sKeeper_reckoned : Stmt := inClass (topS 111) 14
theorem scKeeper_reckoned : FnScope ["self"] ["self"] (defScope sKeeper_reckoned) := ⟨rfl, rfl, rfl, by decide +kernel, rfl, by decide +kernel, by decide +kernel⟩
abbrev sKeeper_copy : Stmt := inClass (topS 111) 15
theorem scKeeper_copy : FnScope ["self", "other", "key", "told"] ["self"] (defScope sKeeper_copy) := ⟨rfl, rfl, rfl, by decide +kernel, rfl, by decide +kernel, by decide +kernel⟩
structure Bs (mg : Str → Option Value) : Prop where
  isinstance : mg "isinstance" = none
  int : mg "int" = none
  bool : mg "bool" = none
  str : mg "str" = none
  list : mg "list" = none
  tuple : mg "tuple" = none
  len : mg "len" = none
  range : mg "range" = none
  abs : mg "abs" = none
  max : mg "max" = none
  min : mg "min" = none
  divmod : mg "divmod" = none
  sorted : mg "sorted" = none
  dict : mg "dict" = none
  all : mg "all" = none
structure Glo (mg : Str → Option Value) : Prop where
  MOST_READINGS : ∃ t, mg "MOST_READINGS" = some (.int 60 t)
  MOST_TIMES : ∃ t, mg "MOST_TIMES" = some (.int 1200 t)
  MOST_LETTERS : ∃ t, mg "MOST_LETTERS" = some (.int 400 t)
  MOST_LEAST : ∃ t, mg "MOST_LEAST" = some (.int 20 t)
structure WebK (K : PySem.W.Frag) (mg : Str → Option Value) (C : Addr) : Prop where
  cl : Cls K C
  nS : NoAttr K C "_size"
  nT : NoAttr K C "_told"
  mgC : mg "Lot" = some (.ref C)
  i1 : PySem.W.findIn K (.ref C) "__class__" = some (some (.builtin "object.__class__"))
  i2 : PySem.W.specialIn K (.builtin "object.__class__") "__get__" = some (some (.builtin "getset_descriptor.__get__"))
  i3 : PySem.W.takesIn K (.builtin "object.__class__") = some true
  i4 : PySem.W.mroIn K C (.type "object") = some true
  i5 : PySem.W.kitOne K (.ref C) (.ref C) = some true
  ne : PySem.W.findIn K (.ref C) "__ne__" = some (some (.builtin "object.__ne__"))
  nd : PySem.W.notFirst K C (.type "dict") = true
  kd : PySem.W.kitOne K (.type "dict") (.ref C) = some false
structure KeepK (K : PySem.W.Frag) (mg : Str → Option Value) (C : Addr) : Prop where
  cl : Cls K C
  n0 : NoAttr K C "_size"
  n1 : NoAttr K C "_least"
  n2 : NoAttr K C "_lots"
  n3 : NoAttr K C "_deeds"
  n4 : NoAttr K C "_done"
  n5 : NoAttr K C "_kept"
  n6 : NoAttr K C "_reckoned"
  mgC : mg "Keeper" = some (.ref C)
  i1 : PySem.W.findIn K (.ref C) "__class__" = some (some (.builtin "object.__class__"))
  i2 : PySem.W.specialIn K (.builtin "object.__class__") "__get__" = some (some (.builtin "getset_descriptor.__get__"))
  i3 : PySem.W.takesIn K (.builtin "object.__class__") = some true
  i4 : PySem.W.mroIn K C (.type "object") = some true
  i5 : PySem.W.kitOne K (.ref C) (.ref C) = some true
  ne : PySem.W.findIn K (.ref C) "__ne__" = some (some (.builtin "object.__ne__"))
abbrev iv (L : List Nat) : List V := L.map fun n : Nat => V.int (n : Int)
theorem same_new {H : Hp} {p : Addr} (h : H p = none) (o : HO) : Same H (upd H p o) := fun b u q => by rw [upd_ne (ne_of_none q h)]; exact q
theorem iteNo {c A B : Prop} [Decidable c] (h : ¬ c) (b : B) : if decide c = true then A else B := by
  rw [decide_eq_false h]
  exact iteF b
theorem iteNot {c A B : Prop} [Decidable c] (h : ¬ c) (a : A) : if (!decide c) = true then A else B := by
  rw [decide_eq_false h]
  exact iteT a
theorem iteNot' {c A B : Prop} [Decidable c] (h : c) (b : B) : if (!decide c) = true then A else B := by
  rw [decide_eq_true h]
  exact iteF b
theorem iteNN {c A B : Prop} [Decidable c] (h : ¬ c) (b : B) : if (!!decide c) = true then A else B := by
  rw [decide_eq_false h]
  exact iteF b
theorem iv_at {L : List Nat} {j b : Nat} (h : L[j]? = some b) : atI (iv L) (j : Int) = some (.int (b : Int)) := by
  refine atI_nat ?_
  rw [iv, List.getElem?_map, h]
  rfl
theorem iv_app (L : List Nat) (n : Nat) : iv (L ++ [n]) = iv L ++ [V.int (n : Int)] := by
  unfold iv
  rw [List.map_append]
  rfl
theorem same_upd {H H' : Hp} {p : Addr} {o : HO} (h : Same H H') (np : H p = none) : Same H (upd H' p o) := fun b u q => by
  rw [upd_ne (ne_of_none q np)]
  exact h b u q
theorem iteYes {c A B : Prop} [Decidable c] (h : c) (a : A) : if decide c = true then A else B := by
  rw [decide_eq_true h]
  exact iteT a
theorem bl_true {c : Prop} [Decidable c] {Q : VK} {H : Hp} (h : c) (q : Q (.bl true) H) : Q (.bl (decide c)) H := by
  rw [decide_eq_true h]
  exact q
theorem int_eq {a b : Int} : V.int a = V.int b ↔ a = b := ⟨fun h => V.int.inj h, fun h => by rw [h]⟩
/-! ### lists of ints compared -/
abbrev iz (L : List Int) : List V := L.map V.int
theorem iv_iz (L : List Nat) : iv L = iz (L.map fun n : Nat => (n : Int)) := by
  unfold iv iz
  rw [List.map_map]
  rfl
abbrev dz (L : List Int) : PyData := .list (L.map PyData.int)
theorem dpAll_iz {K : PySem.W.Frag} {H : Hp} : ∀ L : List Int, DpAll K H (iz L) (L.map PyData.int)
  | [] => .nil
  | n :: r => .cons (.int n) (dpAll_iz r)
theorem dp_iz {K : PySem.W.Frag} {H : Hp} {p : Addr} {L : List Int} (h : H p = some (.lst (iz L))) : Dp K H (.ref p) (dz L) := .lst (SqL.of h) (dpAll_iz L)
theorem layAll_iz : ∀ L : List Int, PyData.canLayAll0 (L.map PyData.int) = true
  | [] => rfl
  | n :: r => by
    show (PyData.canLay0 (.int n) && PyData.canLayAll0 (r.map PyData.int)) = true
    rw [layAll_iz r]
    rfl
theorem depthAll_iz : ∀ L : List Int, PyData.depthAll (L.map PyData.int) = 0
  | [] => rfl
  | n :: r => by
    show max (PyData.depth (.int n)) (PyData.depthAll (r.map PyData.int)) = 0
    rw [depthAll_iz r]
    rfl
theorem shaped_iz (L : List Int) : SeqAt.shaped (dz L) = true := by
  unfold SeqAt.shaped
  have h1 : PyData.canLay0 (dz L) = true := by
    show PyData.canLay0 (.list (L.map PyData.int)) = true
    unfold PyData.canLay0
    exact layAll_iz L
  have h2 : PyData.depth (dz L) = 1 := by
    show PyData.depth (.list (L.map PyData.int)) = 1
    unfold PyData.depth
    rw [depthAll_iz]
  rw [h1, h2]
  rfl
theorem eqv_same (L : List Int) : PyData.eqv (dz L) (dz L) = true := by
  have h1 : PyData.canLay0 (dz L) = true := by
    show PyData.canLay0 (.list (L.map PyData.int)) = true
    unfold PyData.canLay0
    exact layAll_iz L
  exact SeqAt.eqv_refl _ h1
theorem eqv_empty (L : List Int) : PyData.eqv (dz L) (dz []) = decide (L = []) := by
  cases L with
  | nil => rfl
  | cons n r => rfl
theorem iteNb {x : Bool} {A B : Prop} (h : x = true) (b : B) : if (!x) = true then A else B := by
  rw [h]
  exact iteF b
theorem bl_is {x : Bool} {Q : VK} {H : Hp} (h : x = true) (q : Q (.bl true) H) : Q (.bl x) H := by
  rw [h]
  exact q
def Kept (a : Addr) (H H' : Hp) : Prop := ∀ b o, H b = some o → b ≠ a → H' b = some o
theorem Kept.trans {a : Addr} {H H1 H2 : Hp} (h : Kept a H H1) (h2 : Kept a H1 H2) : Kept a H H2 := fun b o e n => h2 b o (h b o e n) n
theorem Same.kept {a : Addr} {H H' : Hp} (h : Same H H') : Kept a H H' := fun b o e _ => h b o e
theorem paired_get {α β : Type} {F : α → β → Prop} : ∀ {l1 : List α} {l2 : List β} {i : Nat} {a : α}, Paired F l1 l2 → l1[i]? = some a → ∃ b, l2[i]? = some b ∧ F a b
  | _, _, _, _, .nil, h => by simp at h
  | _, _, 0, _, .cons r _, h => ⟨_, rfl, by cases h; exact r⟩
  | _, _, i + 1, _, .cons _ t, h => by
    obtain ⟨b, h1, h2⟩ := paired_get (i := i) t (by simpa using h)
    exact ⟨b, by simpa using h1, h2⟩
theorem paired_mono {α β : Type} {F G : α → β → Prop} (h : ∀ a b, F a b → G a b) : ∀ {l1 : List α} {l2 : List β}, Paired F l1 l2 → Paired G l1 l2
  | _, _, .nil => .nil
  | _, _, .cons a r => .cons (h _ _ a) (paired_mono h r)
theorem paired_len {α β : Type} {F : α → β → Prop} : ∀ {l1 : List α} {l2 : List β}, Paired F l1 l2 → l1.length = l2.length
  | _, _, .nil => rfl
  | _, _, .cons _ r => congrArg Nat.succ (paired_len r)
/-! ### lots as lists of texts with numbers -/
def getT (D : List (Str × Int)) (x : Str) : Int := ((D.find? fun e => decide (e.1 = x)).map (·.2)).getD 0
def addT : List (Str × Int) → Str → Int → List (Str × Int)
  | [], x, n => [(x, n)]
  | e :: r, x, n => if e.1 = x then (e.1, e.2 + n) :: r else e :: addT r x n
theorem addT_keys (x : Str) (n : Int) : ∀ D : List (Str × Int), (addT D x n).map Prod.fst = if x ∈ D.map Prod.fst then D.map Prod.fst else D.map Prod.fst ++ [x]
  | [] => rfl
  | e :: r => by
    have ih := addT_keys x n r
    unfold addT
    by_cases h : e.1 = x
    · rw [if_pos h, List.map_cons, List.map_cons, if_pos (by rw [h]; exact List.mem_cons_self)]
    · have hx : ¬ x = e.1 := fun z => h z.symm
      rw [if_neg h, List.map_cons, List.map_cons, ih]
      by_cases k : x ∈ r.map Prod.fst
      · rw [if_pos k, if_pos (List.mem_cons_of_mem _ k)]
      · rw [if_neg k, if_neg (by simp only [List.mem_cons]; rintro (z | z); exact hx z; exact k z)]
        rfl
theorem addT_nodup {x : Str} {n : Int} {D : List (Str × Int)} (h : (D.map Prod.fst).Nodup) : ((addT D x n).map Prod.fst).Nodup := by
  rw [addT_keys]
  split
  · exact h
  · rename_i c
    rw [List.nodup_append]
    exact ⟨h, by simp, fun a ha b hb => by rw [List.mem_singleton.mp hb]; rintro rfl; exact c ha⟩
theorem addT_mem {x y : Str} {n : Int} {D : List (Str × Int)} : y ∈ (addT D x n).map Prod.fst ↔ y ∈ D.map Prod.fst ∨ y = x := by
  rw [addT_keys]
  split
  · rename_i c
    exact ⟨.inl, fun h => h.elim id fun z => by rw [z]; exact c⟩
  · rw [List.mem_append, List.mem_singleton]
theorem addT_get (x y : Str) (n : Int) : ∀ D : List (Str × Int), getT (addT D x n) y = if y = x then getT D x + n else getT D y
  | [] => by
    unfold addT getT
    by_cases h : x = y
    · simp [h]
    · have h2 : ¬ y = x := fun z => h z.symm
      simp [h, h2]
  | e :: r => by
    have ih := addT_get x y n r
    unfold addT
    by_cases h : e.1 = x
    · rw [if_pos h]
      by_cases k : y = x
      · subst k
        simp [getT, h]
      · have k2 : ¬ e.1 = y := fun z => k (by rw [← z, h])
        rw [if_neg k]
        simp [getT, List.find?_cons, k2]
    · rw [if_neg h]
      by_cases k : e.1 = y
      · have k2 : ¬ y = x := fun z => h (by rw [k, z])
        rw [if_neg k2]
        simp [getT, List.find?_cons, k]
      · have s1 : getT (e :: addT r x n) y = getT (addT r x n) y := by simp [getT, List.find?_cons, k]
        have s2 : getT (e :: r) y = getT r y := by simp [getT, List.find?_cons, k]
        have s3 : getT (e :: r) x = getT r x := by simp [getT, List.find?_cons, h]
        rw [s1, s2, s3]
        exact ih
theorem addT_len (x : Str) (n : Int) (D : List (Str × Int)) : (addT D x n).length ≤ D.length + 1 := by
  have := congrArg List.length (addT_keys x n D)
  rw [List.length_map] at this
  rw [this]
  split
  · rw [List.length_map]; omega
  · rw [List.length_append, List.length_map]; simp
/-- the dict by texts -/
abbrev dT (D : List (Str × Int)) : List (Key × V) := D.map entSI
theorem dT_val (x : Str) : ∀ D : List (Str × Int), valV (dT D) (Sum.inr x : Key) = (D.find? fun e => decide (e.1 = x)).map fun e => V.int e.2
  | [] => rfl
  | e :: r => by
    have ih := dT_val x r
    by_cases h : e.1 = x
    · rw [show dT (e :: r) = entSI e :: dT r from rfl, valV_pos (by show (Sum.inr e.1 : Key) = _; rw [h]), List.find?_cons_of_pos (by simpa using h)]
      rfl
    · rw [show dT (e :: r) = entSI e :: dT r from rfl, valV_neg (fun z => h (Sum.inr.inj z)), List.find?_cons_of_neg (by simpa using h)]
      exact ih
theorem dT_getD (x : Str) (D : List (Str × Int)) : (valV (dT D) (Sum.inr x : Key)).getD (.int 0) = .int (getT D x) := by
  rw [dT_val]
  unfold getT
  cases D.find? fun e => decide (e.1 = x) with
  | none => rfl
  | some e => rfl
theorem dT_put {x : Str} {n : Int} : ∀ {D : List (Str × Int)}, (D.map Prod.fst).Nodup → putK (dT D) (Sum.inr x : Key) (.int (getT D x + n)) = dT (addT D x n)
  | [], _ => by
    show putK [] _ _ = _
    rw [putK_new _ rfl]
    simp [getT, addT]
  | e :: r, hn => by
    have hn' := List.nodup_cons.mp (by simpa using hn : (e.1 :: r.map Prod.fst).Nodup)
    by_cases h : e.1 = x
    · subst h
      have hg : getT (e :: r) e.1 = e.2 := by simp [getT]
      have hz : valV (dT (e :: r)) (Sum.inr e.1 : Key) = some (.int e.2) := by rw [dT_val]; simp
      unfold putK
      rw [valV_any, hz, Option.isSome_some, if_pos rfl, hg]
      show (_ :: _) = _
      unfold addT
      rw [if_pos rfl]
      show _ = entSI (e.1, e.2 + n) :: dT r
      refine congr (congrArg List.cons (by simp [entSI])) ?_
      rw [dT, List.map_map]
      refine List.map_congr_left fun f hf => ?_
      have : ¬ (Sum.inr f.1 : Key) = Sum.inr e.1 := fun z => hn'.1 (by rw [← Sum.inr.inj z]; exact List.mem_map.mpr ⟨f, hf, rfl⟩)
      show (if (Sum.inr f.1 : Key) = Sum.inr e.1 then _ else _) = _
      rw [if_neg this]
    · have ih := dT_put (x := x) (n := n) (D := r) hn'.2
      have hg : getT (e :: r) x = getT r x := by simp [getT, List.find?_cons, h]
      have hk : ¬ (entSI e).1 = (Sum.inr x : Key) := fun z => h (Sum.inr.inj z)
      have hv : valV (dT (e :: r)) (Sum.inr x : Key) = valV (dT r) (Sum.inr x : Key) := valV_neg hk
      have ha : addT (e :: r) x n = e :: addT r x n := by
        show (if e.1 = x then _ else _) = _
        rw [if_neg h]
      rw [hg, ha]
      show putK (dT (e :: r)) _ _ = entSI e :: dT (addT r x n)
      rw [← ih]
      unfold putK
      rw [valV_any, valV_any, hv]
      split
      · show ((if (entSI e).1 = Sum.inr x then _ else _) :: _) = _
        rw [if_neg hk]
      · rfl
section
variable {P : Program} {w : World} {K : PySem.W.Frag} {mg : Str → Option Value} {base : Heap} {C C2 : Addr}
def spis_integer (_ : PySem.W.Frag) (_ _ : Addr) : Sp := fun vs H Q _ => ∃ n : Int, vs = [.int n] ∧ Q (.bl true) H
theorem okis_integer (D : Def K mg "is_integer" sis_integer ["value"]) (B : Bs mg) (Glb : Glo mg) (WK : WebK K mg C) (PK : KeepK K mg C2) :
    Good P w K mg base "is_integer" sis_integer ["value"] 1 (spis_integer K C C2) := by
  refine D.good fun f fd F => ?_
  refine F.ok scis_integer (fun vs H Q E h => ?_) (fun cdv A outer s H vs Q E hr h => ?_)
  · obtain ⟨n, rfl, q⟩ := h
    first | rfl | (rcases h with ⟨_, _, rfl, _⟩ | ⟨_, rfl, _⟩ <;> rfl)
  obtain ⟨n, rfl, q⟩ := h
  refine ⟨_, (pss_one (ps_ret (pe_and (pe_callB call_isi (by rfl) B.isinstance (by decide +kernel) (pa_cons (pv 0) (pa_cons (pe_bltn (v := .ty "int") (by rfl) B.int (by decide +kernel) rfl) pa_nil))) (pe_one (pe_not (pe_callB call_isi (by rfl) B.isinstance (by decide +kernel) (pa_cons (pv 0) (pa_cons (pe_bltn (v := .ty "bool") (by rfl) B.bool (by decide +kernel) rfl) pa_nil)))))))), ?_⟩
  exact ⟨_, rfl, _, _, _, _, true, rfl, .ty _, .base (.int n), kit_ty (by decide +kernel), _, rfl, iteT ⟨_, rfl, _, _, _, _, false, rfl, .ty _, .base (.int n), kit_ty (by decide +kernel), _, rfl, q⟩⟩
def spis_count (_ : PySem.W.Frag) (_ _ : Addr) : Sp := fun vs H Q _ => ∃ n : Nat, vs = [.int (n : Int)] ∧ Q (.bl true) H
theorem okis_count (D : Def K mg "is_count" sis_count ["value"]) (B : Bs mg) (Glb : Glo mg) (WK : WebK K mg C) (PK : KeepK K mg C2)
    (his_integer : Good P w K mg base "is_integer" sis_integer ["value"] 1 (spis_integer K C C2)) :
    Good P w K mg base "is_count" sis_count ["value"] 2 (spis_count K C C2) := by
  refine D.good fun f fd F => ?_
  obtain ⟨fis_integer, dis_integer, Ois_integer, mis_integer, kis_integer, bis_integer, Fis_integer⟩ := his_integer
  refine F.ok scis_count (fun vs H Q E h => ?_) (fun cdv A outer s H vs Q E hr h => ?_)
  · obtain ⟨n, rfl, q⟩ := h
    first | rfl | (rcases h with ⟨_, _, rfl, _⟩ | ⟨_, rfl, _⟩ <;> rfl)
  obtain ⟨n, rfl, q⟩ := h
  refine ⟨_, (pss_one (ps_ret (pe_and (pe_call Ois_integer hr rfl mis_integer kis_integer bis_integer .nil pass0 (pa_cons (pv 0) pa_nil)) (pe_one (pe_cmpR op_ge (pv 0) pe_int (nomark _)))))), ?_⟩
  exact ⟨_, rfl, n, rfl, _, rfl, iteT ⟨_, rfl, _, _, rfl, rfl, bl_true (by omega) q⟩⟩
def spis_between (_ : PySem.W.Frag) (_ _ : Addr) : Sp := fun vs H Q _ => ∃ n a b : Int, vs = [.int n, .int a, .int b] ∧ a ≤ n ∧ n ≤ b ∧ Q (.bl true) H
theorem okis_between (D : Def K mg "is_between" sis_between ["value", "least", "most"]) (B : Bs mg) (Glb : Glo mg) (WK : WebK K mg C) (PK : KeepK K mg C2)
    (his_integer : Good P w K mg base "is_integer" sis_integer ["value"] 1 (spis_integer K C C2)) :
    Good P w K mg base "is_between" sis_between ["value", "least", "most"] 2 (spis_between K C C2) := by
  refine D.good fun f fd F => ?_
  obtain ⟨fis_integer, dis_integer, Ois_integer, mis_integer, kis_integer, bis_integer, Fis_integer⟩ := his_integer
  refine F.ok scis_between (fun vs H Q E h => ?_) (fun cdv A outer s H vs Q E hr h => ?_)
  · obtain ⟨n, a, b, rfl, h1, h2, q⟩ := h
    first | rfl | (rcases h with ⟨_, _, rfl, _⟩ | ⟨_, rfl, _⟩ <;> rfl)
  obtain ⟨n, a, b, rfl, h1, h2, q⟩ := h
  refine ⟨_, (pss_one (ps_ret (pe_and (pe_call Ois_integer hr rfl mis_integer kis_integer bis_integer .nil pass0 (pa_cons (pv 0) pa_nil)) (pe_one (pe_chain op_le op_le (pv 1) (pv 0) (pv 2)))))), ?_⟩
  exact ⟨_, rfl, n, rfl, _, rfl, iteT ⟨_, rfl, _, rfl, _, _, rfl, rfl, _, rfl, iteYes h1 ⟨_, rfl, _, _, rfl, rfl, bl_true h2 q⟩⟩⟩
def spis_listed (_ : PySem.W.Frag) (_ _ : Addr) : Sp := fun vs H Q _ => ∃ a, vs = [.ref a] ∧ ((∃ xs, H a = some (.lst xs)) ∨ (∃ xs, H a = some (.tup xs))) ∧ ∀ H', Same H H' → Q (.bl true) H'
theorem okis_listed (D : Def K mg "is_listed" sis_listed ["value"]) (B : Bs mg) (Glb : Glo mg) (WK : WebK K mg C) (PK : KeepK K mg C2) :
    Good P w K mg base "is_listed" sis_listed ["value"] 1 (spis_listed K C C2) := by
  refine D.good fun f fd F => ?_
  refine F.ok scis_listed (fun vs H Q E h => ?_) (fun cdv A outer s H vs Q E hr h => ?_)
  · obtain ⟨a, rfl, ha, q⟩ := h
    first | rfl | (rcases h with ⟨_, _, rfl, _⟩ | ⟨_, rfl, _⟩ <;> rfl)
  obtain ⟨a, rfl, ha, q⟩ := h
  refine ⟨_, (pss_one (ps_ret (pe_callB call_isiT (by rfl) B.isinstance (by decide +kernel) (pa_cons (pv 0) (pa_cons (pe_tup (pa_cons (pe_bltn (v := .ty "list") (by rfl) B.list (by decide +kernel) rfl) (pa_cons (pe_bltn (v := .ty "tuple") (by rfl) B.tuple (by decide +kernel) rfl) pa_nil))) pa_nil))))), ?_⟩
  refine ⟨_, rfl, (by show 2 ≤ sizeLine; decide), fun tp ntp => ?_⟩
  rcases ha with ⟨xs, ha⟩ | ⟨xs, ha⟩
  · exact ⟨_, tp, [.ty "list", .ty "tuple"], .type "list", [.type "list", .type "tuple"], true, rfl, upd_same, .cons (.ty _) (.cons (.ty _) .nil), .base (.lst (same_new ntp _ _ _ ha)), kitAny_cons (b := true) (kit_ty (by decide +kernel)) (fun h => by cases h) (fun _ => rfl), q _ (same_new ntp _)⟩
  · exact ⟨_, tp, [.ty "list", .ty "tuple"], .type "tuple", [.type "list", .type "tuple"], true, rfl, upd_same, .cons (.ty _) (.cons (.ty _) .nil), .base (.tup (same_new ntp _ _ _ ha)), kitAny_cons (b := false) (kit_ty (by decide +kernel)) (fun _ => kitAny_cons (b := true) (kit_ty (by decide +kernel)) (fun h => by cases h) (fun _ => rfl)) (fun h => by cases h), q _ (same_new ntp _)⟩
end
end My
namespace My
open PySem L2 PyProof.Rows
theorem of_a : Str.ofString "a" = ⟨#[97]⟩ := by decide +kernel
theorem of_z : Str.ofString "z" = ⟨#[122]⟩ := by decide +kernel
theorem not_lt_one {a b : Nat} (h : b ≤ a) : ¬ ((⟨#[a]⟩ : Str).cps.toList < (⟨#[b]⟩ : Str).cps.toList) := by
  show ¬ ([a] < [b])
  rw [List.cons_lt_cons_iff]
  rintro (z | ⟨_, z⟩)
  · omega
  · exact absurd z (List.lt_irrefl [])
/-- a text -/
structure OkT (x : Str) : Prop where
  len : x.length ≤ 400
  let_ : ∀ c ∈ x.cps.toList, 97 ≤ c ∧ c ≤ 122
theorem line400 {n : Nat} (h : n ≤ 400) : n ≤ sizeLine := Nat.le_trans h (by decide)
abbrev pc (x : Str) (s p : Nat) : Str := cutS x (some (p : Int)) (some ((p : Int) + (s : Int)))
def pcsN (x : Str) (s : Nat) : Nat → List Str
  | 0 => []
  | n + 1 => pcsN x s n ++ [pc x s n]
theorem pcsN_len (x : Str) (s : Nat) : ∀ n, (pcsN x s n).length = n
  | 0 => rfl
  | n + 1 => by unfold pcsN; rw [List.length_append, pcsN_len x s n]; rfl
abbrev pcs (x : Str) (s : Nat) : List Str := pcsN x s (x.length + 1 - s)
/-- readings: a list of pairs in the heap -/
def SIAt (H : Hp) (t : Addr) (e : Str × Int) : Prop := H t = some (.tup [.str e.1, .int e.2])
def RdAt (H : Hp) (l : Addr) (L : List (Str × Int)) : Prop := ∃ ts : List Addr, H l = some (.lst (ts.map V.ref)) ∧ Paired (SIAt H) ts L
theorem RdAt.same {H H' : Hp} {l : Addr} {L : List (Str × Int)} (h : RdAt H l L) (s : Same H H') : RdAt H' l L := by
  obtain ⟨ts, h1, h2⟩ := h
  exact ⟨ts, s _ _ h1, paired_mono (fun p e hp => s _ _ hp) h2⟩
theorem ref_at {ts : List Addr} {i : Nat} {v : V} (h : (ts.map V.ref)[i]? = some v) : ∃ p, ts[i]? = some p ∧ v = .ref p := by
  rw [List.getElem?_map] at h
  cases e : ts[i]? with
  | none => rw [e] at h; cases h
  | some p => rw [e] at h; exact ⟨p, rfl, (Option.some.inj h).symm⟩
theorem str_at {xs : List Str} {i : Nat} {v : V} (h : (xs.map V.str)[i]? = some v) : ∃ x, xs[i]? = some x ∧ v = .str x := by
  rw [List.getElem?_map] at h
  cases e : xs[i]? with
  | none => rw [e] at h; cases h
  | some p => rw [e] at h; exact ⟨p, rfl, (Option.some.inj h).symm⟩
/-- numbers put together -/
def sumT : List (Str × Int) → List (Str × Int) → List (Str × Int)
  | D, [] => D
  | D, e :: r => sumT (addT D e.1 e.2) r
theorem sumT_app (L M : List (Str × Int)) : ∀ D, sumT D (L ++ M) = sumT (sumT D L) M := by
  induction L with
  | nil => intro D; rfl
  | cons e r ih => intro D; exact ih _
theorem sumT_nodup (L : List (Str × Int)) : ∀ {D : List (Str × Int)}, (D.map Prod.fst).Nodup → ((sumT D L).map Prod.fst).Nodup := by
  induction L with
  | nil => intro D h; exact h
  | cons e r ih => intro D h; exact ih (addT_nodup h)
theorem sumT_len (L : List (Str × Int)) : ∀ D, (sumT D L).length ≤ D.length + L.length := by
  induction L with
  | nil => intro D; exact Nat.le_refl _
  | cons e r ih =>
    intro D
    have h1 := ih (addT D e.1 e.2)
    have h2 := addT_len e.1 e.2 D
    show (sumT (addT D e.1 e.2) r).length ≤ D.length + (r.length + 1)
    omega
/-- the pieces of texts, each with its number -/
def pcsT (s : Nat) (L : List (Str × Int)) : List (Str × Int) := L.flatMap fun e => (pcs e.1 s).map fun p => (p, e.2)
section
variable {P : Program} {w : World} {K : PySem.W.Frag} {mg : Str → Option Value} {base : Heap} {C C2 : Addr}
def spis_size (_ : PySem.W.Frag) (_ _ : Addr) : Sp := fun vs H Q _ => ∃ n : Nat, vs = [.int (n : Int)] ∧ 2 ≤ n ∧ n ≤ 8 ∧ Q (.bl true) H
theorem okis_size (D : Def K mg "is_size" sis_size ["value"]) (B : Bs mg) (Glb : Glo mg) (WK : WebK K mg C) (PK : KeepK K mg C2)
    (his_between : Good P w K mg base "is_between" sis_between ["value", "least", "most"] 2 (spis_between K C C2)) :
    Good P w K mg base "is_size" sis_size ["value"] 3 (spis_size K C C2) := by
  refine D.good fun f fd F => ?_
  obtain ⟨fis_between, dis_between, Ois_between, mis_between, kis_between, bis_between, Fis_between⟩ := his_between
  refine F.ok scis_size (fun vs H Q E h => ?_) (fun cdv A outer s H vs Q E hr h => ?_)
  · obtain ⟨n, rfl, h1, h2, q⟩ := h
    first | rfl | (rcases h with ⟨_, _, rfl, _⟩ | ⟨_, rfl, _⟩ <;> rfl)
  obtain ⟨n, rfl, h1, h2, q⟩ := h
  refine ⟨_, (pss_one (ps_ret (pe_call Ois_between hr rfl mis_between kis_between bis_between .nil pass0 (pa_cons (pv 0) (pa_cons pe_int (pa_cons pe_int pa_nil)))))), ?_⟩
  exact ⟨_, rfl, n, 2, 8, rfl, by omega, by omega, q⟩
def spneed_size (_ : PySem.W.Frag) (_ _ : Addr) : Sp := fun vs H Q _ => ∃ n : Nat, vs = [.int (n : Int)] ∧ 2 ≤ n ∧ n ≤ 8 ∧ Q .non H
theorem okneed_size (D : Def K mg "need_size" sneed_size ["size"]) (B : Bs mg) (Glb : Glo mg) (WK : WebK K mg C) (PK : KeepK K mg C2)
    (his_size : Good P w K mg base "is_size" sis_size ["value"] 3 (spis_size K C C2)) :
    Good P w K mg base "need_size" sneed_size ["size"] 4 (spneed_size K C C2) := by
  refine D.good fun f fd F => ?_
  obtain ⟨fis_size, dis_size, Ois_size, mis_size, kis_size, bis_size, Fis_size⟩ := his_size
  refine F.ok scneed_size (fun vs H Q E h => ?_) (fun cdv A outer s H vs Q E hr h => ?_)
  · obtain ⟨n, rfl, h1, h2, q⟩ := h
    first | rfl | (rcases h with ⟨_, _, rfl, _⟩ | ⟨_, rfl, _⟩ <;> rfl)
  obtain ⟨n, rfl, h1, h2, q⟩ := h
  refine ⟨_, (pss_one (ps_if (pt_not (pt_val (pe_call Ois_size hr rfl mis_size kis_size bis_size .nil pass0 (pa_cons (pv 0) pa_nil))))
    (pss_one ps_never) pss_nil)), ?_⟩
  exact ⟨_, rfl, n, rfl, h1, h2, _, rfl, iteF q⟩
def spis_times (_ : PySem.W.Frag) (_ _ : Addr) : Sp := fun vs H Q _ => ∃ n : Int, vs = [.int n] ∧ 1 ≤ n ∧ n ≤ 20 ∧ Q (.bl true) H
theorem okis_times (D : Def K mg "is_times" sis_times ["value"]) (B : Bs mg) (Glb : Glo mg) (WK : WebK K mg C) (PK : KeepK K mg C2)
    (his_between : Good P w K mg base "is_between" sis_between ["value", "least", "most"] 2 (spis_between K C C2)) :
    Good P w K mg base "is_times" sis_times ["value"] 3 (spis_times K C C2) := by
  refine D.good fun f fd F => ?_
  obtain ⟨fis_between, dis_between, Ois_between, mis_between, kis_between, bis_between, Fis_between⟩ := his_between
  refine F.ok scis_times (fun vs H Q E h => ?_) (fun cdv A outer s H vs Q E hr h => ?_)
  · obtain ⟨n, rfl, h1, h2, q⟩ := h
    first | rfl | (rcases h with ⟨_, _, rfl, _⟩ | ⟨_, rfl, _⟩ <;> rfl)
  obtain ⟨n, rfl, h1, h2, q⟩ := h
  refine ⟨_, (pss_one (ps_ret (pe_call Ois_between hr rfl mis_between kis_between bis_between .nil pass0 (pa_cons (pv 0) (pa_cons pe_int (pa_cons pe_int pa_nil)))))), ?_⟩
  exact ⟨_, rfl, n, 1, 20, rfl, h1, h2, q⟩
def spneed_times (_ : PySem.W.Frag) (_ _ : Addr) : Sp := fun vs H Q _ => ∃ n : Int, vs = [.int n] ∧ 1 ≤ n ∧ n ≤ 20 ∧ Q .non H
theorem okneed_times (D : Def K mg "need_times" sneed_times ["times"]) (B : Bs mg) (Glb : Glo mg) (WK : WebK K mg C) (PK : KeepK K mg C2)
    (his_times : Good P w K mg base "is_times" sis_times ["value"] 3 (spis_times K C C2)) :
    Good P w K mg base "need_times" sneed_times ["times"] 4 (spneed_times K C C2) := by
  refine D.good fun f fd F => ?_
  obtain ⟨fis_times, dis_times, Ois_times, mis_times, kis_times, bis_times, Fis_times⟩ := his_times
  refine F.ok scneed_times (fun vs H Q E h => ?_) (fun cdv A outer s H vs Q E hr h => ?_)
  · obtain ⟨n, rfl, h1, h2, q⟩ := h
    first | rfl | (rcases h with ⟨_, _, rfl, _⟩ | ⟨_, rfl, _⟩ <;> rfl)
  obtain ⟨n, rfl, h1, h2, q⟩ := h
  refine ⟨_, (pss_one (ps_if (pt_not (pt_val (pe_call Ois_times hr rfl mis_times kis_times bis_times .nil pass0 (pa_cons (pv 0) pa_nil))))
    (pss_one ps_never) pss_nil)), ?_⟩
  exact ⟨_, rfl, n, rfl, h1, h2, _, rfl, iteF q⟩
def spis_letter (_ : PySem.W.Frag) (_ _ : Addr) : Sp := fun vs H Q _ => ∃ c : Nat, vs = [.str ⟨#[c]⟩] ∧ 97 ≤ c ∧ c ≤ 122 ∧ Q (.bl true) H
theorem okis_letter (D : Def K mg "is_letter" sis_letter ["sign"]) (B : Bs mg) (Glb : Glo mg) (WK : WebK K mg C) (PK : KeepK K mg C2) :
    Good P w K mg base "is_letter" sis_letter ["sign"] 1 (spis_letter K C C2) := by
  refine D.good fun f fd F => ?_
  refine F.ok scis_letter (fun vs H Q E h => ?_) (fun cdv A outer s H vs Q E hr h => ?_)
  · obtain ⟨c, rfl, h1, h2, q⟩ := h
    first | rfl | (rcases h with ⟨_, _, rfl, _⟩ | ⟨_, rfl, _⟩ <;> rfl)
  obtain ⟨c, rfl, h1, h2, q⟩ := h
  refine ⟨_, (pss_one (ps_ret (pe_chain op_le_str op_le_str pe_str (pv 0) pe_str))), ?_⟩
  have k1 : ¬ ((⟨#[c]⟩ : Str).cps.toList < (Str.ofString "a").cps.toList) := by
    rw [of_a]
    exact not_lt_one h1
  have k2 : ¬ ((Str.ofString "z").cps.toList < (⟨#[c]⟩ : Str).cps.toList) := by
    rw [of_z]
    exact not_lt_one h2
  refine ⟨_, rfl, _, _, rfl, rfl, _, rfl, iteNot k1 ⟨_, _, rfl, rfl, ?_⟩⟩
  show Q (.bl (!decide _)) _
  rw [decide_eq_false k2]
  exact q
def spis_text (_ : PySem.W.Frag) (_ _ : Addr) : Sp := fun vs H Q _ => ∃ x, vs = [.str x] ∧ OkT x ∧ Q (.bl true) H
theorem okis_text (D : Def K mg "is_text" sis_text ["value"]) (B : Bs mg) (Glb : Glo mg) (WK : WebK K mg C) (PK : KeepK K mg C2)
    (his_letter : Good P w K mg base "is_letter" sis_letter ["sign"] 1 (spis_letter K C C2)) :
    Good P w K mg base "is_text" sis_text ["value"] 2 (spis_text K C C2) := by
  refine D.good fun f fd F => ?_
  obtain ⟨fis_letter, dis_letter, Ois_letter, mis_letter, kis_letter, bis_letter, Fis_letter⟩ := his_letter
  refine F.ok scis_text (fun vs H Q E h => ?_) (fun cdv A outer s H vs Q E hr h => ?_)
  · obtain ⟨x, rfl, hl, q⟩ := h
    first | rfl | (rcases h with ⟨_, _, rfl, _⟩ | ⟨_, rfl, _⟩ <;> rfl)
  obtain ⟨x, rfl, hl, q⟩ := h
  refine ⟨_, (pss_cons (ps_if (PW.pt (pw_or (pt_not (pt_val (pe_callB call_isi (by rfl) B.isinstance (by decide +kernel) (pa_cons (pv 0) (pa_cons (pe_bltn (v := .ty "str") (by rfl) B.str (by decide +kernel) rfl) pa_nil))))) (pw_or1 (pt_cmpR op_gt (pe_callB call_len_str (by rfl) B.len (by decide +kernel) (pa_cons (pv 0) pa_nil)) (pe_globI Glb.MOST_LETTERS) (nomark _)))))
    (pss_one (ps_ret pe_bl)) pss_nil)
  (pss_one (ps_ret (pe_drop (pe_callB (cr_all rfl) (by rfl) B.all (by decide +kernel) (pa_cons (pe_lc (own := [("sign", 1)]) (g := gName 1) (by rfl) scis_text.nd (pi_str (pv 0)) (blkOk_by (own := [("sign", 1)]) (N := ["value", "sign"]) (sc := defScope sis_text) (by decide +kernel)) (fun _ _ _ _ _ => (pg_name (i := 1) scis_text.nd rfl (by first | exact Or.inl rfl | exact Or.inr rfl))) (fun _ _ _ _ _ => pts_nil) (fun _ _ _ _ _ => (pe_call Ois_letter hr rfl mis_letter kis_letter bis_letter .nil pass0 (pa_cons (pv 1) pa_nil)))) pa_nil)))))), ?_⟩
  have hlen := hl.len
  refine ⟨_, rfl, _, _, _, _, true, rfl, .ty _, .base (.str _), kit_ty (by decide +kernel), _, rfl, iteF ⟨_, rfl, _, rfl, line400 hlen, _, _, rfl, rfl, _, rfl, iteNo (by omega) ?_⟩⟩
  refine ⟨_, rfl, _, rfl, fun D nD => lc_it walk_str (fun i H' => H' = upd H D (.lst ((List.replicate i true).map V.bl))) rfl (fun _ _ _ _ => trivial) ?_ ?_⟩
  · rintro i y H1 H2 hi rfl ⟨rfl, c, hc, rfl⟩
    have hm := hl.let_ c (by
      have := Array.mem_of_getElem? hc
      simpa using this)
    refine ⟨rfl, _, rfl, c, rfl, hm.1, hm.2, _, upd_same, ?_, ?_⟩
    · rw [List.length_map, List.length_replicate]
      have hi2 : i < x.length := hi
      exact Nat.lt_of_lt_of_le (by omega : i < 1000) (by decide)
    · rw [upd_upd, List.replicate_succ', List.map_append]
      rfl
  · rintro H1 rfl
    refine ⟨D, _, rfl, SqL.of upd_same, D, _, H, rfl, nD, bl_is1 ?_ q⟩
    rw [List.all_eq_true]
    intro b hb
    rw [List.eq_of_mem_replicate hb]
    rfl
def spneed_text (_ : PySem.W.Frag) (_ _ : Addr) : Sp := fun vs H Q _ => ∃ x, vs = [.str x] ∧ OkT x ∧ Q .non H
theorem okneed_text (D : Def K mg "need_text" sneed_text ["text"]) (B : Bs mg) (Glb : Glo mg) (WK : WebK K mg C) (PK : KeepK K mg C2)
    (his_text : Good P w K mg base "is_text" sis_text ["value"] 2 (spis_text K C C2)) :
    Good P w K mg base "need_text" sneed_text ["text"] 3 (spneed_text K C C2) := by
  refine D.good fun f fd F => ?_
  obtain ⟨fis_text, dis_text, Ois_text, mis_text, kis_text, bis_text, Fis_text⟩ := his_text
  refine F.ok scneed_text (fun vs H Q E h => ?_) (fun cdv A outer s H vs Q E hr h => ?_)
  · obtain ⟨x, rfl, hl, q⟩ := h
    first | rfl | (rcases h with ⟨_, _, rfl, _⟩ | ⟨_, rfl, _⟩ <;> rfl)
  obtain ⟨x, rfl, hl, q⟩ := h
  refine ⟨_, (pss_one (ps_if (pt_not (pt_val (pe_call Ois_text hr rfl mis_text kis_text bis_text .nil pass0 (pa_cons (pv 0) pa_nil))))
    (pss_one ps_never) pss_nil)), ?_⟩
  exact ⟨_, rfl, x, rfl, hl, _, rfl, iteF q⟩
def sppieces_along (_ : PySem.W.Frag) (_ _ : Addr) : Sp := fun vs H Q _ => ∃ x s, vs = [.str x, .int ((s : Nat) : Int)] ∧ x.length ≤ 400 ∧ s ≤ 8 ∧ ∀ H' l, Same H H' → H l = none → H' l = some (.lst ((pcs x s).map V.str)) → Q (.ref l) H'
theorem okpieces_along (D : Def K mg "pieces_along" spieces_along ["text", "size"]) (B : Bs mg) (Glb : Glo mg) (WK : WebK K mg C) (PK : KeepK K mg C2) :
    Good P w K mg base "pieces_along" spieces_along ["text", "size"] 1 (sppieces_along K C C2) := by
  refine D.good fun f fd F => ?_
  refine F.ok scpieces_along (fun vs H Q E h => ?_) (fun cdv A outer s H vs Q E hr h => ?_)
  · obtain ⟨x, s, rfl, hx, hs, q⟩ := h
    first | rfl | (rcases h with ⟨_, _, rfl, _⟩ | ⟨_, rfl, _⟩ <;> rfl)
  obtain ⟨x, s, rfl, hx, hs, q⟩ := h
  refine ⟨_, (pss_one (ps_ret (pe_lc (own := [("place", 2)]) (g := gName 2) (by rfl) scpieces_along.nd (pi_range1 (by rfl) B.range (pa_cons (pe_op op_add (pe_op op_sub (pe_callB call_len_str (by rfl) B.len (by decide +kernel) (pa_cons (pv 0) pa_nil)) (pv 1)) pe_int) pa_nil)) (blkOk_by (own := [("place", 2)]) (N := ["text", "size", "place"]) (sc := defScope spieces_along) (by decide +kernel)) (fun _ _ _ _ _ => (pg_name (i := 2) scpieces_along.nd rfl (by first | exact Or.inl rfl | exact Or.inr rfl))) (fun _ _ _ _ _ => pts_nil) (fun _ _ _ _ _ => (pe_slice sl_str (pv 0) (po_some (pv 2)) (po_some (pe_op op_add (pv 2) (pv 1)))))))), ?_⟩
  refine ⟨_, rfl, _, rfl, line400 hx, _, rfl, _, _, rfl, rfl, _, _, rfl, rfl, _, rfl, by omega, by omega, fun D nD => ?_⟩
  rw [show ((x.length : Nat) : Int) - (s : Int) + 1 = ((x.length : Nat) : Int) + 1 - (s : Int) by omega]
  rw [show (((x.length : Nat) : Int) + 1 - (s : Int)).toNat = x.length + 1 - s by omega]
  refine lc_range (lo := 0) (n := x.length + 1 - s) (fun i H' => Same H H' ∧ H' D = some (.lst ((pcsN x s i).map V.str))) ⟨same_new nD _, upd_same⟩ ?_ ?_
  · rintro i H1 hi ⟨hS, hD⟩
    rw [Int.zero_add]
    refine ⟨rfl, _, rfl, _, rfl, _, rfl, _, rfl, _, rfl, _, _, rfl, rfl, _, rfl, _, rfl, line400 hx, _, hD, ?_, same_upd hS nD, ?_⟩
    · rw [List.length_map, pcsN_len]
      exact Nat.lt_of_le_of_lt (by omega : i ≤ 1000) (by decide)
    · rw [upd_same, show pcsN x s (i + 1) = pcsN x s i ++ [pc x s i] from rfl, List.map_append]
      rfl
  · rintro H1 ⟨hS, hD⟩
    exact q H1 D hS nD hD
/-- the texts of the readings and their numbers -/
def OkRd (L : List (Str × Int)) : Prop := ∀ e ∈ L, OkT e.1 ∧ 1 ≤ e.2 ∧ e.2 ≤ 1200
theorem si_at {H : Hp} {ts : List Addr} {L : List (Str × Int)} (hP : Paired (SIAt H) ts L) {i : Nat} {v : V} (h : (ts.map V.ref)[i]? = some v) : ∃ p e, v = .ref p ∧ L[i]? = some e ∧ SIAt H p e := by
  obtain ⟨p, hp, rfl⟩ := ref_at h
  obtain ⟨e, he, hpe⟩ := paired_get hP hp
  exact ⟨p, e, rfl, he, hpe⟩
theorem sumT_snoc (D L : List (Str × Int)) (e : Str × Int) : sumT D (L ++ [e]) = addT (sumT D L) e.1 e.2 := by
  rw [sumT_app]
  rfl
theorem take_snoc {α : Type} {L : List α} {i : Nat} {e : α} (h : L[i]? = some e) : L.take (i + 1) = L.take i ++ [e] := by rw [List.take_succ, h]; rfl
def sp_times_together (_ : PySem.W.Frag) (_ _ : Addr) : Sp := fun vs H Q _ => ∃ l L, vs = [.ref l] ∧ RdAt H l L ∧ L.length ≤ 1000 ∧ ∀ H' d, Same H H' → H d = none → H' d = some (.dK (dT (sumT [] L))) → Q (.ref d) H'
theorem ok_times_together (D : Def K mg "_times_together" s_times_together ["readings"]) (B : Bs mg) (Glb : Glo mg) (WK : WebK K mg C) (PK : KeepK K mg C2) :
    Good P w K mg base "_times_together" s_times_together ["readings"] 1 (sp_times_together K C C2) := by
  refine D.good fun f fd F => ?_
  refine F.ok sc_times_together (fun vs H Q E h => ?_) (fun cdv A outer s H vs Q E hr h => ?_)
  · obtain ⟨l, L, rfl, ⟨ts, hl, hP⟩, hlen, q⟩ := h
    first | rfl | (rcases h with ⟨_, _, rfl, _⟩ | ⟨_, rfl, _⟩ <;> rfl)
  obtain ⟨l, L, rfl, ⟨ts, hl, hP⟩, hlen, q⟩ := h
  refine ⟨_, (pss_cons (ps_set (i := 1) sc_times_together.nd rfl (by first | exact Or.inl rfl | exact Or.inr rfl) pe_dnewK)
  (pss_cons (ps_for PassesOwn.never rfl (pi_list (pv 0)) (pg_tup rfl (pgs_cons (pg_name (i := 2) sc_times_together.nd rfl (by first | exact Or.inl rfl | exact Or.inr rfl)) (pgs_cons (pg_name (i := 3) sc_times_together.nd rfl (by first | exact Or.inl rfl | exact Or.inr rfl)) pgs_nil)))
    (pss_one (ps_dput (hu_of hr) (pv 1) (pv 2) (pe_op op_add (pe_dget2 (hu_of hr) (pv 1) (pv 2) pe_int ⟨rfl, rfl, rfl, rfl⟩) (pv 3)) rfl)))
  (pss_one (ps_ret (pv 1))))), ?_⟩
  intro d nd
  refine ⟨_, rfl, l, rfl, ⟨_, SqL.of (same_new nd _ _ _ hl)⟩, ?_⟩
  refine for_list (K := K) (a := l) (xs := ts.map V.ref) (fun i σ H' => ∃ v2 v3 : Option V, σ = [some (.ref l), some (.ref d), v2, v3] ∧ Same H H' ∧ H' d = some (.dK (dT (sumT [] (L.take i))))) ⟨none, none, rfl, same_new nd _, upd_same⟩ (fun i σ H' _ ⟨_, _, _, hS', _⟩ => SqL.of (hS' _ _ hl)) ?_ ?_
  · rintro i x σ H1 hx ⟨v2, v3, rfl, hS, hd⟩
    obtain ⟨p, e, rfl, he, hpe⟩ := si_at hP hx
    have hp1 : H1 p = some (.tup [.str e.1, .int e.2]) := hS _ _ hpe
    refine ⟨p, _, rfl, SqT.of hp1, rfl, _, _, rfl, _, _, rfl, rfl, ?_⟩
    have hget : DGet H1 d (.str e.1) (valV (dT (sumT [] (L.take i))) (Sum.inr e.1 : Key)) := DGet.k (k := Sum.inr e.1) hd
    have hlt : (dT (sumT [] (L.take i))).length < sizeLine := by
      have h1 := sumT_len (L.take i) []
      rw [List.length_take] at h1
      rw [List.length_map]
      exact Nat.lt_of_le_of_lt (by simp at h1; omega : (sumT [] (L.take i)).length ≤ 1000) (by decide)
    refine ⟨_, rfl, d, rfl, .inl ⟨_, .inl hd⟩, _, rfl, _, hget, _, rfl, ?_⟩
    rw [dT_getD]
    refine ⟨_, _, rfl, rfl, _, rfl, _, rfl, d, _, rfl, DPut.k (k := Sum.inr e.1) hd hlt, ?_⟩
    rw [dT_put (sumT_nodup _ (by simp))]
    refine ⟨_, _, rfl, same_upd hS nd, ?_⟩
    rw [upd_same, take_snoc he, sumT_snoc]
  · rintro σ H1 ⟨v2, v3, rfl, hS, hd⟩
    rw [List.length_map, paired_len hP, List.take_length] at hd
    exact ⟨_, rfl, q H1 d hS nd hd⟩
end
end My
namespace My
open PySem L2 PyProof.Rows
abbrev told (D : List (Str × Int)) : List (Str × Int) := D.mergeSort (PySem.W.dataLe false encSI)
theorem pcsT_len (s : Nat) : ∀ {L : List (Str × Int)}, (∀ e ∈ L, e.1.length ≤ 400) → (pcsT s L).length ≤ L.length * 401
  | [], _ => by simp [pcsT]
  | e :: r, h => by
    have h1 := pcsT_len s (L := r) fun f hf => h f (List.mem_cons_of_mem _ hf)
    have h2 := h e List.mem_cons_self
    have h3 : (pcsT s (e :: r)).length = ((pcs e.1 s).map fun p => (p, e.2)).length + (pcsT s r).length := by
      show (((pcs e.1 s).map fun p => (p, e.2)) ++ pcsT s r).length = _
      exact List.length_append
    rw [h3, List.length_map, pcsN_len, List.length_cons]
    omega
theorem pcsT_snoc (s : Nat) (L : List (Str × Int)) (e : Str × Int) : pcsT s (L ++ [e]) = pcsT s L ++ (pcs e.1 s).map fun p => (p, e.2) := by
  unfold pcsT
  rw [List.flatMap_append]
  simp
theorem take_map {α β : Type} {f : α → β} {L : List α} {j : Nat} {x : α} (h : L[j]? = some x) : (L.map f).take (j + 1) = (L.map f).take j ++ [f x] := take_snoc (by rw [List.getElem?_map, h]; rfl)
section
variable {P : Program} {w : World} {K : PySem.W.Frag} {mg : Str → Option Value} {base : Heap} {C C2 : Addr}
def sppieces_often (_ : PySem.W.Frag) (_ _ : Addr) : Sp := fun vs H Q _ => ∃ l L s, vs = [.ref l, .int ((s : Nat) : Int)] ∧ RdAt H l L ∧ L.length ≤ 200 ∧ (∀ e ∈ L, e.1.length ≤ 400) ∧ s ≤ 8 ∧ ∀ H' p, Same H H' → H p = none → RdAt H' p (told (sumT [] (pcsT s L))) → Q (.ref p) H'
theorem okpieces_often (D : Def K mg "pieces_often" spieces_often ["readings", "size"]) (B : Bs mg) (Glb : Glo mg) (WK : WebK K mg C) (PK : KeepK K mg C2)
    (hpieces_along : Good P w K mg base "pieces_along" spieces_along ["text", "size"] 1 (sppieces_along K C C2)) :
    Good P w K mg base "pieces_often" spieces_often ["readings", "size"] 2 (sppieces_often K C C2) := by
  refine D.good fun f fd F => ?_
  obtain ⟨fpieces_along, dpieces_along, Opieces_along, mpieces_along, kpieces_along, bpieces_along, Fpieces_along⟩ := hpieces_along
  refine F.ok scpieces_often (fun vs H Q E h => ?_) (fun cdv A outer s H vs Q E hr h => ?_)
  · obtain ⟨l, L, s, rfl, ⟨ts, hl, hP⟩, hlen, hok, hs, q⟩ := h
    first | rfl | (rcases h with ⟨_, _, rfl, _⟩ | ⟨_, rfl, _⟩ <;> rfl)
  obtain ⟨l, L, s, rfl, ⟨ts, hl, hP⟩, hlen, hok, hs, q⟩ := h
  refine ⟨_, (pss_cons (ps_set (i := 2) scpieces_often.nd rfl (by first | exact Or.inl rfl | exact Or.inr rfl) pe_dnewK)
  (pss_cons (ps_for PassesOwn.never rfl (pi_list (pv 0)) (pg_tup rfl (pgs_cons (pg_name (i := 3) scpieces_often.nd rfl (by first | exact Or.inl rfl | exact Or.inr rfl)) (pgs_cons (pg_name (i := 4) scpieces_often.nd rfl (by first | exact Or.inl rfl | exact Or.inr rfl)) pgs_nil)))
    (pss_one (ps_for PassesOwn.never rfl (pi_list (pe_call Opieces_along hr rfl mpieces_along kpieces_along bpieces_along .nil pass0 (pa_cons (pv 3) (pa_cons (pv 1) pa_nil)))) (pg_name (i := 5) scpieces_often.nd rfl (by first | exact Or.inl rfl | exact Or.inr rfl))
    (pss_one (ps_dput (hu_of hr) (pv 2) (pv 5) (pe_op op_add (pe_dget2 (hu_of hr) (pv 2) (pv 5) pe_int ⟨rfl, rfl, rfl, rfl⟩) (pv 4)) rfl)))))
  (pss_one (ps_ret (pe_callB (cr_sortItK rfl hr.units) (by rfl) B.sorted (by decide +kernel) (pa_cons (pe_bm0 PySem.F.plainAttrs_dict PySem.F.slot_dict_items PySem.F.type_dict_items mt_itemsK (pv 2)) pa_nil)))))), ?_⟩
  intro d nd
  have hbig := pcsT_len s hok
  have small : ∀ {D : List (Str × Int)}, D.length ≤ 90000 → (dT D).length < sizeLine := fun h => by
    rw [List.length_map]
    exact Nat.lt_of_le_of_lt h (by decide)
  refine ⟨_, rfl, l, rfl, ⟨_, SqL.of (same_new nd _ _ _ hl)⟩, ?_⟩
  refine for_list (K := K) (a := l) (xs := ts.map V.ref) (fun i σ H' => ∃ v3 v4 v5 : Option V, σ = [some (.ref l), some (.int (s : Int)), some (.ref d), v3, v4, v5] ∧ Same H H' ∧ H' d = some (.dK (dT (sumT [] (pcsT s (L.take i)))))) ⟨none, none, none, rfl, same_new nd _, upd_same⟩ (fun i σ H' _ ⟨_, _, _, _, hS', _⟩ => SqL.of (hS' _ _ hl)) ?_ ?_
  · rintro i x σ H1 hx ⟨v3, v4, v5, rfl, hS, hd⟩
    obtain ⟨p, e, rfl, he, hpe⟩ := si_at hP hx
    have hp1 : H1 p = some (.tup [.str e.1, .int e.2]) := hS _ _ hpe
    have hle := hok e (List.mem_of_getElem? he)
    have hil : i < L.length := (List.getElem?_eq_some_iff.mp he).1
    refine ⟨p, _, rfl, SqT.of hp1, rfl, _, _, rfl, _, _, rfl, rfl, ?_⟩
    refine ⟨_, rfl, _, rfl, e.1, s, rfl, hle, hs, fun H2 m hS2 nm hm => ⟨m, rfl, ⟨_, SqL.of hm⟩, ?_⟩⟩
    have nmd : m ≠ d := fun z => by rw [z, hd] at nm; cases nm
    refine for_list (K := K) (a := m) (xs := (pcs e.1 s).map V.str) (fun j σ H' => ∃ v5 : Option V, σ = [some (.ref l), some (.int (s : Int)), some (.ref d), some (.str e.1), some (.int e.2), v5] ∧ Same H H' ∧ H' m = some (.lst ((pcs e.1 s).map V.str)) ∧ H' d = some (.dK (dT (sumT [] (pcsT s (L.take i) ++ ((pcs e.1 s).map fun p => (p, e.2)).take j))))) ?_ (fun j σ H' _ ⟨_, _, _, hm', _⟩ => SqL.of hm') ?_ ?_
    · exact ⟨v5, rfl, hS.trans hS2, hm, by rw [List.take_zero, List.append_nil]; exact hS2 _ _ hd⟩
    · rintro j y σ H3 hy ⟨w5, rfl, hS3, hm3, hd3⟩
      obtain ⟨z, hz, rfl⟩ := str_at hy
      have hjl : j < (pcs e.1 s).length := (List.getElem?_eq_some_iff.mp hz).1
      rw [pcsN_len] at hjl
      have hcount : (pcsT s (L.take i) ++ ((pcs e.1 s).map fun p => (p, e.2)).take j).length ≤ 90000 := by
        have h1 := pcsT_len s (L := L.take i) fun f hf => hok f (List.mem_of_mem_take hf)
        have h2 : (L.take i).length ≤ 200 := by rw [List.length_take]; omega
        have h3 : (L.take i).length * 401 ≤ 200 * 401 := Nat.mul_le_mul h2 (Nat.le_refl _)
        rw [List.length_append, List.length_take, List.length_map, pcsN_len]
        omega
      have hget : DGet H3 d (.str z) (valV (dT (sumT [] (pcsT s (L.take i) ++ ((pcs e.1 s).map fun p => (p, e.2)).take j))) (Sum.inr z : Key)) := DGet.k (k := Sum.inr z) hd3
      refine ⟨_, rfl, d, rfl, .inl ⟨_, .inl hd3⟩, _, rfl, _, hget, _, rfl, ?_⟩
      rw [dT_getD]
      refine ⟨_, _, rfl, rfl, _, rfl, _, rfl, d, _, rfl, DPut.k (k := Sum.inr z) hd3 (small (Nat.le_trans (by have := sumT_len (pcsT s (L.take i) ++ ((pcs e.1 s).map fun p => (p, e.2)).take j) []; simpa using this) hcount)), ?_⟩
      rw [dT_put (sumT_nodup _ (by simp))]
      refine ⟨_, rfl, same_upd hS3 nd, ?_, ?_⟩
      · rw [upd_ne nmd]; exact hm3
      · rw [upd_same, take_map hz, ← List.append_assoc, sumT_snoc]
    · rintro σ H3 ⟨w5, rfl, hS3, hm3, hd3⟩
      refine ⟨_, _, _, rfl, hS3, ?_⟩
      rw [List.length_map] at hd3
      rw [take_snoc he, pcsT_snoc, hd3]
      rw [show ((pcs e.1 s).map fun p => (p, e.2)).take (pcs e.1 s).length = (pcs e.1 s).map fun p => (p, e.2) from List.take_of_length_le (by rw [List.length_map]; exact Nat.le_refl _)]
  · rintro σ H1 ⟨v3, v4, v5, rfl, hS, hd⟩
    rw [List.length_map, paired_len hP, List.take_length] at hd
    refine ⟨_, rfl, .inr (.inr (.inl ⟨rfl, .inl ⟨_, hd⟩⟩)), d, _, rfl, rfl, hd, fun p0 np0 => ?_⟩
    have hd2 : upd H1 p0 (DX.itemsO p0 d) d = some (.dK (dT (sumT [] (pcsT s L)))) := same_new np0 _ _ _ hd
    refine ⟨p0, d, sumT [] (pcsT s L), rfl, upd_same, hd2, ?_, fun H2 p us hS2 np hp hU => q H2 p (fun b o e => hS2 _ _ (same_new np0 _ _ _ (hS _ _ e))) ?_ ⟨us, hp, hU⟩⟩
    · have h1 := sumT_len (pcsT s L) []
      have h2 : L.length * 401 ≤ 200 * 401 := Nat.mul_le_mul hlen (Nat.le_refl _)
      simp at h1
      omega
    · exact hS.free ((same_new (o := DX.itemsO p0 d) np0).free np)
end
end My
namespace My
open PySem L2 PyProof.Rows
theorem iteNS {c : Prop} [Decidable c] {A B : Prop} (h : c) (b : B) : if (!decide c) = true then A else B := iteNot' h b
def lf (s : Nat) (tl : Addr) : List (Str × V) := putF "_told" (.ref tl) (putF "_size" (.int (s : Int)) [])
theorem lf_S (s : Nat) (tl : Addr) : (lf s tl).lookup ("_size" : Str) = some (.int (s : Int)) := by
  unfold lf
  rw [lookup_putF, if_neg (by decide +kernel), lookup_putF, if_pos rfl]
theorem lf_T (s : Nat) (tl : Addr) : (lf s tl).lookup ("_told" : Str) = some (.ref tl) := by
  unfold lf
  rw [lookup_putF, if_pos rfl]
theorem lf_no (s : Nat) (tl : Addr) {m : Str} (h1 : ¬ m = "_told") (h2 : ¬ m = "_size") : (lf s tl).lookup m = none := by
  unfold lf
  rw [lookup_putF, if_neg h1, lookup_putF, if_neg h2]
  all_goals rfl
theorem putF_len (f : Str) (v : V) : ∀ l : List (Str × V), (putF f v l).length ≤ l.length + 1
  | [] => by simp [putF]
  | (g, x) :: r => by
    have := putF_len f v r
    unfold putF
    split
    · simp
    · simp; omega
/-- a lot: its told readings M stand in the list at tl -/
def LotAt (C a tl : Addr) (s : Nat) (M : List (Str × Int)) (H : Hp) : Prop := ∃ dx, H a = some (.ins C dx (lf s tl)) ∧ RdAt H tl M
theorem LotAt.same {C a tl : Addr} {s : Nat} {M : List (Str × Int)} {H H' : Hp} (h : LotAt C a tl s M H) (k : Same H H') : LotAt C a tl s M H' := by
  obtain ⟨dx, h1, h2⟩ := h
  exact ⟨dx, k _ _ h1, h2.same k⟩
section
variable {P : Program} {w : World} {K : PySem.W.Frag} {mg : Str → Option Value} {base : Heap} {C C2 : Addr}
def spare_readings (_ : PySem.W.Frag) (_ _ : Addr) : Sp := fun vs H Q _ => ∃ l L, vs = [.ref l] ∧ RdAt H l L ∧ L.length ≤ 60 ∧ (∀ e ∈ L, OkT e.1 ∧ 1 ≤ e.2 ∧ e.2 ≤ 20) ∧ ∀ H', Same H H' → Q (.bl true) H'
theorem okare_readings (D : Def K mg "are_readings" sare_readings ["value"]) (B : Bs mg) (Glb : Glo mg) (WK : WebK K mg C) (PK : KeepK K mg C2)
    (his_listed : Good P w K mg base "is_listed" sis_listed ["value"] 1 (spis_listed K C C2))
    (his_text : Good P w K mg base "is_text" sis_text ["value"] 2 (spis_text K C C2))
    (his_times : Good P w K mg base "is_times" sis_times ["value"] 3 (spis_times K C C2)) :
    Good P w K mg base "are_readings" sare_readings ["value"] 4 (spare_readings K C C2) := by
  refine D.good fun f fd F => ?_
  obtain ⟨fis_listed, dis_listed, Ois_listed, mis_listed, kis_listed, bis_listed, Fis_listed⟩ := his_listed
  obtain ⟨fis_text, dis_text, Ois_text, mis_text, kis_text, bis_text, Fis_text⟩ := his_text
  obtain ⟨fis_times, dis_times, Ois_times, mis_times, kis_times, bis_times, Fis_times⟩ := his_times
  refine F.ok scare_readings (fun vs H Q E h => ?_) (fun cdv A outer s H vs Q E hr h => ?_)
  · obtain ⟨l, L, rfl, ⟨ts, hl, hP⟩, hlen, hok, q⟩ := h
    first | rfl | (rcases h with ⟨_, _, rfl, _⟩ | ⟨_, rfl, _⟩ <;> rfl)
  obtain ⟨l, L, rfl, ⟨ts, hl, hP⟩, hlen, hok, q⟩ := h
  refine ⟨_, (pss_cons (ps_if (PW.pt (pw_or (pt_not (pt_val (pe_call Ois_listed (hr.mono (by decide)) rfl mis_listed kis_listed bis_listed .nil pass0 (pa_cons (pv 0) pa_nil)))) (pw_or1 (pt_cmpR op_gt (pe_callB call_len_seq (by rfl) B.len (by decide +kernel) (pa_cons (pv 0) pa_nil)) (pe_globI Glb.MOST_READINGS) (nomark _)))))
    (pss_one (ps_ret pe_bl)) pss_nil)
  (pss_cons (ps_for PassesOwn.never rfl (pi_list (pv 0)) (pg_name (i := 1) scare_readings.nd rfl (by first | exact Or.inl rfl | exact Or.inr rfl))
    (pss_cons (ps_if (PW.pt (pw_or (pt_not (pt_val (pe_callB call_isi (by rfl) B.isinstance (by decide +kernel) (pa_cons (pv 1) (pa_cons (pe_bltn (v := .ty "tuple") (by rfl) B.tuple (by decide +kernel) rfl) pa_nil))))) (pw_or1 (pt_cmpR op_ne (pe_callB call_len_seq (by rfl) B.len (by decide +kernel) (pa_cons (pv 1) pa_nil)) pe_int (nomark _)))))
    (pss_one (ps_ret pe_bl)) pss_nil)
  (pss_one (ps_if (PW.pt (pw_or (pt_not (pt_val (pe_call Ois_text (hr.mono (by decide)) rfl mis_text kis_text bis_text .nil pass0 (pa_cons (pe_ix ix_tup (pv 1) pe_int (fun _ _ => rfl)) pa_nil)))) (pw_or1 (pt_not (pt_val (pe_call Ois_times hr rfl mis_times kis_times bis_times .nil pass0 (pa_cons (pe_ix ix_tup (pv 1) pe_int (fun _ _ => rfl)) pa_nil)))))))
    (pss_one (ps_ret pe_bl)) pss_nil))))
  (pss_one (ps_ret pe_bl)))), ?_⟩
  have hpl := paired_len hP
  refine ⟨_, rfl, l, rfl, .inl ⟨_, hl⟩, fun H1 hS1 => ⟨_, rfl, iteF ⟨_, rfl, _, _, rfl, .inl (SqL.of (hS1 _ _ hl)), _, _, rfl, rfl, _, rfl, iteNo (by rw [List.length_map]; omega) ?_⟩⟩⟩
  refine ⟨_, rfl, l, rfl, ⟨_, SqL.of (hS1 _ _ hl)⟩, for_list (K := K) (a := l) (xs := ts.map V.ref) (fun i σ H' => Same H H' ∧ ∃ v, σ = [some (.ref l), v]) ⟨hS1, none, rfl⟩ (fun i σ H' _ ⟨hS', _⟩ => SqL.of (hS' _ _ hl)) ?_ ?_⟩
  · rintro i x σ H2 hx ⟨hS2, v, rfl⟩
    obtain ⟨p, e, rfl, he, hpe⟩ := si_at hP hx
    have hp2 : H2 p = some (.tup [.str e.1, .int e.2]) := hS2 _ _ hpe
    obtain ⟨o1, o2, o3⟩ := hok e (List.mem_of_getElem? he)
    refine ⟨_, rfl, _, _, _, _, true, rfl, .ty _, .base (.tup hp2), kit_ty (by decide +kernel), _, rfl, iteF ⟨_, rfl, _, _, rfl, .inr (SqT.of hp2), rfl, _, rfl, iteNS rfl ?_⟩⟩
    exact ⟨_, rfl, _, _, _, .str e.1, rfl, rfl, SqT.of hp2, rfl, e.1, rfl, o1, _, rfl, iteF ⟨_, rfl, _, _, _, .int e.2, rfl, rfl, SqT.of hp2, rfl, e.2, rfl, o2, o3, _, rfl, iteF ⟨hS2, _, rfl⟩⟩⟩
  · rintro σ H2 ⟨hS2, v, rfl⟩
    exact q H2 hS2
def spLot___init__ (_ : PySem.W.Frag) (C _ : Addr) : Sp := fun vs H Q _ => ∃ a dx s l L, vs = [.ref a, .int ((s : Nat) : Int), .ref l] ∧ 2 ≤ s ∧ s ≤ 8 ∧ RdAt H l L ∧ L.length ≤ 60 ∧ (∀ e ∈ L, OkT e.1 ∧ 1 ≤ e.2 ∧ e.2 ≤ 20) ∧ H a = some (.ins C dx []) ∧ ∀ H' tl, H tl = none → Kept a H H' → LotAt C a tl s (told (sumT [] L)) H' → Q .non H'
theorem okLot___init__ (D : DefI K C "__init__" "Lot.__init__" sLot___init__ ["self", "size", "readings"]) (B : Bs mg) (Glb : Glo mg) (WK : WebK K mg C) (PK : KeepK K mg C2)
    (hneed_size : Good P w K mg base "need_size" sneed_size ["size"] 4 (spneed_size K C C2))
    (hare_readings : Good P w K mg base "are_readings" sare_readings ["value"] 4 (spare_readings K C C2))
    (h_times_together : Good P w K mg base "_times_together" s_times_together ["readings"] 1 (sp_times_together K C C2)) :
    GoodJ P w K mg base C "__init__" "Lot.__init__" sLot___init__ ["self", "size", "readings"] 5 (spLot___init__ K C C2) := by
  refine D.goodJ fun f fd F => ?_
  obtain ⟨fneed_size, dneed_size, Oneed_size, mneed_size, kneed_size, bneed_size, Fneed_size⟩ := hneed_size
  obtain ⟨fare_readings, dare_readings, Oare_readings, mare_readings, kare_readings, bare_readings, Fare_readings⟩ := hare_readings
  obtain ⟨f_times_together, d_times_together, O_times_together, m_times_together, k_times_together, b_times_together, F_times_together⟩ := h_times_together
  refine F.ok scLot___init__ (fun vs H Q E h => ?_) (fun cdv A outer s H vs Q E hr h => ?_)
  · obtain ⟨a, dx, s, l, L, rfl, hs1, hs2, hR, hlen, hok, ha, q⟩ := h
    first | rfl | (rcases h with ⟨_, _, rfl, _⟩ | ⟨_, rfl, _⟩ <;> rfl)
  obtain ⟨a, dx, s, l, L, rfl, hs1, hs2, hR, hlen, hok, ha, q⟩ := h
  refine ⟨_, (pss_cons (ps_expr (pe_call Oneed_size hr rfl mneed_size kneed_size bneed_size .nil pass0 (pa_cons (pv 1) pa_nil)))
  (pss_cons (ps_if (pt_not (pt_val (pe_call Oare_readings hr rfl mare_readings kare_readings bare_readings .nil pass0 (pa_cons (pv 2) pa_nil))))
    (pss_one ps_never) pss_nil)
  (pss_cons (ps_fld (pv 0) (pv 1) rfl)
  (pss_one (ps_fld (pv 0) (pe_callB (cr_sortItK rfl hr.units) (by rfl) B.sorted (by decide +kernel) (pa_cons (pe_bm0 PySem.F.plainAttrs_dict PySem.F.slot_dict_items PySem.F.type_dict_items mt_itemsK (pe_call O_times_together (hr.mono (by decide)) rfl m_times_together k_times_together b_times_together .nil pass0 (pa_cons (pv 2) pa_nil))) pa_nil)) rfl))))), ?_⟩
  refine ⟨_, rfl, s, rfl, hs1, hs2, ?_⟩
  refine ⟨_, rfl, l, L, rfl, hR, hlen, hok, fun H1 hS1 => ⟨_, rfl, iteF ?_⟩⟩
  have ha1 := hS1 _ _ ha
  refine ⟨_, rfl, _, rfl, a, C, dx, [], rfl, ha1, WK.cl, WK.nS, (by decide), ?_⟩
  have hk2 : Kept a H (upd H1 a (.ins C dx (putF "_size" (.int (s : Int)) []))) := fun b o e n => by rw [upd_ne n]; exact hS1 _ _ e
  have ha2 : upd H1 a (.ins C dx (putF "_size" (.int (s : Int)) [])) a = some (.ins C dx (putF "_size" (.int (s : Int)) [])) := upd_same
  generalize upd H1 a (.ins C dx (putF "_size" (.int (s : Int)) [])) = H2 at hk2 ha2
  have ntup : ∀ p e, SIAt H p e → p ≠ a := fun p e hp => ne_of hp ha (by intro z; cases z)
  have hR2 : RdAt H2 l L := by
    obtain ⟨ts, h1, h2⟩ := hR
    exact ⟨ts, hk2 _ _ h1 (ne_of h1 ha (by intro z; cases z)), paired_mono (fun p e hp => hk2 _ _ hp (ntup p e hp)) h2⟩
  refine ⟨_, rfl, l, L, rfl, hR2, by omega, fun H3 d hS3 nd hd => ⟨.inr (.inr (.inl ⟨rfl, .inl ⟨_, hd⟩⟩)), d, _, rfl, rfl, hd, fun p0 np0 => ?_⟩⟩
  have hd2 : upd H3 p0 (DX.itemsO p0 d) d = some (.dK (dT (sumT [] L))) := same_new np0 _ _ _ hd
  refine ⟨p0, d, sumT [] L, rfl, upd_same, hd2, ?_, fun H4 tl us hS4 ntl htl hU => ?_⟩
  · have h1 := sumT_len L []
    simp at h1
    omega
  have hS24 : Same H2 H4 := fun b o e => hS4 _ _ (same_new np0 _ _ _ (hS3 _ _ e))
  have ha4 := hS24 _ _ ha2
  have ntl2 : H2 tl = none := hS3.free ((same_new (o := DX.itemsO p0 d) np0).free ntl)
  have ntla : tl ≠ a := fun z => by rw [z, ha2] at ntl2; cases ntl2
  refine ⟨_, rfl, a, C, dx, _, rfl, ha4, WK.cl, WK.nT, Nat.lt_of_le_of_lt (putF_len _ _ _) (by decide), ?_⟩
  refine q _ tl ?_ (fun b o e n => by rw [upd_ne n]; exact hS24 _ _ (hk2 _ _ e n)) ⟨dx, upd_same, us, by rw [upd_ne ntla]; exact htl, paired_mono (fun p e hp => ?_) hU⟩
  · cases z : H tl with
    | none => rfl
    | some o =>
      rw [hk2 _ _ z ntla] at ntl2
      cases ntl2
  · have npa : p ≠ a := ne_of hp ha4 (by intro z; cases z)
    show upd _ _ _ p = _
    rw [upd_ne npa]
    exact hp
def spLot_size (_ : PySem.W.Frag) (C _ : Addr) : Sp := fun vs H Q _ => ∃ a tl s M, vs = [.ref a] ∧ LotAt C a tl s M H ∧ Q (.int ((s : Nat) : Int)) H
theorem okLot_size (D : DefP K C "size" "Lot.size" sLot_size ["self"]) (B : Bs mg) (Glb : Glo mg) (WK : WebK K mg C) (PK : KeepK K mg C2) :
    GoodP P w K mg base C "size" "Lot.size" sLot_size ["self"] 1 (spLot_size K C C2) := by
  refine D.good fun f fd F => ?_
  refine F.ok scLot_size (fun vs H Q E h => ?_) (fun cdv A outer s H vs Q E hr h => ?_)
  · obtain ⟨a, tl, s, M, rfl, ⟨dx, h1, h2⟩, q⟩ := h
    first | rfl | (rcases h with ⟨_, _, rfl, _⟩ | ⟨_, rfl, _⟩ <;> rfl)
  obtain ⟨a, tl, s, M, rfl, ⟨dx, h1, h2⟩, q⟩ := h
  refine ⟨_, (pss_one (ps_ret (pe_fld (pv 0) rfl))), ?_⟩
  exact ⟨_, rfl, a, C, dx, _, _, rfl, h1, WK.cl, WK.nS, lf_S _ _, q⟩
def spLot_readings (_ : PySem.W.Frag) (C _ : Addr) : Sp := fun vs H Q _ => ∃ a tl s M, vs = [.ref a] ∧ LotAt C a tl s M H ∧ ∀ H' l, H l = none → Same H H' → RdAt H' l M → Q (.ref l) H'
theorem okLot_readings (D : DefM K C "readings" "Lot.readings" sLot_readings ["self"]) (B : Bs mg) (Glb : Glo mg) (WK : WebK K mg C) (PK : KeepK K mg C2) :
    GoodM P w K mg base C "readings" "Lot.readings" sLot_readings ["self"] 1 (spLot_readings K C C2) := by
  refine D.good fun f fd F => ?_
  refine F.ok scLot_readings (fun vs H Q E h => ?_) (fun cdv A outer s H vs Q E hr h => ?_)
  · obtain ⟨a, tl, s, M, rfl, ⟨dx, h1, ts, ht, hP⟩, q⟩ := h
    first | rfl | (rcases h with ⟨_, _, rfl, _⟩ | ⟨_, rfl, _⟩ <;> rfl)
  obtain ⟨a, tl, s, M, rfl, ⟨dx, h1, ts, ht, hP⟩, q⟩ := h
  refine ⟨_, (pss_one (ps_ret (pe_callTy call_list_of (by rfl) B.list (by decide +kernel) (pa_cons (pe_fld (pv 0) rfl) pa_nil)))), ?_⟩
  exact ⟨_, rfl, a, C, dx, _, _, rfl, h1, WK.cl, WK.nT, lf_T _ _, _, _, rfl, .inl (SqL.of ht), fun l nl => q _ l nl (same_new nl _) ⟨ts, upd_same, paired_mono (fun p e hp => same_new nl _ _ _ hp) hP⟩⟩
def spLot_pieces (_ : PySem.W.Frag) (C _ : Addr) : Sp := fun vs H Q _ => ∃ a tl s M, vs = [.ref a] ∧ LotAt C a tl s M H ∧ M.length ≤ 200 ∧ (∀ e ∈ M, e.1.length ≤ 400) ∧ s ≤ 8 ∧ ∀ H' l, H l = none → Same H H' → RdAt H' l (told (sumT [] (pcsT s M))) → Q (.ref l) H'
theorem okLot_pieces (D : DefM K C "pieces" "Lot.pieces" sLot_pieces ["self"]) (B : Bs mg) (Glb : Glo mg) (WK : WebK K mg C) (PK : KeepK K mg C2)
    (hpieces_often : Good P w K mg base "pieces_often" spieces_often ["readings", "size"] 2 (sppieces_often K C C2)) :
    GoodM P w K mg base C "pieces" "Lot.pieces" sLot_pieces ["self"] 3 (spLot_pieces K C C2) := by
  refine D.good fun f fd F => ?_
  obtain ⟨fpieces_often, dpieces_often, Opieces_often, mpieces_often, kpieces_often, bpieces_often, Fpieces_often⟩ := hpieces_often
  refine F.ok scLot_pieces (fun vs H Q E h => ?_) (fun cdv A outer s H vs Q E hr h => ?_)
  · obtain ⟨a, tl, s, M, rfl, ⟨dx, h1, hR⟩, hlen, hok, hs, q⟩ := h
    first | rfl | (rcases h with ⟨_, _, rfl, _⟩ | ⟨_, rfl, _⟩ <;> rfl)
  obtain ⟨a, tl, s, M, rfl, ⟨dx, h1, hR⟩, hlen, hok, hs, q⟩ := h
  refine ⟨_, (pss_one (ps_ret (pe_call Opieces_often hr rfl mpieces_often kpieces_often bpieces_often .nil pass0 (pa_cons (pe_fld (pv 0) rfl) (pa_cons (pe_fld (pv 0) rfl) pa_nil))))), ?_⟩
  exact ⟨_, rfl, a, C, dx, _, _, rfl, h1, WK.cl, WK.nT, lf_T _ _, _, rfl, a, C, dx, _, _, rfl, h1, WK.cl, WK.nS, lf_S _ _, tl, M, s, rfl, hR, hlen, hok, hs, fun H' p hS np hp => q H' p np hS hp⟩
def spneed_lot (_ : PySem.W.Frag) (C _ : Addr) : Sp := fun vs H Q _ => ∃ a tl s M, vs = [.ref a] ∧ LotAt C a tl s M H ∧ Q .non H
theorem okneed_lot (D : Def K mg "need_lot" sneed_lot ["lot"]) (B : Bs mg) (Glb : Glo mg) (WK : WebK K mg C) (PK : KeepK K mg C2) :
    Good P w K mg base "need_lot" sneed_lot ["lot"] 3 (spneed_lot K C C2) := by
  refine D.good fun f fd F => ?_
  refine F.ok scneed_lot (fun vs H Q E h => ?_) (fun cdv A outer s H vs Q E hr h => ?_)
  · obtain ⟨a, tl, s, M, rfl, ⟨dx, h1, h2⟩, q⟩ := h
    first | rfl | (rcases h with ⟨_, _, rfl, _⟩ | ⟨_, rfl, _⟩ <;> rfl)
  obtain ⟨a, tl, s, M, rfl, ⟨dx, h1, h2⟩, q⟩ := h
  refine ⟨_, (pss_one (ps_if (pt_not (pt_val (pe_callB call_isi (by rfl) B.isinstance (by decide +kernel) (pa_cons (pv 0) (pa_cons (pe_glob (v := .ref C) (by rfl) WK.mgC rfl) pa_nil)))))
    (pss_one ps_never) pss_nil)), ?_⟩
  exact ⟨_, rfl, _, _, _, _, true, rfl, .own C, .base (.ins h1 WK.cl WK.i1 WK.i2 WK.i3 WK.i4), WK.i5, _, rfl, iteF q⟩
end
end My
namespace My
open PySem L2 PyProof.Rows
theorem lf_eq (s : Nat) (tl : Addr) : lf s tl = ([("_size", V.int (s : Int)), ("_told", V.ref tl)] : List (Str × V)) := by
  show (if ("_size" : Str) = "_told" then [(("_size" : Str), V.ref tl)] else (("_size" : Str), V.int (s : Int)) :: putF "_told" (V.ref tl) []) = ([("_size", V.int (s : Int)), ("_told", V.ref tl)] : List (Str × V))
  rw [if_neg (by decide +kernel)]
  all_goals rfl
theorem lf_put (s : Nat) (tl tm : Addr) : putF "_told" (.ref tm) (lf s tl) = lf s tm := by
  rw [lf_eq, lf_eq]
  show (if ("_size" : Str) = "_told" then _ else (("_size" : Str), V.int (s : Int)) :: (if ("_told" : Str) = "_told" then [(("_told" : Str), V.ref tm)] else _)) = ([("_size", V.int (s : Int)), ("_told", V.ref tm)] : List (Str × V))
  rw [if_neg (by decide +kernel), if_pos rfl]
theorem told_map (L : List (Str × Int)) : (L.map encSI).mergeSort (PySem.W.dataLe false id) = (told L).map encSI :=
  (List.map_mergeSort (f := encSI) (r := PySem.W.dataLe false encSI) (s := PySem.W.dataLe false id) (l := L) (fun a _ b _ => rfl)).symm
theorem sorted_rd {H : Hp} {ts : List Addr} {L : List (Str × Int)} (hP : Paired (SIAt H) ts L) : ∀ {zs : List V} {M : List (Str × Int)}, Paired (fun (z : V) (d : PyData) => ∃ j : Nat, (ts.map V.ref)[j]? = some z ∧ (L.map encSI)[j]? = some d) zs (M.map encSI) → ∃ us : List Addr, zs = us.map V.ref ∧ Paired (SIAt H) us M
  | _, [], .nil => ⟨[], rfl, .nil⟩
  | _, m :: M, .cons h t => by
    obtain ⟨us, rfl, hu⟩ := sorted_rd hP t
    obtain ⟨j, h1, h2⟩ := h
    obtain ⟨p, e, rfl, he, hpe⟩ := si_at hP h1
    rw [List.getElem?_map, he] at h2
    have h3 := Option.some.inj h2
    injection h3 with h4
    injection h4 with h5 h6
    injection h5 with h5
    injection h6 with h6 _
    injection h6 with h6
    have em : e = m := Prod.ext h5 h6
    subst em
    exact ⟨p :: us, rfl, .cons hpe hu⟩
theorem dp_si {K : PySem.W.Frag} {H : Hp} : ∀ {ts : List Addr} {L : List (Str × Int)}, Paired (SIAt H) ts L → DpAll K H (ts.map V.ref) (L.map encSI)
  | _, _, .nil => .nil
  | _, _, .cons h r => .cons (.tup (SqT.of h) (.cons (.str _) (.cons (.int _) .nil))) (dp_si r)
theorem told_len (L : List (Str × Int)) : (told L).length = L.length := (List.mergeSort_perm L _).length_eq
theorem told_mem {L : List (Str × Int)} {e : Str × Int} : e ∈ told L ↔ e ∈ L := (List.mergeSort_perm L _).mem_iff
theorem paired_ent {H : Hp} : ∀ {ts : List Addr} {D : List (Str × Int)}, Paired (fun (t : Addr) (q : Key × V) => H t = some (.tup [kV q.1, q.2])) ts (dT D) → Paired (SIAt H) ts D
  | _, [], .nil => .nil
  | _, e :: r, .cons h t => .cons h (paired_ent t)
theorem ent_paired {K : PySem.W.Frag} {H : Hp} : ∀ {ts : List Addr} {D : List (Str × Int)}, Paired (SIAt H) ts D → Paired (fun (p : Addr) (kv : Key × V) => SqT K H p [kV kv.1, kv.2]) ts (dT D)
  | _, [], .nil => .nil
  | _, e :: r, .cons h t => .cons (SqT.of h) (ent_paired t)
theorem merge_new : ∀ (L acc : List (Str × Int)), ((acc ++ L).map Prod.fst).Nodup → mergeK (dT acc) (dT L) = dT (acc ++ L)
  | [], acc, _ => by rw [List.append_nil]; rfl
  | e :: r, acc, hn => by
    have hx : e.1 ∉ acc.map Prod.fst := fun z => by
      rw [List.map_append, List.nodup_append] at hn
      exact hn.2.2 e.1 z e.1 (by simp) rfl
    have hv : valV (dT acc) (Sum.inr e.1 : Key) = none := by
      rw [dT_val]
      have : acc.find? (fun f => decide (f.1 = e.1)) = none := List.find?_eq_none.mpr fun f hf => by
        simp only [decide_eq_true_eq]
        intro z
        exact hx (List.mem_map.mpr ⟨f, hf, z⟩)
      rw [this]
      rfl
    have hp : putK (dT acc) (Sum.inr e.1 : Key) (.int e.2) = dT (acc ++ [e]) := by
      rw [putK_new _ hv]
      unfold dT
      rw [List.map_append]
      rfl
    show mergeK (putK (dT acc) (Sum.inr e.1 : Key) (.int e.2)) (dT r) = _
    rw [hp, merge_new r (acc ++ [e]) (by rw [List.append_assoc]; exact hn), List.append_assoc]
    rfl
section
variable {P : Program} {w : World} {K : PySem.W.Frag} {mg : Str → Option Value} {base : Heap} {C C2 : Addr}
def splot_told (_ : PySem.W.Frag) (C _ : Addr) : Sp := fun vs H Q _ => ∃ s l L, vs = [.int ((s : Nat) : Int), .ref l] ∧ 2 ≤ s ∧ s ≤ 8 ∧ RdAt H l L ∧ L.length ≤ 60 ∧ (∀ e ∈ L, e.2 ≤ 1200) ∧ ∀ H' a tl, H a = none → H tl = none → Same H H' → LotAt C a tl s (told L) H' → Q (.ref a) H'
theorem oklot_told (D : Def K mg "lot_told" slot_told ["size", "told"]) (B : Bs mg) (Glb : Glo mg) (WK : WebK K mg C) (PK : KeepK K mg C2)
    (hLot___init__ : GoodJ P w K mg base C "__init__" "Lot.__init__" sLot___init__ ["self", "size", "readings"] 5 (spLot___init__ K C C2)) :
    Good P w K mg base "lot_told" slot_told ["size", "told"] 7 (splot_told K C C2) := by
  refine D.good fun f fd F => ?_
  obtain ⟨fLot___init__, dLot___init__, OLot___init__, MKLot, bLot___init__, FLot___init__⟩ := hLot___init__
  refine F.ok sclot_told (fun vs H Q E h => ?_) (fun cdv A outer s H vs Q E hr h => ?_)
  · obtain ⟨s, l, L, rfl, hs1, hs2, ⟨ts, hl, hP⟩, hlen, hok, q⟩ := h
    first | rfl | (rcases h with ⟨_, _, rfl, _⟩ | ⟨_, rfl, _⟩ <;> rfl)
  obtain ⟨s, l, L, rfl, hs1, hs2, ⟨ts, hl, hP⟩, hlen, hok, q⟩ := h
  refine ⟨_, (pss_cons (ps_if (pt_cmpR op_gt (pe_callB call_len_seq (by rfl) B.len (by decide +kernel) (pa_cons (pv 1) pa_nil)) (pe_globI Glb.MOST_READINGS) (nomark _))
    (pss_one ps_never) pss_nil)
  (pss_cons (ps_for PassesOwn.never rfl (pi_list (pv 1)) (pg_tup rfl (pgs_cons (pg_name (i := 2) sclot_told.nd rfl (by first | exact Or.inl rfl | exact Or.inr rfl)) (pgs_cons (pg_name (i := 3) sclot_told.nd rfl (by first | exact Or.inl rfl | exact Or.inr rfl)) pgs_nil)))
    (pss_one (ps_if (pt_cmpR op_gt (pv 3) (pe_globI Glb.MOST_TIMES) (nomark _))
    (pss_one ps_never) pss_nil)))
  (pss_cons (ps_set (i := 4) sclot_told.nd rfl (by first | exact Or.inl rfl | exact Or.inr rfl) (pe_make MKLot OLot___init__ (hr.mono (by decide)) rfl WK.mgC bLot___init__ .nil pass0 (pa_cons (pv 0) (pa_cons (pe_lst pa_nil) pa_nil))))
  (pss_cons (ps_fld (pv 4) (pe_callB (cr_sortD hr.units) (by rfl) B.sorted (by decide +kernel) (pa_cons (pv 1) pa_nil)) rfl)
  (pss_one (ps_ret (pv 4))))))), ?_⟩
  have hpl := paired_len hP
  refine ⟨_, rfl, _, _, rfl, .inl (SqL.of hl), _, _, rfl, rfl, _, rfl, iteNo (by rw [List.length_map]; omega) ?_⟩
  refine ⟨_, rfl, l, rfl, ⟨_, SqL.of hl⟩, for_list (K := K) (a := l) (xs := ts.map V.ref) (fun i σ H' => H' = H ∧ ∃ v2 v3 : Option V, σ = [some (.int (s : Int)), some (.ref l), v2, v3, none]) ⟨rfl, none, none, rfl⟩ (fun i σ H' _ ⟨e, _⟩ => by rw [e]; exact SqL.of hl) ?_ ?_⟩
  · rintro i x σ H2 hx ⟨rfl, v2, v3, rfl⟩
    obtain ⟨p, e, rfl, he, hpe⟩ := si_at hP hx
    have := hok e (List.mem_of_getElem? he)
    exact ⟨p, _, rfl, SqT.of hpe, rfl, _, _, rfl, _, _, rfl, rfl, _, rfl, _, _, rfl, rfl, _, rfl, iteNo (by omega) ⟨rfl, _, _, rfl⟩⟩
  rintro σ H2 ⟨rfl, v2, v3, rfl⟩
  refine ⟨_, rfl, Nat.zero_le _, fun el nel => fun x dx nx ndx ndxx => ?_⟩
  have hS2 : Same H2 (upd (upd (upd H2 el (.lst [])) dx (.own x)) x (.ins C dx [])) := fun b o e => by
    have e1 := same_new nel (.lst []) _ _ e
    rw [upd_ne (ne_of_none e1 nx), upd_ne (ne_of_none e1 ndx)]
    exact e1
  have nx0 : H2 x = none := (same_new nel (.lst [])).free nx
  have hel : (upd (upd (upd H2 el (.lst [])) dx (.own x)) x (.ins C dx [])) el = some (.lst ([].map V.ref)) := by
    have e1 : upd H2 el (.lst []) el = some (.lst []) := upd_same
    rw [upd_ne (ne_of_none e1 nx), upd_ne (ne_of_none e1 ndx)]
    exact e1
  refine ⟨x, dx, s, el, [], rfl, hs1, hs2, ⟨[], hel, .nil⟩, Nat.zero_le _, fun e he => by simp at he, upd_same, fun H3 tl ntl hk hLot => ⟨rfl, ?_⟩⟩
  obtain ⟨dx', hx3, _⟩ := hLot
  have hS3 : Same H2 H3 := fun b o e => hk _ _ (hS2 _ _ e) (ne_of_none e nx0)
  have hP3 : Paired (SIAt H3) ts L := paired_mono (fun p e hp => hS3 _ _ hp) hP
  refine ⟨_, rfl, l, _, L.map encSI, rfl, SqL.of (hS3 _ _ hl), dp_si hP3, encSI_alike L, encSI_sortable L, fun d hd => ?_, by rw [List.length_map]; omega, fun zs p hz np => ?_⟩
  · obtain ⟨e, _, rfl⟩ := List.mem_map.mp hd
    show (1 : Nat) ≤ 8
    decide
  rw [told_map] at hz
  obtain ⟨us, rfl, hU⟩ := sorted_rd hP3 hz
  have npx : x ≠ p := ne_of_none hx3 np
  refine ⟨_, rfl, x, C, dx', _, rfl, (by rw [upd_ne npx]; exact hx3), WK.cl, WK.nT, by rw [lf_eq]; show 2 < 1000; decide, ?_⟩
  rw [lf_put]
  refine ⟨_, rfl, q _ x p nx0 (hS3.free np) (fun b o e => ?_) ⟨dx', upd_same, us, by rw [upd_ne npx.symm, upd_same], paired_mono (fun t e ht => ?_) hU⟩⟩
  · rw [upd_ne (ne_of_none e nx0), upd_ne (ne_of_none (hS3 _ _ e) np)]
    exact hS3 _ _ e
  · have ntx : t ≠ x := ne_of ht hx3 (by intro z; cases z)
    show upd _ _ _ t = _
    rw [upd_ne ntx, upd_ne (ne_of_none ht np)]
    exact ht
end
end My
namespace My
open PySem L2 PyProof.Rows LiI
theorem ix_tupK {X : Cx} {K : PySem.W.Frag} (h : X.K = K) : IxR X (rIxT K) := h ▸ ix_tup
theorem RdAt.cat {H : Hp} {l m p : Addr} {L M : List (Str × Int)} (h : RdAt H l L) (k : RdAt H m M) (np : H p = none) : ∃ xs zs, H l = some (.lst xs) ∧ H m = some (.lst zs) ∧ xs.length = L.length ∧ zs.length = M.length ∧ RdAt (upd H p (.lst (xs ++ zs))) p (L ++ M) := by
  obtain ⟨ts, h1, h2⟩ := h
  obtain ⟨us, k1, k2⟩ := k
  have app : ∀ {l1 m1 : List Addr} {l2 m2 : List (Str × Int)}, Paired (SIAt H) l1 l2 → Paired (SIAt H) m1 m2 → Paired (SIAt H) (l1 ++ m1) (l2 ++ m2) := fun {l1 m1 l2 m2} a b => by
    induction a with
    | nil => exact b
    | cons r t ih => exact .cons r ih
  exact ⟨_, _, h1, k1, by rw [List.length_map]; exact paired_len h2, by rw [List.length_map]; exact paired_len k2, ts ++ us, by rw [upd_same, List.map_append], paired_mono (fun q e hq => same_new np _ _ _ hq) (app h2 k2)⟩
theorem RdAt.len {H : Hp} {l : Addr} {L : List (Str × Int)} (h : RdAt H l L) : ∃ xs, H l = some (.lst xs) ∧ xs.length = L.length := by
  obtain ⟨ts, h1, h2⟩ := h
  exact ⟨_, h1, by rw [List.length_map]; exact paired_len h2⟩
section
variable {P : Program} {w : World} {K : PySem.W.Frag} {mg : Str → Option Value} {base : Heap} {C C2 : Addr}
def sp_lot_with (_ : PySem.W.Frag) (C _ : Addr) : Sp := fun vs H Q _ => ∃ a tl s M l L, vs = [.ref a, .ref l] ∧ LotAt C a tl s M H ∧ 2 ≤ s ∧ s ≤ 8 ∧ RdAt H l L ∧ M.length + L.length ≤ 60 ∧ (∀ e ∈ sumT [] (M ++ L), e.2 ≤ 1200) ∧ ∀ H' b tm, H b = none → H tm = none → Same H H' → LotAt C b tm s (told (sumT [] (M ++ L))) H' → Q (.ref b) H'
theorem ok_lot_with (D : Def K mg "_lot_with" s_lot_with ["lot", "readings"]) (B : Bs mg) (Glb : Glo mg) (WK : WebK K mg C) (PK : KeepK K mg C2)
    (h_times_together : Good P w K mg base "_times_together" s_times_together ["readings"] 1 (sp_times_together K C C2))
    (hlot_told : Good P w K mg base "lot_told" slot_told ["size", "told"] 7 (splot_told K C C2))
    (hLot_size : GoodP P w K mg base C "size" "Lot.size" sLot_size ["self"] 1 (spLot_size K C C2))
    (hLot_readings : GoodM P w K mg base C "readings" "Lot.readings" sLot_readings ["self"] 1 (spLot_readings K C C2)) :
    Good P w K mg base "_lot_with" s_lot_with ["lot", "readings"] 8 (sp_lot_with K C C2) := by
  refine D.good fun f fd F => ?_
  obtain ⟨f_times_together, d_times_together, O_times_together, m_times_together, k_times_together, b_times_together, F_times_together⟩ := h_times_together
  obtain ⟨flot_told, dlot_told, Olot_told, mlot_told, klot_told, blot_told, Flot_told⟩ := hlot_told
  obtain ⟨qLot_size, fLot_size, dLot_size, OLot_size, pLot_size, bLot_size⟩ := hLot_size
  obtain ⟨fLot_readings, dLot_readings, OLot_readings, tLot_readings, bLot_readings, FLot_readings⟩ := hLot_readings
  refine F.ok sc_lot_with (fun vs H Q E h => ?_) (fun cdv A outer s H vs Q E hr h => ?_)
  · obtain ⟨a, tl, s, M, l, L, rfl, hLot, hs1, hs2, hR, hlen, hok, q⟩ := h
    first | rfl | (rcases h with ⟨_, _, rfl, _⟩ | ⟨_, rfl, _⟩ <;> rfl)
  obtain ⟨a, tl, s, M, l, L, rfl, hLot, hs1, hs2, hR, hlen, hok, q⟩ := h
  refine ⟨_, (pss_cons (ps_set (i := 2) sc_lot_with.nd rfl (by first | exact Or.inl rfl | exact Or.inr rfl) (pe_call O_times_together (hr.mono (by decide)) rfl m_times_together k_times_together b_times_together .nil pass0 (pa_cons (pe_op op_cat (pe_meth0 (pv 0) WK.cl tLot_readings OLot_readings (hr.mono (by decide)) bLot_readings .nil pass0) (pv 1)) pa_nil)))
  (pss_one (ps_ret (pe_call Olot_told hr rfl mlot_told klot_told blot_told .nil pass0 (pa_cons (pe_prop (pv 0) WK.cl pLot_size OLot_size (hr.mono (by decide)) bLot_size .nil pass0 (by rfl)) (pa_cons (pe_listItems rfl (pv 2) (by rfl) B.list (by decide +kernel)) pa_nil)))))), ?_⟩
  obtain ⟨dx, h1, _⟩ := id hLot
  refine ⟨_, rfl, a, dx, _, rfl, h1, lf_no _ _ (by decide +kernel) (by decide +kernel), a, tl, s, M, rfl, hLot, fun H1 m nm hS1 hm => ?_⟩
  have hR1 := hR.same hS1
  obtain ⟨xs0, hxs0, e1⟩ := hm.len
  obtain ⟨zs0, hzs0, e2⟩ := hR1.len
  refine ⟨_, rfl, m, l, _, _, rfl, rfl, hxs0, hzs0, by rw [e1, e2]; exact Nat.le_trans hlen (by decide), fun p np => ?_⟩
  obtain ⟨xs, zs, g1, g2, _, _, hC⟩ := hm.cat hR1 np
  rw [hxs0] at g1
  cases g1
  rw [hzs0] at g2
  cases g2
  have hS2 : Same H (upd H1 p (.lst (xs0 ++ zs0))) := fun b o e => same_new np _ _ _ (hS1 _ _ e)
  generalize upd H1 p (.lst (xs0 ++ zs0)) = H2 at hC hS2
  refine ⟨p, M ++ L, rfl, hC, by rw [List.length_append]; omega, fun H3 d hS3 nd hd => ?_⟩
  have hS03 : Same H H3 := hS2.trans hS3
  obtain ⟨dx3, h3, _⟩ := id (hLot.same hS03)
  refine ⟨_, rfl, a, dx3, _, rfl, h3, a, tl, s, M, rfl, hLot.same hS03, ?_⟩
  refine ⟨_, rfl, d, _, rfl, hd, fun H4 m2 us hS4 nm2 _ _ hm2 hU => ?_⟩
  have hlen2 : (sumT [] (M ++ L)).length ≤ 60 := by
    have := sumT_len (M ++ L) []
    rw [List.length_append] at this
    simp at this
    omega
  have hS04 : Same H H4 := fun b o e => hS4 _ _ (hS03 _ _ e)
  exact ⟨s, m2, _, rfl, hs1, hs2, ⟨us, hm2, paired_ent hU⟩, hlen2, hok, fun H5 b tm nb ntm hS5 hL5 => q H5 b tm (hS04.free nb) (hS04.free ntm) (hS04.trans hS5) hL5⟩
def spwith_reading (_ : PySem.W.Frag) (C _ : Addr) : Sp := fun vs H Q _ => ∃ a tl s M x n, vs = [.ref a, .str x, .int n] ∧ LotAt C a tl s M H ∧ 2 ≤ s ∧ s ≤ 8 ∧ OkT x ∧ 1 ≤ n ∧ n ≤ 20 ∧ M.length + 1 ≤ 60 ∧ (∀ e ∈ sumT [] (M ++ [(x, n)]), e.2 ≤ 1200) ∧ ∀ H' b tm, H b = none → H tm = none → Same H H' → LotAt C b tm s (told (sumT [] (M ++ [(x, n)]))) H' → Q (.ref b) H'
theorem okwith_reading (D : Def K mg "with_reading" swith_reading ["lot", "text", "times"]) (B : Bs mg) (Glb : Glo mg) (WK : WebK K mg C) (PK : KeepK K mg C2)
    (hneed_lot : Good P w K mg base "need_lot" sneed_lot ["lot"] 3 (spneed_lot K C C2))
    (hneed_text : Good P w K mg base "need_text" sneed_text ["text"] 3 (spneed_text K C C2))
    (hneed_times : Good P w K mg base "need_times" sneed_times ["times"] 4 (spneed_times K C C2))
    (h_lot_with : Good P w K mg base "_lot_with" s_lot_with ["lot", "readings"] 8 (sp_lot_with K C C2)) :
    Good P w K mg base "with_reading" swith_reading ["lot", "text", "times"] 9 (spwith_reading K C C2) := by
  refine D.good fun f fd F => ?_
  obtain ⟨fneed_lot, dneed_lot, Oneed_lot, mneed_lot, kneed_lot, bneed_lot, Fneed_lot⟩ := hneed_lot
  obtain ⟨fneed_text, dneed_text, Oneed_text, mneed_text, kneed_text, bneed_text, Fneed_text⟩ := hneed_text
  obtain ⟨fneed_times, dneed_times, Oneed_times, mneed_times, kneed_times, bneed_times, Fneed_times⟩ := hneed_times
  obtain ⟨f_lot_with, d_lot_with, O_lot_with, m_lot_with, k_lot_with, b_lot_with, F_lot_with⟩ := h_lot_with
  refine F.ok scwith_reading (fun vs H Q E h => ?_) (fun cdv A outer s H vs Q E hr h => ?_)
  · obtain ⟨a, tl, s, M, x, n, rfl, hLot, hs1, hs2, hx, hn1, hn2, hlen, hok, q⟩ := h
    first | rfl | (rcases h with ⟨_, _, rfl, _⟩ | ⟨_, rfl, _⟩ <;> rfl)
  obtain ⟨a, tl, s, M, x, n, rfl, hLot, hs1, hs2, hx, hn1, hn2, hlen, hok, q⟩ := h
  refine ⟨_, (pss_cons (ps_expr (pe_call Oneed_lot (hr.mono (by decide)) rfl mneed_lot kneed_lot bneed_lot .nil pass0 (pa_cons (pv 0) pa_nil)))
  (pss_cons (ps_expr (pe_call Oneed_text (hr.mono (by decide)) rfl mneed_text kneed_text bneed_text .nil pass0 (pa_cons (pv 1) pa_nil)))
  (pss_cons (ps_expr (pe_call Oneed_times (hr.mono (by decide)) rfl mneed_times kneed_times bneed_times .nil pass0 (pa_cons (pv 2) pa_nil)))
  (pss_one (ps_ret (pe_call O_lot_with hr rfl m_lot_with k_lot_with b_lot_with .nil pass0 (pa_cons (pv 0) (pa_cons (pe_lst (pa_cons (pe_tup (pa_cons (pv 1) (pa_cons (pv 2) pa_nil))) pa_nil)) pa_nil)))))))), ?_⟩
  refine ⟨_, rfl, a, tl, s, M, rfl, hLot, _, rfl, x, rfl, hx, _, rfl, n, rfl, hn1, hn2, _, rfl, _, rfl, _, rfl, (by show 2 ≤ sizeLine; decide), fun tp ntp => ⟨(by show 1 ≤ sizeLine; decide), fun lp nlp => ?_⟩⟩
  have hS2 : Same H (upd (upd H tp (.tup [.str x, .int n])) lp (.lst [.ref tp])) := fun b o e => same_new nlp _ _ _ (same_new ntp _ _ _ e)
  have htp : upd (upd H tp (.tup [.str x, .int n])) lp (.lst [.ref tp]) tp = some (.tup [.str x, .int n]) := same_new nlp _ _ _ upd_same
  have hlp : upd (upd H tp (.tup [.str x, .int n])) lp (.lst [.ref tp]) lp = some (.lst ([tp].map V.ref)) := upd_same
  generalize upd (upd H tp (.tup [.str x, .int n])) lp (.lst [.ref tp]) = H2 at hS2 htp hlp
  exact ⟨a, tl, s, M, lp, [(x, n)], rfl, hLot.same hS2, hs1, hs2, ⟨[tp], hlp, .cons htp .nil⟩, hlen, hok, fun H5 b tm nb ntm hS5 hL5 => q H5 b tm (hS2.free nb) (hS2.free ntm) (hS2.trans hS5) hL5⟩
def spLot_times_of (_ : PySem.W.Frag) (C _ : Addr) : Sp := fun vs H Q _ => ∃ a tl s M x, vs = [.ref a, .str x] ∧ LotAt C a tl s M H ∧ OkT x ∧ (M.map Prod.fst).Nodup ∧ ∀ H', Same H H' → Q (.int (getT M x)) H'
theorem okLot_times_of (D : DefM K C "times_of" "Lot.times_of" sLot_times_of ["self", "text"]) (B : Bs mg) (Glb : Glo mg) (WK : WebK K mg C) (PK : KeepK K mg C2)
    (hneed_text : Good P w K mg base "need_text" sneed_text ["text"] 3 (spneed_text K C C2)) :
    GoodM P w K mg base C "times_of" "Lot.times_of" sLot_times_of ["self", "text"] 4 (spLot_times_of K C C2) := by
  refine D.good fun f fd F => ?_
  obtain ⟨fneed_text, dneed_text, Oneed_text, mneed_text, kneed_text, bneed_text, Fneed_text⟩ := hneed_text
  refine F.ok scLot_times_of (fun vs H Q E h => ?_) (fun cdv A outer s H vs Q E hr h => ?_)
  · obtain ⟨a, tl, s, M, x, rfl, ⟨dx, h1, ts, ht, hP⟩, hx, hn, q⟩ := h
    first | rfl | (rcases h with ⟨_, _, rfl, _⟩ | ⟨_, rfl, _⟩ <;> rfl)
  obtain ⟨a, tl, s, M, x, rfl, ⟨dx, h1, ts, ht, hP⟩, hx, hn, q⟩ := h
  refine ⟨_, (pss_cons (ps_expr (pe_call Oneed_text hr rfl mneed_text kneed_text bneed_text .nil pass0 (pa_cons (pv 1) pa_nil)))
  (pss_one (ps_ret (pe_dget2 (hu_of hr) (pe_callTy (call_dictP rfl) (by rfl) B.dict (by decide +kernel) (pa_cons (pe_fld (pv 0) rfl) pa_nil)) (pv 1) pe_int ⟨rfl, rfl, rfl, rfl⟩)))), ?_⟩
  refine ⟨_, rfl, x, rfl, hx, _, rfl, a, C, dx, _, _, rfl, h1, WK.cl, WK.nT, lf_T _ _, tl, ts, dT M, rfl, SqL.of ht, ent_paired hP, fun p np => ?_⟩
  have em : mergeK [] (dT M) = dT M := merge_new M [] hn
  rw [em]
  have hp : upd H p (.dK (dT M)) p = some (.dK (dT M)) := upd_same
  refine ⟨p, rfl, .inl ⟨_, .inl hp⟩, _, rfl, _, DGet.k (k := Sum.inr x) hp, ?_⟩
  rw [dT_getD]
  exact q _ (same_new np _)
end
end My
namespace My
open PySem L2 PyProof.Rows
def PotOk (x y : Int) : Prop := 0 ≤ x ∧ 0 ≤ y ∧ y < 2147483590
def PotAt (H : Hp) (a : Addr) : Prop := ∃ x y : Int, H a = some (.lst [.int x, .int y]) ∧ PotOk x y
theorem PotAt.new {H : Hp} {a p : Addr} {o : HO} (h : PotAt H a) (np : H p = none) : PotAt (upd H p o) a := by
  obtain ⟨x, y, e, h⟩ := h
  exact ⟨x, y, by rw [upd_ne (ne_of_none e np)]; exact e, h⟩
theorem PotAt.put {H : Hp} {a p : Addr} {o : HO} (h : PotAt H a) (np : p ≠ a) : PotAt (upd H p o) a := by
  obtain ⟨x, y, e, h⟩ := h
  exact ⟨x, y, by rw [upd_ne np.symm]; exact e, h⟩
theorem PotAt.same {H H' : Hp} {a : Addr} (h : PotAt H a) (s : Same H H') : PotAt H' a := by
  obtain ⟨x, y, e, h⟩ := h
  exact ⟨x, y, s _ _ e, h⟩
theorem PotAt.ne {H : Hp} {a p : Addr} (h : PotAt H a) (np : H p = none) : p ≠ a := by
  obtain ⟨x, y, e, h⟩ := h
  exact (ne_of_none e np).symm
theorem PotAt.ntup {H : Hp} {a p : Addr} {xs : List V} (h : PotAt H a) (hp : H p = some (.tup xs)) : p ≠ a := by
  obtain ⟨x, y, e, h⟩ := h
  exact ne_of hp e (by intro q; cases q)
theorem Kept.new {H H' : Hp} {a p : Addr} {o : HO} (h : Kept a H H') (np : H' p = none) : Kept a H (upd H' p o) := h.trans (Same.kept (same_new np o))
theorem Kept.put {H H' : Hp} {a p : Addr} {o : HO} (h : Kept a H H') (np : H p = none) : Kept a H (upd H' p o) := fun b u e n => by
  rw [upd_ne (ne_of_none e np)]
  exact h b u e n
theorem RdAt.new {H : Hp} {l p : Addr} {L : List (Str × Int)} {o : HO} (h : RdAt H l L) (np : H p = none) : RdAt (upd H p o) l L := h.same (same_new np o)
theorem RdAt.kept {H H' : Hp} {a l : Addr} {L : List (Str × Int)} (h : RdAt H l L) (k : Kept a H H') (hp : PotAt H a) (hn : l ≠ a) : RdAt H' l L := by
  obtain ⟨ts, h1, h2⟩ := h
  exact ⟨ts, k _ _ h1 hn, paired_mono (fun p e hq => k _ _ hq (hp.ntup hq)) h2⟩
theorem RdAt.nil {H : Hp} {p : Addr} : RdAt (upd H p (.lst [])) p [] := ⟨[], upd_same, .nil⟩
theorem paired_end {α β : Type} {F : α → β → Prop} {a : α} {b : β} : ∀ {l1 : List α} {l2 : List β}, Paired F l1 l2 → F a b → Paired F (l1 ++ [a]) (l2 ++ [b])
  | _, _, .nil, h => .cons h .nil
  | _, _, .cons r t, h => .cons r (paired_end t h)
theorem RdAt.push {H : Hp} {p tp : Addr} {L : List (Str × Int)} {x : Str} {n : Int} (h : RdAt H p L) (nt : H tp = none) :
    ∃ xs, (upd H tp (.tup [.str x, .int n])) p = some (.lst xs) ∧ xs.length = L.length ∧ RdAt (upd (upd H tp (.tup [.str x, .int n])) p (.lst (xs ++ [.ref tp]))) p (L ++ [(x, n)]) := by
  obtain ⟨ts, h1, h2⟩ := h
  have npt : p ≠ tp := ne_of_none h1 nt
  refine ⟨ts.map V.ref, by rw [upd_ne npt]; exact h1, by rw [List.length_map]; exact paired_len h2, ts ++ [tp], by rw [upd_same, List.map_append]; rfl, paired_end (paired_mono (fun q e hq => ?_) h2) ?_⟩
  · have nqp : q ≠ p := ne_of hq h1 (by intro z; cases z)
    show upd _ _ _ q = _
    rw [upd_ne nqp, upd_ne (ne_of_none hq nt)]
    exact hq
  · show upd _ _ _ tp = _
    rw [upd_ne npt.symm, upd_same]
/-- a text of the law's own -/
structure OkL (x : Str) : Prop where
  ok : OkT x
  few : ∀ c ∈ x.cps.toList, c ≤ 99
theorem okT_nil : OkL (Str.ofString "") := ⟨⟨by decide +kernel, by decide +kernel⟩, by decide +kernel⟩
theorem str_app_len (x y : Str) : (x ++ y : Str).length = x.length + y.length := Array.size_append
theorem okT_app {x y : Str} (h : OkL x) (k : OkL y) (hl : x.length + y.length ≤ 400) : OkL (x ++ y) := by
  have mem : ∀ c ∈ (x ++ y : Str).cps.toList, c ∈ x.cps.toList ∨ c ∈ y.cps.toList := fun c hc => by
    have : c ∈ x.cps.toList ++ y.cps.toList := by
      rw [← Array.toList_append]
      exact hc
    exact List.mem_append.mp this
  refine ⟨⟨by rw [str_app_len]; exact hl, fun c hc => ?_⟩, fun c hc => ?_⟩
  · exact (mem c hc).elim (h.ok.let_ c) (k.ok.let_ c)
  · exact (mem c hc).elim (h.few c) (k.few c)
theorem okT_one {v : V} (h : v ∈ [V.str (Str.ofString "a"), V.str (Str.ofString "b"), V.str (Str.ofString "a"), V.str (Str.ofString "c")]) : ∃ x, v = .str x ∧ OkL x ∧ x.length = 1 := by
  simp only [List.mem_cons, List.not_mem_nil, or_false] at h
  rcases h with rfl | rfl | rfl | rfl
  · exact ⟨_, rfl, ⟨⟨by decide +kernel, by decide +kernel⟩, by decide +kernel⟩, by decide +kernel⟩
  · exact ⟨_, rfl, ⟨⟨by decide +kernel, by decide +kernel⟩, by decide +kernel⟩, by decide +kernel⟩
  · exact ⟨_, rfl, ⟨⟨by decide +kernel, by decide +kernel⟩, by decide +kernel⟩, by decide +kernel⟩
  · exact ⟨_, rfl, ⟨⟨by decide +kernel, by decide +kernel⟩, by decide +kernel⟩, by decide +kernel⟩
section
variable {P : Program} {w : World} {K : PySem.W.Frag} {mg : Str → Option Value} {base : Heap} {C C2 : Addr}
def sp_law_pot (K : PySem.W.Frag) (_ _ : Addr) : Sp := fun vs H Q _ => ∃ a, ∃ ns : List Int, vs = [.ref a, .int 0] ∧ SqL K H a (ns.map V.int) ∧ ∀ p H', PotAt H' p → Same H H' → H p = none → Q (.ref p) H'
theorem ok_law_pot (D : Def K mg "_law_pot" s_law_pot ["_law_script", "_law_k"]) (B : Bs mg) (Glb : Glo mg) (WK : WebK K mg C) (PK : KeepK K mg C2) :
    Good P w K mg base "_law_pot" s_law_pot ["_law_script", "_law_k"] 1 (sp_law_pot K C C2) := by
  refine D.good fun f fd F => ?_
  refine F.ok sc_law_pot (fun vs H Q E h => ?_) (fun cdv A outer s H vs Q E hr h => ?_)
  · obtain ⟨a, ns, rfl, hS, q⟩ := h
    first | rfl | (rcases h with ⟨_, _, rfl, _⟩ | ⟨_, rfl, _⟩ <;> rfl)
  obtain ⟨a, ns, rfl, hS, q⟩ := h
  refine ⟨_, (pss_cons (ps_set (i := 2) sc_law_pot.nd rfl (by first | exact Or.inl rfl | exact Or.inr rfl) (pe_ifExp (pt_cmpR op_lt (pv 1) (pe_callB call_len_seq (by rfl) B.len (by decide +kernel) (pa_cons (pv 0) pa_nil)) (nomark _)) (pe_callB call_abs (by rfl) B.abs (by decide +kernel) (pa_cons (pe_ix ix_list (pv 0) (pv 1) (fun _ _ => rfl)) pa_nil)) (pe_op op_add (pe_op op_mul pe_int (pv 1)) pe_int)))
  (pss_cons (ps_set (i := 3) sc_law_pot.nd rfl (by first | exact Or.inl rfl | exact Or.inr rfl) (pe_op op_add (pe_op op_mod (pe_callTy call_int1 (by rfl) B.int (by decide +kernel) (pa_cons (pe_op op_add (pe_op op_add (pe_op op_mul (pe_op op_mod (pe_callTy call_int1 (by rfl) B.int (by decide +kernel) (pa_cons (pv 2) pa_nil)) pe_int) pe_int) (pe_op op_mul pe_int (pv 1))) pe_int) pa_nil)) pe_int) pe_int))
  (pss_one (ps_ret (pe_lst (pa_cons (pe_callB (call_max2 rfl) (by rfl) B.max (by decide +kernel) (pa_cons pe_int (pa_cons (pe_op op_sub (pv 2) (pe_op op_pow pe_int pe_int)) pa_nil))) (pa_cons (pv 3) pa_nil))))))), ?_⟩
  refine ⟨_, rfl, _, rfl, _, _, rfl, .inl hS, _, _, rfl, rfl, _, rfl, ?_⟩
  refine ite2 (fun c1 => ?pos) (fun c1 => ?neg)
  case' pos =>
    obtain ⟨n, rest, rfl⟩ : ∃ n rest, ns = n :: rest := by
      cases ns with
      | nil => exact absurd (of_decide_eq_true c1) (by decide)
      | cons n rest => exact ⟨n, rest, rfl⟩
    refine ⟨_, rfl, _, rfl, _, _, _, .int n, rfl, rfl, hS, atI_nat (j := 0) rfl, _, rfl, ?_⟩
    have hz0 : (0 : Int) ≤ (if n < 0 then -n else n) := by split <;> omega
  case' neg =>
    refine ⟨_, rfl, _, _, rfl, rfl, .inl ⟨by decide, by decide⟩, _, _, rfl, rfl, ?_⟩
    have hz0 : (0 : Int) ≤ (941 * 0 + 1049) := by decide
  all_goals
    refine ⟨_, rfl, .inl ⟨_, rfl, _, _, rfl, rfl, (by show (0 : Int) < 2147483543; decide), _, _, rfl, rfl, .inl ⟨?_, ?_⟩, _, rfl, _, _, rfl, rfl, .inl ⟨by decide, by decide⟩, _, _, rfl, rfl, _, _, rfl, rfl, .inl ⟨_, rfl, _, _, rfl, rfl, (by show (0 : Int) < 2147483549; decide), _, _, rfl, rfl, ?_⟩⟩⟩
    · omega
    · omega
    refine ⟨_, rfl, _, _, rfl, rfl, ⟨by decide, by decide, by decide⟩, _, _, rfl, rfl, _, _, rfl, _, rfl, (by show 2 ≤ sizeLine; decide), fun p np => q p _ ⟨_, _, upd_same, ?_, ?_, ?_⟩ (same_new np _) np⟩
    · split <;> omega
    · omega
    · omega
def sp_law_draw (_ : PySem.W.Frag) (_ _ : Addr) : Sp := fun vs H Q _ => ∃ a n, vs = [.ref a, .int ((n : Nat) : Int)] ∧ PotAt H a ∧ 0 < n ∧ n ≤ 1000 ∧ ∀ (d : Nat) H', d < n → Kept a H H' → PotAt H' a → Q (.int (d : Int)) H'
theorem ok_law_draw (D : Def K mg "_law_draw" s_law_draw ["_law_pot_here", "_law_size"]) (B : Bs mg) (Glb : Glo mg) (WK : WebK K mg C) (PK : KeepK K mg C2) :
    Good P w K mg base "_law_draw" s_law_draw ["_law_pot_here", "_law_size"] 1 (sp_law_draw K C C2) := by
  refine D.good fun f fd F => ?_
  refine F.ok sc_law_draw (fun vs H Q E h => ?_) (fun cdv A outer s H vs Q E hr h => ?_)
  · obtain ⟨a, n, rfl, ⟨x, y, ha, hx, hy, hy2⟩, hn, hn2, q⟩ := h
    first | rfl | (rcases h with ⟨_, _, rfl, _⟩ | ⟨_, rfl, _⟩ <;> rfl)
  obtain ⟨a, n, rfl, ⟨x, y, ha, hx, hy, hy2⟩, hn, hn2, q⟩ := h
  refine ⟨_, (pss_cons (ps_if (pt_cmpR op_gt (pe_ix ix_list (pv 0) pe_int (fun _ _ => rfl)) pe_int (nomark _))
    (pss_cons (ps_asg (pe_callB call_divmod (by rfl) B.divmod (by decide +kernel) (pa_cons (pe_ix ix_list (pv 0) pe_int (fun _ _ => rfl)) (pa_cons (pv 1) pa_nil))) (pg_tup rfl (pgs_cons (pg_sub (pv 0) pe_int set_list) (pgs_cons (pg_name (i := 2) sc_law_draw.nd rfl (by first | exact Or.inl rfl | exact Or.inr rfl)) pgs_nil))))
  (pss_one (ps_ret (pv 2)))) pss_nil)
  (pss_cons (ps_asg (pe_op op_mod (pe_callTy call_int1 (by rfl) B.int (by decide +kernel) (pa_cons (pe_op op_add (pe_op op_mul (pe_ix ix_list (pv 0) pe_int (fun _ _ => rfl)) pe_int) pe_int) pa_nil)) pe_int) (pg_sub (pv 0) pe_int set_list))
  (pss_one (ps_ret (pe_op op_mod (pe_callTy call_int1 (by rfl) B.int (by decide +kernel) (pa_cons (pe_op op_fdiv (pe_op op_mod (pe_callTy call_int1 (by rfl) B.int (by decide +kernel) (pa_cons (pe_op op_mul (pe_ix ix_list (pv 0) pe_int (fun _ _ => rfl)) (pe_ix ix_list (pv 0) pe_int (fun _ _ => rfl))) pa_nil)) pe_int) pe_int) pa_nil)) (pv 1)))))), ?_⟩
  refine ⟨_, rfl, _, _, _, .int x, rfl, rfl, SqL.of ha, rfl, _, _, rfl, rfl, _, rfl, ?_⟩
  refine ite2 (fun c1 => ?_) (fun c1 => ?_)
  · have hpos : (0 : Int) < x := of_decide_eq_true c1
    refine ⟨_, rfl, _, _, _, .int x, rfl, rfl, SqL.of ha, rfl, _, rfl, _, _, rfl, ⟨by omega, by omega⟩, fun p np => ?_⟩
    have hpa : a ≠ p := ne_of_none ha np
    have ha' : (upd H p (.tup [.int (x / (n : Int)), .int (x % (n : Int))])) a = some (.lst [.int x, .int y]) := by
      rw [upd_ne hpa]
      exact ha
    have ed : (((x % (n : Int)).toNat : Nat) : Int) = x % (n : Int) := Int.toNat_of_nonneg (Int.emod_nonneg _ (by omega))
    have el := Int.emod_lt_of_pos x (show (0 : Int) < (n : Int) by omega)
    refine ⟨_, _, rfl, SqT.of upd_same, rfl, _, _, rfl, _, rfl, _, _, _, 0, rfl, rfl, ha', rfl, _, _, rfl, rfl, ?_⟩
    refine ⟨_, rfl, ?_⟩
    have := q (x % (n : Int)).toNat (upd (upd H p (.tup [.int (x / (n : Int)), .int (x % (n : Int))])) a (.lst [.int (x / (n : Int)), .int y])) (by omega) (fun b o e nb => by rw [upd_ne nb, upd_ne (ne_of_none e np)]; exact e)
      ⟨_, _, upd_same, Int.ediv_nonneg hx (by omega), hy, hy2⟩
    rw [ed] at this
    exact this
  · refine ⟨_, rfl, _, _, _, .int y, rfl, rfl, SqL.of ha, rfl, _, _, rfl, rfl, .inl ⟨by omega, by omega⟩, _, _, rfl, rfl, .inl ⟨_, rfl, _, _, rfl, rfl, (by show (0 : Int) < 2147483549; decide), _, rfl, _, _, _, 1, rfl, rfl, ha, rfl, ?_⟩⟩
    have hz0 : (0 : Int) ≤ (y * 39541 + 7529) % 2147483549 := by omega
    have hz1 : (y * 39541 + 7529) % 2147483549 < (2147483549 : Int) := by omega
    refine ⟨_, rfl, _, _, _, .int ((y * 39541 + 7529) % 2147483549), rfl, rfl, SqL.of upd_same, rfl, _, rfl, _, _, _, .int ((y * 39541 + 7529) % 2147483549), rfl, rfl, SqL.of upd_same, rfl, _, _, rfl, rfl, .inl ⟨by omega, by omega⟩, .inl ⟨_, rfl, _, _, rfl, rfl, (by show (0 : Int) < 2147483543; decide), _, _, rfl, rfl, ⟨by decide, by decide⟩, .inl ⟨_, rfl, _, rfl, _, _, rfl, rfl, (by show (0 : Int) < (n : Int); omega), ?_⟩⟩⟩
    have fin : ∀ z : Int, 0 ≤ z → z < 2147483549 → Q (V.int (z * z % 2147483543 / 23 % (n : Int))) (upd H a (.lst [.int x, .int z])) := fun z hz0 hz1 => by
      have ed : (((z * z % 2147483543 / 23 % (n : Int)).toNat : Nat) : Int) = z * z % 2147483543 / 23 % (n : Int) := Int.toNat_of_nonneg (Int.emod_nonneg _ (by omega))
      have el := Int.emod_lt_of_pos (z * z % 2147483543 / 23) (show (0 : Int) < (n : Int) by omega)
      have := q (z * z % 2147483543 / 23 % (n : Int)).toNat (upd H a (.lst [.int x, .int z])) (by omega) (fun b o e nb => by rw [upd_ne nb]; exact e) ⟨_, _, upd_same, hx, hz0, by omega⟩
      rw [ed] at this
      exact this
    exact fin _ hz0 hz1
end
end My
namespace My
open PySem L2 PyProof.Rows
/-- the dict's texts in sequence, each with its number -/
def inSeq (D : List (Str × Int)) : List (Str × Int) := ((D.map Prod.fst).mergeSort leS).map fun x => (x, getT D x)
theorem getT_mem {D : List (Str × Int)} (hn : (D.map Prod.fst).Nodup) {e : Str × Int} (h : e ∈ D) : getT D e.1 = e.2 := by
  induction D with
  | nil => cases h
  | cons f r ih =>
    have hn' := List.nodup_cons.mp (by simpa using hn : (f.1 :: r.map Prod.fst).Nodup)
    rcases List.mem_cons.mp h with z | z
    · subst z
      simp [getT]
    · have hne : ¬ f.1 = e.1 := fun q => hn'.1 (by rw [q]; exact List.mem_map.mpr ⟨e, z, rfl⟩)
      have s2 : getT (f :: r) e.1 = getT r e.1 := by simp [getT, List.find?_cons, hne]
      rw [s2]
      exact ih hn'.2 z
theorem inSeq_told {D : List (Str × Int)} (hn : (D.map Prod.fst).Nodup) : Told (inSeq D) := by
  unfold Told inSeq
  rw [List.pairwise_map]
  exact texts_of hn
theorem mem_inSeq {D : List (Str × Int)} (hn : (D.map Prod.fst).Nodup) (e : Str × Int) : e ∈ inSeq D ↔ e ∈ D := by
  unfold inSeq
  rw [List.mem_map]
  constructor
  · rintro ⟨x, hx, rfl⟩
    obtain ⟨f, hf, rfl⟩ := List.mem_map.mp ((List.mergeSort_perm _ leS).mem_iff.mp hx)
    rw [getT_mem hn hf]
    exact hf
  · intro h
    exact ⟨e.1, (List.mergeSort_perm _ leS).mem_iff.mpr (List.mem_map.mpr ⟨e, h, rfl⟩), by rw [getT_mem hn h]⟩
theorem told_inSeq {D : List (Str × Int)} (hn : (D.map Prod.fst).Nodup) : told D = inSeq D :=
  (told_of hn).unique (inSeq_told hn) fun e => told_mem.trans (mem_inSeq hn e).symm
/-- lots of the same numbers are told alike -/
theorem told_same {D E : List (Str × Int)} (hn : (D.map Prod.fst).Nodup) (kn : (E.map Prod.fst).Nodup) (h : ∀ e, e ∈ D ↔ e ∈ E) : told D = told E :=
  (told_of hn).unique (told_of kn) fun e => told_mem.trans ((h e).trans told_mem.symm)
theorem mem_get {D : List (Str × Int)} (hn : (D.map Prod.fst).Nodup) (e : Str × Int) : e ∈ D ↔ e.1 ∈ D.map Prod.fst ∧ getT D e.1 = e.2 := by
  constructor
  · intro h
    exact ⟨List.mem_map.mpr ⟨e, h, rfl⟩, getT_mem hn h⟩
  · rintro ⟨h1, h2⟩
    obtain ⟨f, hf, e1⟩ := List.mem_map.mp h1
    have e2 := getT_mem hn hf
    rw [e1, h2] at e2
    have : f = e := Prod.ext e1 e2.symm
    rw [← this]
    exact hf
theorem told_get {D E : List (Str × Int)} (hn : (D.map Prod.fst).Nodup) (kn : (E.map Prod.fst).Nodup) (h : ∀ x, x ∈ D.map Prod.fst ↔ x ∈ E.map Prod.fst) (k : ∀ x, getT D x = getT E x) : told D = told E :=
  told_same hn kn fun e => by rw [mem_get hn, mem_get kn, h, k]
/-- lists of pairs compared -/
theorem okT_str {x : Str} (h : OkT x) : PyData.strOk x = true := by
  unfold PyData.strOk
  rw [Array.all_eq_true']
  intro c hc
  have := h.let_ c (by simpa using hc)
  simp
  omega
theorem layAll_si : ∀ {L : List (Str × Int)}, (∀ e ∈ L, OkT e.1) → PyData.canLayAll0 (L.map encSI) = true
  | [], _ => rfl
  | e :: r, h => by
    show (PyData.canLay0 (encSI e) && PyData.canLayAll0 (r.map encSI)) = true
    rw [layAll_si fun f hf => h f (List.mem_cons_of_mem _ hf)]
    have hx := okT_str (h e List.mem_cons_self)
    simp only [encSI, PyData.canLay0, PyData.canLayAll0, Bool.and_true]
    exact hx
theorem depthAll_si (e : Str × Int) : ∀ r : List (Str × Int), PyData.depthAll ((e :: r).map encSI) = 1
  | [] => rfl
  | f :: r => by
    show max (PyData.depth (encSI e)) (PyData.depthAll ((f :: r).map encSI)) = 1
    rw [depthAll_si f r]
    rfl
theorem shaped_si : ∀ {L : List (Str × Int)}, (∀ e ∈ L, OkT e.1) → SeqAt.shaped (.list (L.map encSI)) = true
  | [], _ => shaped_iz []
  | e :: r, h => by
    unfold SeqAt.shaped
    have h1 : PyData.canLay0 (.list ((e :: r).map encSI)) = true := by
      unfold PyData.canLay0
      exact layAll_si h
    have h2 : PyData.depth (.list ((e :: r).map encSI)) = 2 := by
      unfold PyData.depth
      rw [depthAll_si]
    rw [h1, h2]
    rfl
theorem dp_rd {K : PySem.W.Frag} {H : Hp} {l : Addr} {L : List (Str × Int)} (h : RdAt H l L) : Dp K H (.ref l) (.list (L.map encSI)) := by
  obtain ⟨ts, h1, h2⟩ := h
  exact .lst (SqL.of h1) (dp_si h2)
section
variable {P : Program} {w : World} {K : PySem.W.Frag} {mg : Str → Option Value} {base : Heap} {C C2 : Addr}
def spLot_solid (_ : PySem.W.Frag) (C _ : Addr) : Sp := fun vs H Q _ => ∃ a tl s M, ∃ n : Nat, vs = [.ref a, .int (n : Int)] ∧ 1 ≤ n ∧ LotAt C a tl s M H ∧ M.length ≤ 200 ∧ (∀ e ∈ M, e.1.length ≤ 400) ∧ s ≤ 8 ∧ ∀ H' l, H l = none → Same H H' → H' l = some (.lst ((((told (sumT [] (pcsT s M))).filter fun e => decide (e.2 ≥ (n : Int))).map Prod.fst).map V.str)) → Q (.ref l) H'
theorem okLot_solid (D : DefM K C "solid" "Lot.solid" sLot_solid ["self", "least"]) (B : Bs mg) (Glb : Glo mg) (WK : WebK K mg C) (PK : KeepK K mg C2)
    (his_count : Good P w K mg base "is_count" sis_count ["value"] 2 (spis_count K C C2))
    (hLot_pieces : GoodM P w K mg base C "pieces" "Lot.pieces" sLot_pieces ["self"] 3 (spLot_pieces K C C2)) :
    GoodM P w K mg base C "solid" "Lot.solid" sLot_solid ["self", "least"] 5 (spLot_solid K C C2) := by
  refine D.good fun f fd F => ?_
  obtain ⟨fis_count, dis_count, Ois_count, mis_count, kis_count, bis_count, Fis_count⟩ := his_count
  obtain ⟨fLot_pieces, dLot_pieces, OLot_pieces, tLot_pieces, bLot_pieces, FLot_pieces⟩ := hLot_pieces
  refine F.ok scLot_solid (fun vs H Q E h => ?_) (fun cdv A outer s H vs Q E hr h => ?_)
  · obtain ⟨a, tl, s, M, n, rfl, hn, hLot, hlen, hok, hs, q⟩ := h
    first | rfl | (rcases h with ⟨_, _, rfl, _⟩ | ⟨_, rfl, _⟩ <;> rfl)
  obtain ⟨a, tl, s, M, n, rfl, hn, hLot, hlen, hok, hs, q⟩ := h
  refine ⟨_, (pss_cons (ps_if (PW.pt (pw_or (pt_not (pt_val (pe_call Ois_count (hr.mono (by decide)) rfl mis_count kis_count bis_count .nil pass0 (pa_cons (pv 1) pa_nil)))) (pw_or1 (pt_cmpR op_lt (pv 1) pe_int (nomark _)))))
    (pss_one ps_never) pss_nil)
  (pss_one (ps_ret (pe_lc (own := [("piece", 2), ("times", 3)]) (g := gTup K 2 (gCons (gName 2) (gCons (gName 3) gNil))) (by rfl) scLot_solid.nd (pi_list (pe_meth0 (pv 0) WK.cl tLot_pieces OLot_pieces (hr.mono (by decide)) bLot_pieces .nil pass0)) (blkOk_by (own := [("piece", 2), ("times", 3)]) (N := ["self", "least", "piece", "times"]) (sc := defScope sLot_solid) (by decide +kernel)) (fun _ _ _ _ _ => (pg_tup rfl (pgs_cons (pg_name (i := 2) scLot_solid.nd rfl (by first | exact Or.inl rfl | exact Or.inr rfl)) (pgs_cons (pg_name (i := 3) scLot_solid.nd rfl (by first | exact Or.inl rfl | exact Or.inr rfl)) pgs_nil)))) (fun _ _ _ _ _ => (pts_one (pt_cmpR op_ge (pv 3) (pv 1) (nomark _)))) (fun _ _ _ _ _ => (pv 2)))))), ?_⟩
  refine ⟨_, rfl, n, rfl, _, rfl, iteF ⟨_, rfl, _, _, rfl, rfl, _, rfl, iteNo (by omega) ?_⟩⟩
  obtain ⟨dx, h1, _⟩ := id hLot
  have hbig : (told (sumT [] (pcsT s M))).length ≤ 90000 := by
    have h1 := pcsT_len s hok
    have h2 := sumT_len (pcsT s M) []
    have h3 : M.length * 401 ≤ 200 * 401 := Nat.mul_le_mul hlen (Nat.le_refl _)
    rw [told_len]
    simp at h2
    omega
  refine ⟨_, rfl, a, dx, _, rfl, h1, lf_no _ _ (by decide +kernel) (by decide +kernel), a, tl, s, M, rfl, hLot, hlen, hok, hs, fun H1 l nl hS1 hR => ?_⟩
  generalize told (sumT [] (pcsT s M)) = N at hbig hR q
  obtain ⟨ts, hl, hP⟩ := hR
  refine ⟨l, rfl, ⟨_, SqL.of hl⟩, fun D nD => ?_⟩
  refine lc_list (K := K) (a := l) (xs := ts.map V.ref) (fun i H' => Same H1 H' ∧ H' D = some (.lst ((((N.take i).filter fun e => decide (e.2 ≥ (n : Int))).map Prod.fst).map V.str))) ⟨same_new nD _, upd_same⟩ (fun i H' _ ⟨hS', _⟩ => SqL.of (hS' _ _ hl)) ?_ ?_
  · rintro i x H2 hx ⟨hS2, hD⟩
    obtain ⟨p, e, rfl, he, hpe⟩ := si_at hP hx
    have hp2 : H2 p = some (.tup [.str e.1, .int e.2]) := hS2 _ _ hpe
    refine ⟨p, _, rfl, SqT.of hp2, rfl, _, _, rfl, _, _, rfl, rfl, rfl, ?_⟩
    refine ⟨_, rfl, _, rfl, _, _, rfl, rfl, _, rfl, ?_⟩
    by_cases c : e.2 ≥ (n : Int)
    · refine iteYes c ⟨_, rfl, _, hD, ?_, same_upd hS2 nD, ?_⟩
      · rw [List.length_map, List.length_map]
        refine Nat.lt_of_le_of_lt (Nat.le_trans (List.length_filter_le _ _) ?_) (show 90000 < sizeLine by decide)
        rw [List.length_take]
        omega
      · rw [upd_same, take_snoc he, List.filter_append, List.map_append, List.map_append, List.filter_cons_of_pos (by simpa using c)]
        rfl
    · refine iteNo c ⟨hS2, ?_⟩
      rw [hD, take_snoc he, List.filter_append, List.filter_cons_of_neg (by simpa using c), List.filter_nil, List.append_nil]
  · rintro H2 ⟨hS2, hD⟩
    rw [List.length_map, paired_len hP, List.take_length] at hD
    exact q H2 D (hS1.free nD) (hS1.trans hS2) hD
end
end My
namespace My
open PySem L2 PyProof.Rows
theorem eqv_e (e f : Str × Int) : PyData.eqv (encSI e) (encSI f) = decide (e = f) := by
  obtain ⟨x, n⟩ := e
  obtain ⟨y, m⟩ := f
  by_cases h : x = y
  · subst h
    by_cases k : n = m
    · subst k
      simp [encSI, PyData.eqv, PyData.eqvAll]
    · simp [encSI, PyData.eqv, PyData.eqvAll, k]
  · simp [encSI, PyData.eqv, PyData.eqvAll, h]
theorem eqvAll_si : ∀ M N : List (Str × Int), PyData.eqvAll (M.map encSI) (N.map encSI) = decide (M = N)
  | [], [] => rfl
  | [], _ :: _ => rfl
  | _ :: _, [] => rfl
  | e :: M, f :: N => by
    have ih := eqvAll_si M N
    show PyData.eqvAll (encSI e :: M.map encSI) (encSI f :: N.map encSI) = _
    rw [PyData.eqvAll, eqv_e, ih]
    by_cases h : e = f
    · subst h
      by_cases k : M = N
      · subst k; simp
      · simp [k]
    · simp [h]
theorem eqv_si (M N : List (Str × Int)) : PyData.eqv (.list (M.map encSI)) (.list (N.map encSI)) = decide (M = N) := by
  rw [PyData.eqv]
  exact eqvAll_si M N
section
variable {P : Program} {w : World} {K : PySem.W.Frag} {mg : Str → Option Value} {base : Heap} {C C2 : Addr}
def spLot___eq__ (_ : PySem.W.Frag) (C _ : Addr) : Sp := fun vs H Q _ => ∃ a tl s M b, vs = [.ref a, .ref b] ∧ LotAt C a tl s M H ∧
  ((∃ tb r N, LotAt C b tb r N H ∧ (∀ e ∈ M, OkT e.1) ∧ (∀ e ∈ N, OkT e.1) ∧ Q (.bl (decide (s = r ∧ M = N))) H) ∨ (∃ kvs, H b = some (.dK kvs) ∧ Q (.bl false) H))
theorem okLot___eq__ (D : DefM K C "__eq__" "Lot.__eq__" sLot___eq__ ["self", "other"]) (B : Bs mg) (Glb : Glo mg) (WK : WebK K mg C) (PK : KeepK K mg C2) :
    GoodM P w K mg base C "__eq__" "Lot.__eq__" sLot___eq__ ["self", "other"] 1 (spLot___eq__ K C C2) := by
  refine D.good fun f fd F => ?_
  refine F.ok scLot___eq__ (fun vs H Q E h => ?_) (fun cdv A outer s H vs Q E hr h => ?_)
  · obtain ⟨a, tl, s, M, b, rfl, hA, hB⟩ := h
    first | rfl | (rcases h with ⟨_, _, rfl, _⟩ | ⟨_, rfl, _⟩ <;> rfl)
  obtain ⟨a, tl, s, M, b, rfl, hA, hB⟩ := h
  refine ⟨_, (pss_one (ps_ret (pe_and (pe_callB call_isi (by rfl) B.isinstance (by decide +kernel) (pa_cons (pv 1) (pa_cons (pe_glob (v := .ref C) (by rfl) WK.mgC rfl) pa_nil))) (pe_and (pe_cmpR op_eq (pe_fld (pv 0) rfl) (pe_fld (pv 1) rfl) (nomark _)) (pe_one (pe_cmpR (op_eqD hr.units) (pe_fld (pv 0) rfl) (pe_fld (pv 1) rfl) (nomark _))))))), ?_⟩
  obtain ⟨dx, h1, h2⟩ := id hA
  rcases hB with ⟨tb, r, N, hB, hM, hN, q⟩ | ⟨kvs, hd, q⟩
  · obtain ⟨dy, k1, k2⟩ := id hB
    refine ⟨_, rfl, _, _, _, _, true, rfl, .own C, .base (.ins k1 WK.cl WK.i1 WK.i2 WK.i3 WK.i4), WK.i5, _, rfl, iteT ?_⟩
    refine ⟨_, rfl, a, C, dx, _, _, rfl, h1, WK.cl, WK.nS, lf_S _ _, _, rfl, b, C, dy, _, _, rfl, k1, WK.cl, WK.nS, lf_S _ _, rfl, _, rfl, ?_⟩
    by_cases c : s = r
    · refine iteYes (int_eq.mpr (by rw [c])) ?_
      refine ⟨_, rfl, a, C, dx, _, _, rfl, h1, WK.cl, WK.nT, lf_T _ _, _, rfl, b, C, dy, _, _, rfl, k1, WK.cl, WK.nT, lf_T _ _, _, _, dp_rd h2, dp_rd k2, shaped_si hM, shaped_si hN, ?_⟩
      rw [eqv_si]
      have e : decide (s = r ∧ M = N) = decide (M = N) := by simp [c]
      rw [e] at q
      exact q
    · refine iteNo (fun z => c (by have := int_eq.mp z; omega)) ?_
      have e : decide (s = r ∧ M = N) = false := by simp [c]
      rw [e] at q
      exact q
  · exact ⟨_, rfl, _, _, _, _, false, rfl, .own C, .base (.dK hd), WK.kd, _, rfl, iteF q⟩
/-- a text's number made less -/
def lessT (M : List (Str × Int)) (x : Str) (n : Int) : List (Str × Int) := (M.filter fun e => decide (e.1 ≠ x)) ++ (if getT M x > n then [(x, getT M x - n)] else [])
def spwithout_reading (_ : PySem.W.Frag) (C _ : Addr) : Sp := fun vs H Q _ => ∃ a tl s M x n, vs = [.ref a, .str x, .int n] ∧ LotAt C a tl s M H ∧ 2 ≤ s ∧ s ≤ 8 ∧ OkT x ∧ 1 ≤ n ∧ n ≤ 20 ∧ (M.map Prod.fst).Nodup ∧ M.length ≤ 59 ∧ n ≤ getT M x ∧ (∀ e ∈ lessT M x n, e.2 ≤ 1200) ∧ ∀ H' b tm, H b = none → H tm = none → Same H H' → LotAt C b tm s (told (lessT M x n)) H' → Q (.ref b) H'
theorem okwithout_reading (D : Def K mg "without_reading" swithout_reading ["lot", "text", "times"]) (B : Bs mg) (Glb : Glo mg) (WK : WebK K mg C) (PK : KeepK K mg C2)
    (hneed_lot : Good P w K mg base "need_lot" sneed_lot ["lot"] 3 (spneed_lot K C C2))
    (hneed_text : Good P w K mg base "need_text" sneed_text ["text"] 3 (spneed_text K C C2))
    (hneed_times : Good P w K mg base "need_times" sneed_times ["times"] 4 (spneed_times K C C2))
    (hlot_told : Good P w K mg base "lot_told" slot_told ["size", "told"] 7 (splot_told K C C2))
    (hLot_times_of : GoodM P w K mg base C "times_of" "Lot.times_of" sLot_times_of ["self", "text"] 4 (spLot_times_of K C C2))
    (hLot_size : GoodP P w K mg base C "size" "Lot.size" sLot_size ["self"] 1 (spLot_size K C C2))
    (hLot_readings : GoodM P w K mg base C "readings" "Lot.readings" sLot_readings ["self"] 1 (spLot_readings K C C2)) :
    Good P w K mg base "without_reading" swithout_reading ["lot", "text", "times"] 8 (spwithout_reading K C C2) := by
  refine D.good fun f fd F => ?_
  obtain ⟨fneed_lot, dneed_lot, Oneed_lot, mneed_lot, kneed_lot, bneed_lot, Fneed_lot⟩ := hneed_lot
  obtain ⟨fneed_text, dneed_text, Oneed_text, mneed_text, kneed_text, bneed_text, Fneed_text⟩ := hneed_text
  obtain ⟨fneed_times, dneed_times, Oneed_times, mneed_times, kneed_times, bneed_times, Fneed_times⟩ := hneed_times
  obtain ⟨flot_told, dlot_told, Olot_told, mlot_told, klot_told, blot_told, Flot_told⟩ := hlot_told
  obtain ⟨fLot_times_of, dLot_times_of, OLot_times_of, tLot_times_of, bLot_times_of, FLot_times_of⟩ := hLot_times_of
  obtain ⟨qLot_size, fLot_size, dLot_size, OLot_size, pLot_size, bLot_size⟩ := hLot_size
  obtain ⟨fLot_readings, dLot_readings, OLot_readings, tLot_readings, bLot_readings, FLot_readings⟩ := hLot_readings
  refine F.ok scwithout_reading (fun vs H Q E h => ?_) (fun cdv A outer s H vs Q E hr h => ?_)
  · obtain ⟨a, tl, s, M, x, n, rfl, hLot, hs1, hs2, hx, hn1, hn2, hnd, hlen, hle, hok, q⟩ := h
    first | rfl | (rcases h with ⟨_, _, rfl, _⟩ | ⟨_, rfl, _⟩ <;> rfl)
  obtain ⟨a, tl, s, M, x, n, rfl, hLot, hs1, hs2, hx, hn1, hn2, hnd, hlen, hle, hok, q⟩ := h
  refine ⟨_, (pss_cons (ps_expr (pe_call Oneed_lot (hr.mono (by decide)) rfl mneed_lot kneed_lot bneed_lot .nil pass0 (pa_cons (pv 0) pa_nil)))
  (pss_cons (ps_expr (pe_call Oneed_text (hr.mono (by decide)) rfl mneed_text kneed_text bneed_text .nil pass0 (pa_cons (pv 1) pa_nil)))
  (pss_cons (ps_expr (pe_call Oneed_times (hr.mono (by decide)) rfl mneed_times kneed_times bneed_times .nil pass0 (pa_cons (pv 2) pa_nil)))
  (pss_cons (ps_set (i := 3) scwithout_reading.nd rfl (by first | exact Or.inl rfl | exact Or.inr rfl) (pe_meth (pv 0) WK.cl tLot_times_of OLot_times_of (hr.mono (by decide)) bLot_times_of .nil pass0 (pa_cons (pv 1) pa_nil)))
  (pss_cons (ps_if (pt_cmpR op_eq (pv 3) pe_int (nomark _))
    (pss_one ps_never) pss_nil)
  (pss_cons (ps_if (pt_cmpR op_lt (pv 3) (pv 2) (nomark _))
    (pss_one ps_never) pss_nil)
  (pss_cons (ps_setLc (i := 4) (own := [("reading", 5)]) (g := gName 5) (by rfl) scwithout_reading.nd rfl rfl (sw_true rfl rfl rfl (by decide +kernel)) (pi_list (pe_meth0 (pv 0) WK.cl tLot_readings OLot_readings (hr.mono (by decide)) bLot_readings .nil pass0)) (blkOk_by (own := [("reading", 5)]) (N := ["lot", "text", "times", "read", "left", "reading"]) (sc := defScope swithout_reading) (by decide +kernel)) (fun _ _ _ _ _ => (pg_name (i := 5) scwithout_reading.nd rfl (by first | exact Or.inl rfl | exact Or.inr rfl))) (fun _ _ _ _ _ => (pts_one (pt_cmpR op_ne (pe_ix (ix_tupK (K := K) rfl) (pv 5) pe_int (by exact fun _ _ => rfl)) (pv 1) (nomark _)))) (fun _ _ _ _ _ => (pv 5)))
  (pss_cons (ps_if (pt_cmpR op_gt (pv 3) (pv 2) (nomark _))
    (pss_one (ps_expr (pe_bm PySem.F.plainAttrs_list PySem.F.slot_list_append PySem.F.type_list_append mt_append (pv 4) (pa_cons (pe_tup (pa_cons (pv 1) (pa_cons (pe_op op_sub (pv 3) (pv 2)) pa_nil))) pa_nil)))) pss_nil)
  (pss_one (ps_ret (pe_call Olot_told hr rfl mlot_told klot_told blot_told .nil pass0 (pa_cons (pe_prop (pv 0) WK.cl pLot_size OLot_size (hr.mono (by decide)) bLot_size .nil pass0 (by rfl)) (pa_cons (pv 4) pa_nil))))))))))))), ?_⟩
  obtain ⟨dx, h1, _⟩ := id hLot
  refine ⟨_, rfl, a, tl, s, M, rfl, hLot, _, rfl, x, rfl, hx, _, rfl, n, rfl, hn1, hn2, ?_⟩
  refine ⟨_, rfl, a, dx, _, rfl, h1, lf_no _ _ (by decide +kernel) (by decide +kernel), _, rfl, a, tl, s, M, x, rfl, hLot, hx, hnd, fun H1 hS1 => ?_⟩
  refine ⟨_, rfl, rfl, _, rfl, iteNo (fun z => by have := int_eq.mp z; omega) ?_⟩
  refine ⟨_, rfl, _, rfl, _, _, rfl, rfl, _, rfl, iteNo (by omega) ?_⟩
  obtain ⟨dx1, g1, _⟩ := id (hLot.same hS1)
  refine ⟨_, rfl, a, dx1, _, rfl, g1, lf_no _ _ (by decide +kernel) (by decide +kernel), a, tl, s, M, rfl, hLot.same hS1, fun H2 l nl hS2 ⟨ts, hl, hP⟩ => ?_⟩
  have hS02 := hS1.trans hS2
  refine ⟨l, rfl, ⟨_, SqL.of hl⟩, fun D nD => ?_⟩
  refine lc_list (K := K) (a := l) (xs := ts.map V.ref) (fun i H' => Same H2 H' ∧ RdAt H' D ((M.take i).filter fun e => decide (e.1 ≠ x))) ⟨same_new nD _, RdAt.nil⟩ (fun i H' _ ⟨hS', _⟩ => SqL.of (hS' _ _ hl)) ?_ ?_
  · rintro i v H3 hv ⟨hS3, us, hD, hU⟩
    obtain ⟨p, e, rfl, he, hpe⟩ := si_at hP hv
    have hp3 : H3 p = some (.tup [.str e.1, .int e.2]) := hS3 _ _ hpe
    refine ⟨rfl, _, rfl, _, _, _, .str e.1, rfl, rfl, SqT.of hp3, rfl, _, rfl, rfl, _, rfl, ?_⟩
    by_cases c : e.1 = x
    · refine iteNot' (by rw [c]) ⟨hS3, us, ?_, ?_⟩
      · exact hD
      · rw [take_snoc he, List.filter_append, List.filter_cons_of_neg (by simpa using c), List.filter_nil, List.append_nil]
        exact hU
    · refine iteNot (fun z => c (V.str.inj z)) ⟨_, rfl, _, hD, ?_, same_upd hS3 nD, us ++ [p], ?_, ?_⟩
      · rw [List.length_map, paired_len hU]
        refine Nat.lt_of_le_of_lt (Nat.le_trans (List.length_filter_le _ _) ?_) (show 100 < sizeLine by decide)
        rw [List.length_take]
        omega
      · rw [upd_same, List.map_append]
        rfl
      · rw [take_snoc he, List.filter_append, List.filter_cons_of_pos (by simpa using c), List.filter_nil]
        refine paired_end (paired_mono (fun q e hq => ?_) hU) ?_
        · have nq : q ≠ D := ne_of hq hD (by intro z; cases z)
          show upd _ _ _ q = _
          rw [upd_ne nq]
          exact hq
        · have np : p ≠ D := ne_of hp3 hD (by intro z; cases z)
          show upd _ _ _ p = _
          rw [upd_ne np]
          exact hp3
  rintro H3 ⟨hS3, hR⟩
  rw [List.length_map, paired_len hP, List.take_length] at hR
  have hS03 := hS02.trans hS3
  have nD0 : H D = none := hS02.free nD
  have hll : (lessT M x n).length ≤ 60 := by
    unfold lessT
    rw [List.length_append]
    have := List.length_filter_le (fun e : Str × Int => decide (e.1 ≠ x)) M
    split
    · show (M.filter fun e => decide (e.1 ≠ x)).length + 1 ≤ 60
      omega
    · show (M.filter fun e => decide (e.1 ≠ x)).length + 0 ≤ 60
      omega
  refine ⟨_, rfl, _, rfl, _, _, rfl, rfl, _, rfl, ?_⟩
  by_cases c : getT M x > n
  · refine iteYes c ?_
    obtain ⟨xs0, hxs0, _⟩ := hR.len
    refine ⟨_, rfl, .inl ⟨rfl, _, SqL.of hxs0⟩, _, rfl, _, rfl, _, rfl, _, _, rfl, rfl, (by show 2 ≤ sizeLine; decide), fun tp ntp => ?_⟩
    obtain ⟨xs, e1, e2, e3⟩ := hR.push (x := x) (n := getT M x - n) ntp
    have hfl := List.length_filter_le (fun e : Str × Int => decide (e.1 ≠ x)) M
    refine ⟨D, _, _, rfl, rfl, e1, by rw [e2]; exact Nat.lt_of_le_of_lt (by omega : _ ≤ 100) (by decide), ?_⟩
    have hS4 : Same H (upd (upd H3 tp (.tup [.str x, .int (getT M x - n)])) D (.lst (xs ++ [.ref tp]))) := same_upd (fun b o e => same_new ntp _ _ _ (hS03 _ _ e)) nD0
    generalize upd (upd H3 tp (.tup [.str x, .int (getT M x - n)])) D (.lst (xs ++ [.ref tp])) = H4 at e3 hS4
    have el : lessT M x n = (M.filter fun e => decide (e.1 ≠ x)) ++ [(x, getT M x - n)] := by unfold lessT; rw [if_pos c]
    obtain ⟨dx4, g4, _⟩ := id (hLot.same hS4)
    refine ⟨_, rfl, a, dx4, _, rfl, g4, a, tl, s, M, rfl, hLot.same hS4, _, rfl, s, D, lessT M x n, rfl, hs1, hs2, by rw [el]; exact e3, hll, hok, fun H5 b tm nb ntm hS5 hL5 => q H5 b tm (hS4.free nb) (hS4.free ntm) (hS4.trans hS5) hL5⟩
  · refine iteNo c ?_
    have el : lessT M x n = M.filter fun e => decide (e.1 ≠ x) := by unfold lessT; rw [if_neg c, List.append_nil]
    obtain ⟨dx4, g4, _⟩ := id (hLot.same hS03)
    refine ⟨_, rfl, a, dx4, _, rfl, g4, a, tl, s, M, rfl, hLot.same hS03, _, rfl, s, D, lessT M x n, rfl, hs1, hs2, by rw [el]; exact hR, hll, hok, fun H5 b tm nb ntm hS5 hL5 => q H5 b tm (hS03.free nb) (hS03.free ntm) (hS03.trans hS5) hL5⟩
end
end My
namespace My
open PySem L2 PyProof.Rows
theorem dT_some {x : Str} {D : List (Str × Int)} (h : x ∈ D.map Prod.fst) : valV (dT D) (Sum.inr x : Key) = some (.int (getT D x)) := by
  rw [dT_val]
  unfold getT
  cases e : D.find? fun e => decide (e.1 = x) with
  | none =>
    obtain ⟨f, hf, rfl⟩ := List.mem_map.mp h
    have := List.find?_eq_none.mp e f hf
    simp at this
  | some f => rfl
theorem keys_V (D : List (Str × Int)) : (dT D).map (fun kv => kV kv.1) = (D.map Prod.fst).map V.str := by
  unfold dT
  rw [List.map_map, List.map_map]
  rfl
theorem dp_strs {K : PySem.W.Frag} {H : Hp} : ∀ L : List Str, DpAll K H (L.map V.str) (L.map PyData.str)
  | [] => .nil
  | x :: r => .cons (.str x) (dp_strs r)
theorem strs_alike (L : List Str) : PySem.W.AllAlike (L.map PyData.str) := by
  intro d hd d' hd'
  obtain ⟨e, _, rfl⟩ := List.mem_map.mp hd
  obtain ⟨e', _, rfl⟩ := List.mem_map.mp hd'
  rfl
theorem strs_sortable (L : List Str) : PySem.W.Sortable (L.map PyData.str) := .others (enc := PyData.str) fun b => ⟨fun z => (by cases z), fun xs z => (by cases z)⟩
theorem strs_map (L : List Str) : (L.map PyData.str).mergeSort (PySem.W.dataLe false id) = (L.mergeSort leS).map PyData.str :=
  (List.map_mergeSort (f := PyData.str) (r := leS) (s := PySem.W.dataLe false id) (l := L) (fun a _ b _ => by rw [← dataLe_s]; rfl)).symm
theorem sorted_strs {L : List Str} : ∀ {zs : List V} {M : List Str}, Paired (fun (z : V) (d : PyData) => ∃ j : Nat, (L.map V.str)[j]? = some z ∧ (L.map PyData.str)[j]? = some d) zs (M.map PyData.str) → zs = M.map V.str
  | _, [], .nil => rfl
  | _, m :: M, .cons h t => by
    have := sorted_strs t
    obtain ⟨j, h1, h2⟩ := h
    obtain ⟨x, hx, rfl⟩ := str_at h1
    rw [List.getElem?_map, hx] at h2
    injection Option.some.inj h2 with h3
    rw [this, h3]
    rfl
section
variable {P : Program} {w : World} {K : PySem.W.Frag} {mg : Str → Option Value} {base : Heap} {C C2 : Addr}
end
end My
namespace My
open PySem L2 PyProof.Rows
theorem pc_len (x : Str) (s p : Nat) : (pc x s p).length = min (p + s) x.length - min p x.length := by
  have e : (p : Int) + (s : Int) = ((p + s : Nat) : Int) := by omega
  show (cutS x (some (p : Int)) (some ((p : Int) + (s : Int)))).length = _
  rw [e]
  show (((x.cps.toList.drop (HT.sIx x.length 0 (some (p : Int)))).take (HT.sIx x.length x.length (some ((p + s : Nat) : Int)) - HT.sIx x.length 0 (some (p : Int)))).toArray).size = _
  rw [HT.sIx_nat, HT.sIx_nat, List.size_toArray, List.length_take, List.length_drop, Array.length_toList]
  show min _ (x.length - _) = _
  omega
theorem pc_is (x : Str) (s p : Nat) (hp : p < x.length) : (pc x s p).length = s ↔ p + s ≤ x.length ∨ (s = x.length - p) := by
  rw [pc_len]
  omega
section
variable {P : Program} {w : World} {K : PySem.W.Frag} {mg : Str → Option Value} {base : Heap} {C C2 : Addr}
end
end My
namespace My
open PySem L2 PyProof.Rows
/-! ### the law's dicts -/
structure OkD (D : List (Str × Int)) (n v : Nat) : Prop where
  nd : (D.map Prod.fst).Nodup
  len : D.length ≤ n
  ok : ∀ e ∈ D, OkL e.1 ∧ 1 ≤ e.2 ∧ e.2 ≤ (v : Int)
theorem OkD.mono {D : List (Str × Int)} {n v m u : Nat} (h : OkD D n v) (h1 : n ≤ m) (h2 : v ≤ u) : OkD D m u :=
  ⟨h.nd, Nat.le_trans h.len h1, fun e he => ⟨(h.ok e he).1, (h.ok e he).2.1, by have := (h.ok e he).2.2; omega⟩⟩
theorem told_nd {D : List (Str × Int)} (h : (D.map Prod.fst).Nodup) : ((told D).map Prod.fst).Nodup := ((List.mergeSort_perm D _).map Prod.fst).nodup_iff.mpr h
theorem OkD.told {D : List (Str × Int)} {n v : Nat} (h : OkD D n v) : OkD (told D) n v :=
  ⟨told_nd h.nd, by rw [told_len]; exact h.len, fun e he => h.ok e (told_mem.mp he)⟩
theorem told_keys {D : List (Str × Int)} {x : Str} : x ∈ (told D).map Prod.fst ↔ x ∈ D.map Prod.fst := ((List.mergeSort_perm D _).map Prod.fst).mem_iff
theorem getT_none {D : List (Str × Int)} {x : Str} (h : x ∉ D.map Prod.fst) : getT D x = 0 := by
  unfold getT
  have : D.find? (fun e => decide (e.1 = x)) = none := List.find?_eq_none.mpr fun f hf => by
    simp only [decide_eq_true_eq]
    intro z
    exact h (List.mem_map.mpr ⟨f, hf, z⟩)
  rw [this]
  rfl
theorem getT_same {D E : List (Str × Int)} (hn : (D.map Prod.fst).Nodup) (kn : (E.map Prod.fst).Nodup) (h : ∀ e, e ∈ D ↔ e ∈ E) (x : Str) : getT D x = getT E x := by
  by_cases c : x ∈ D.map Prod.fst
  · obtain ⟨e, he, rfl⟩ := List.mem_map.mp c
    rw [getT_mem hn he, getT_mem kn ((h e).mp he)]
  · have c2 : x ∉ E.map Prod.fst := fun z => by
      obtain ⟨e, he, rfl⟩ := List.mem_map.mp z
      exact c (List.mem_map.mpr ⟨e, (h e).mpr he, rfl⟩)
    rw [getT_none c, getT_none c2]
theorem getT_told {D : List (Str × Int)} (hn : (D.map Prod.fst).Nodup) (x : Str) : getT (told D) x = getT D x := getT_same (told_nd hn) hn (fun _ => told_mem) x
theorem sumT_new : ∀ (L acc : List (Str × Int)), ((acc ++ L).map Prod.fst).Nodup → sumT acc L = acc ++ L
  | [], acc, _ => by rw [List.append_nil]; rfl
  | e :: r, acc, hn => by
    have hx : e.1 ∉ acc.map Prod.fst := fun z => by
      rw [List.map_append, List.nodup_append] at hn
      exact hn.2.2 e.1 z e.1 (by simp) rfl
    have ha : ∀ A : List (Str × Int), e.1 ∉ A.map Prod.fst → addT A e.1 e.2 = A ++ [e] := fun A => by
      induction A with
      | nil => intro _; rfl
      | cons f t ih =>
        intro h
        have h1 : ¬ f.1 = e.1 := fun z => h (by simp [z])
        unfold addT
        rw [if_neg h1, ih fun z => h (by simp at z ⊢; exact .inr z)]
        rfl
    show sumT (addT acc e.1 e.2) r = _
    rw [ha acc hx, sumT_new r (acc ++ [e]) (by rw [List.append_assoc]; exact hn), List.append_assoc]
    rfl
theorem sumT_own {D : List (Str × Int)} (h : (D.map Prod.fst).Nodup) : sumT [] D = D := by
  rw [sumT_new D [] h]
  rfl
theorem told_told {D : List (Str × Int)} (h : (D.map Prod.fst).Nodup) : told (told D) = told D := told_same (told_nd h) h fun _ => told_mem
theorem told_add {D : List (Str × Int)} (h : (D.map Prod.fst).Nodup) (x : Str) (n : Int) : told (sumT [] (told D ++ [(x, n)])) = told (addT D x n) := by
  rw [sumT_snoc, sumT_own (told_nd h)]
  refine told_get (addT_nodup (told_nd h)) (addT_nodup h) (fun y => ?_) fun y => ?_
  · rw [addT_mem, addT_mem, told_keys]
  · rw [addT_get, addT_get, getT_told h, getT_told h]
theorem addT_okv {x : Str} {n : Int} : ∀ {D : List (Str × Int)} {P : Str × Int → Prop}, (∀ e ∈ D, P e) → (∀ m, (x, m) ∈ D → P (x, m + n)) → P (x, n) → ∀ e ∈ addT D x n, P e
  | [], P, _, _, h => fun e he => by
    unfold addT at he
    rw [List.mem_singleton.mp he]
    exact h
  | f :: r, P, h0, h1, h2 => fun e he => by
    unfold addT at he
    split at he
    · rename_i c
      rcases List.mem_cons.mp he with z | z
      · rw [z, c]
        exact h1 f.2 (by rw [← c]; exact List.mem_cons_self)
      · exact h0 e (List.mem_cons_of_mem _ z)
    · rcases List.mem_cons.mp he with z | z
      · rw [z]
        exact h0 f List.mem_cons_self
      · exact addT_okv (fun e he => h0 e (List.mem_cons_of_mem _ he)) (fun m hm => h1 m (List.mem_cons_of_mem _ hm)) h2 e z
theorem OkD.add {D : List (Str × Int)} {n v m : Nat} {x : Str} {k : Int} (h : OkD D n v) (hx : OkL x) (h1 : 1 ≤ k) (h2 : k ≤ (m : Int)) : OkD (addT D x k) (n + 1) (v + m) := by
  refine ⟨addT_nodup h.nd, Nat.le_trans (addT_len _ _ _) (Nat.succ_le_succ h.len), addT_okv (fun e he => ?_) (fun j hj => ?_) ⟨hx, h1, by show k ≤ ((v + m : Nat) : Int); omega⟩⟩
  · obtain ⟨a, b, c⟩ := h.ok e he
    exact ⟨a, b, by omega⟩
  · obtain ⟨a, b, c⟩ := h.ok _ hj
    exact ⟨a, by show 1 ≤ j + k; have : 1 ≤ j := b; omega, by show j + k ≤ ((v + m : Nat) : Int); have : j ≤ (v : Int) := c; omega⟩
/-- no letter z is drawn -/
theorem no_zzzz {D : List (Str × Int)} {n v : Nat} (h : OkD D n v) : Str.ofString "zzzz" ∉ D.map Prod.fst := fun z => by
  obtain ⟨e, he, hx⟩ := List.mem_map.mp z
  have := (h.ok e he).1.few 122 (by rw [hx]; decide +kernel)
  omega
theorem zzzz_ok : OkT (Str.ofString "zzzz") := ⟨by decide +kernel, by decide +kernel⟩
/-! ### pieces are texts -/
theorem okT_pc {x : Str} (h : OkT x) (s p : Nat) : OkT (pc x s p) := by
  refine ⟨Nat.le_trans (cutS_length _ _ _) h.len, fun c hc => h.let_ c ?_⟩
  have : c ∈ ((x.cps.toList.drop (HT.sIx x.length 0 (some (p : Int)))).take (HT.sIx x.length x.length (some ((p : Int) + (s : Int))) - HT.sIx x.length 0 (some (p : Int)))) := by
    have e : (pc x s p).cps.toList = ((x.cps.toList.drop (HT.sIx x.length 0 (some (p : Int)))).take (HT.sIx x.length x.length (some ((p : Int) + (s : Int))) - HT.sIx x.length 0 (some (p : Int)))) := by
      show (List.toArray _).toList = _
      rw [List.toList_toArray]
    rw [← e]
    exact hc
  exact List.mem_of_mem_drop (List.mem_of_mem_take this)
theorem okT_pcsN {x : Str} (h : OkT x) (s : Nat) : ∀ n, ∀ y ∈ pcsN x s n, OkT y
  | 0 => fun y hy => by cases hy
  | n + 1 => fun y hy => by
    unfold pcsN at hy
    rcases List.mem_append.mp hy with z | z
    · exact okT_pcsN h s n y z
    · rw [List.mem_singleton.mp z]
      exact okT_pc h s n
theorem okT_pcsT {L : List (Str × Int)} (h : ∀ e ∈ L, OkT e.1) (s : Nat) : ∀ e ∈ pcsT s L, OkT e.1 := fun e he => by
  unfold pcsT at he
  obtain ⟨f, hf, hm⟩ := List.mem_flatMap.mp he
  obtain ⟨y, hy, rfl⟩ := List.mem_map.mp hm
  exact okT_pcsN (h f hf) s _ y hy
theorem sumT_keys : ∀ (L D : List (Str × Int)) (x : Str), x ∈ (sumT D L).map Prod.fst ↔ x ∈ D.map Prod.fst ∨ x ∈ L.map Prod.fst
  | [], D, x => by simp [sumT]
  | e :: r, D, x => by
    show x ∈ (sumT (addT D e.1 e.2) r).map Prod.fst ↔ _
    rw [sumT_keys r, addT_mem, List.map_cons, List.mem_cons, or_assoc]
theorem okT_sumT {L : List (Str × Int)} (h : ∀ e ∈ L, OkT e.1) : ∀ e ∈ sumT [] L, OkT e.1 := fun e he => by
  rcases (sumT_keys L [] e.1).mp (List.mem_map.mpr ⟨e, he, rfl⟩) with z | z
  · cases z
  · obtain ⟨f, hf, q⟩ := List.mem_map.mp z
    rw [← q]
    exact h f hf
/-! ### lists of texts compared -/
theorem layAll_st : ∀ {L : List Str}, (∀ e ∈ L, OkT e) → PyData.canLayAll0 (L.map PyData.str) = true
  | [], _ => rfl
  | e :: r, h => by
    show (PyData.canLay0 (.str e) && PyData.canLayAll0 (r.map PyData.str)) = true
    rw [layAll_st fun f hf => h f (List.mem_cons_of_mem _ hf)]
    have hx := okT_str (h e List.mem_cons_self)
    simp only [PyData.canLay0, Bool.and_true]
    exact hx
theorem depthAll_st : ∀ L : List Str, PyData.depthAll (L.map PyData.str) = 0
  | [] => rfl
  | e :: r => by
    show max (PyData.depth (.str e)) (PyData.depthAll (r.map PyData.str)) = 0
    rw [depthAll_st r]
    rfl
theorem lay_st {L : List Str} (h : ∀ e ∈ L, OkT e) : PyData.canLay0 (.list (L.map PyData.str)) = true := by
  unfold PyData.canLay0
  exact layAll_st h
theorem shaped_st {L : List Str} (h : ∀ e ∈ L, OkT e) : SeqAt.shaped (.list (L.map PyData.str)) = true := by
  unfold SeqAt.shaped
  have h2 : PyData.depth (.list (L.map PyData.str)) = 1 := by
    unfold PyData.depth
    rw [depthAll_st]
  rw [lay_st h, h2]
  rfl
theorem dp_st {K : PySem.W.Frag} {H : Hp} {p : Addr} {L : List Str} (h : H p = some (.lst (L.map V.str))) : Dp K H (.ref p) (.list (L.map PyData.str)) := .lst (SqL.of h) (dp_strs L)
theorem eqv_st {L : List Str} (h : ∀ e ∈ L, OkT e) : PyData.eqv (.list (L.map PyData.str)) (.list (L.map PyData.str)) = true := SeqAt.eqv_refl _ (lay_st h)
/-! ### dicts compared -/
def hitsT (E : List (Str × Int)) : List (Str × Int) → Bool
  | [] => true
  | e :: r => if e.1 ∈ E.map Prod.fst then (e.2 == getT E e.1) && hitsT E r else false
def eqT (D E : List (Str × Int)) : Bool := D.length == E.length && hitsT E D
theorem hitsT_iff {E : List (Str × Int)} (hn : (E.map Prod.fst).Nodup) : ∀ D : List (Str × Int), hitsT E D = true ↔ ∀ e ∈ D, e ∈ E
  | [] => by simp [hitsT]
  | e :: r => by
    unfold hitsT
    by_cases c : e.1 ∈ E.map Prod.fst
    · rw [if_pos c, Bool.and_eq_true, hitsT_iff hn r, List.forall_mem_cons, mem_get hn e]
      constructor
      · rintro ⟨a, b⟩
        exact ⟨⟨c, (beq_iff_eq.mp a).symm⟩, b⟩
      · rintro ⟨⟨_, a⟩, b⟩
        exact ⟨beq_iff_eq.mpr a.symm, b⟩
    · rw [if_neg c, List.forall_mem_cons]
      constructor
      · intro z; cases z
      · rintro ⟨a, _⟩
        exact absurd (List.mem_map.mpr ⟨e, a, rfl⟩) c
theorem nodup_of {D : List (Str × Int)} (h : (D.map Prod.fst).Nodup) : D.Nodup := List.Pairwise.of_map Prod.fst (fun a b hab z => hab (by rw [z])) h
theorem len_sub {α : Type} [DecidableEq α] : ∀ (D E : List α), D.Nodup → (∀ e ∈ D, e ∈ E) → D.length ≤ E.length
  | [], _, _, _ => Nat.zero_le _
  | d :: D, E, hn, h => by
    have hn' := List.nodup_cons.mp hn
    have hd := h d List.mem_cons_self
    have ih := len_sub D (E.erase d) hn'.2 fun e he => (List.mem_erase_of_ne (fun z => hn'.1 (by rw [← z]; exact he))).mpr (h e (List.mem_cons_of_mem _ he))
    have hl := List.length_erase_of_mem hd
    have h0 : 0 < E.length := List.length_pos_of_mem hd
    rw [List.length_cons]
    omega
theorem sub_all {α : Type} [DecidableEq α] {D E : List α} (hn : D.Nodup) (h : ∀ e ∈ D, e ∈ E) (hl : E.length ≤ D.length) : ∀ e ∈ E, e ∈ D := fun e he => by
  by_cases c : e ∈ D
  · exact c
  · have := len_sub (e :: D) E (List.nodup_cons.mpr ⟨c, hn⟩) fun f hf => by
      rcases List.mem_cons.mp hf with z | z
      · rw [z]; exact he
      · exact h f z
    rw [List.length_cons] at this
    omega
/-- the dicts are equal exactly if they are told alike -/
theorem eqT_told {D E : List (Str × Int)} (hn : (D.map Prod.fst).Nodup) (kn : (E.map Prod.fst).Nodup) : eqT D E = decide (told D = told E) := by
  have key : eqT D E = true ↔ told D = told E := by
    unfold eqT
    rw [Bool.and_eq_true, hitsT_iff kn]
    constructor
    · rintro ⟨a, b⟩
      refine told_same hn kn fun e => ⟨b e, fun he => ?_⟩
      exact sub_all (nodup_of hn) b (by rw [beq_iff_eq.mp a]; exact Nat.le_refl _) e he
    · intro h
      have hm : ∀ e, e ∈ D ↔ e ∈ E := fun e => by rw [← told_mem, h, told_mem]
      refine ⟨beq_iff_eq.mpr ?_, fun e he => (hm e).mp he⟩
      rw [← told_len D, h, told_len]
  by_cases c : told D = told E
  · rw [key.mpr c, decide_eq_true c]
  · rw [decide_eq_false c]
    cases z : eqT D E with
    | false => rfl
    | true => exact absurd (key.mp z) c
end My
namespace My
open PySem L2 PyProof.Rows
theorem dT_none {x : Str} {D : List (Str × Int)} (h : x ∉ D.map Prod.fst) : valV (dT D) (Sum.inr x : Key) = none := by
  rw [dT_val]
  have : D.find? (fun e => decide (e.1 = x)) = none := List.find?_eq_none.mpr fun f hf => by
    simp only [decide_eq_true_eq]
    intro z
    exact h (List.mem_map.mpr ⟨f, hf, z⟩)
  rw [this]
  rfl
theorem hits_T {A : Around} {s : Shared} {E : List (Str × Int)} {vb : List (Key × Value)} (rb : KV (dT E) vb) : ∀ {D : List (Str × Int)} {va : List (Key × Value)}, KV (dT D) va → PySem.W.KeqHits A s vb va (hitsT E D)
  | [], _, .nil => .nil
  | e :: r, _, @Paired.cons _ _ _ _ q _ qs h t => by
    obtain ⟨k, v⟩ := q
    have h1 : (Sum.inr e.1 : Key) = k := h.1
    obtain ⟨tk, hv⟩ : ∃ tk, v = Value.int e.2 tk := h.2
    subst h1
    subst hv
    have ih := hits_T (A := A) (s := s) rb (D := r) t
    have rr := rb.val (Sum.inr e.1 : Key)
    unfold hitsT
    by_cases c : e.1 ∈ E.map Prod.fst
    · rw [if_pos c]
      rw [dT_some c] at rr
      obtain ⟨y, hy, ry⟩ := rr.some_of
      obtain ⟨t2, rfl⟩ : ∃ t2, y = Value.int (getT E e.1) t2 := ry
      exact .hit hy (SeqAt.EqAt.int_int e.2 tk (getT E e.1) t2) ih
    · rw [if_neg c]
      rw [dT_none c] at rr
      have hn : PySem.valueAt vb (Sum.inr e.1 : Key) = none := by
        cases z : PySem.valueAt vb (Sum.inr e.1 : Key) with
        | none => rfl
        | some u => rw [z] at rr; exact rr.elim
      exact .miss hn
section
variable {X : Cx}
theorem op_eqT (hu : X.A.units < cLine) : OpR X (compareOp .Eq) (fun x y H Q => ∃ a b D E, x = .ref a ∧ y = .ref b ∧ H a = some (.dK (dT D)) ∧ H b = some (.dK (dT E)) ∧ Q (.bl (eqT D E)) H) := by
  intro pins s σ H x y v u Q I rx ry h
  obtain ⟨a, b, D, E, rfl, rfl, ea, eb, q⟩ := h
  obtain rfl : v = Value.ref a := rx
  obtain rfl : u = Value.ref b := ry
  obtain ⟨_, ya, va, ra, da⟩ := (show ObjOk X.prog X.w H s.heap a (.dK (dT D)) from I.hok a _ ea)
  obtain ⟨_, yb, vb, rb, db⟩ := (show ObjOk X.prog X.w H s.heap b (.dK (dT E)) from I.hok b _ eb)
  have hla : va.length = D.length := by rw [← ra.length, List.length_map]
  have hlb : vb.length = E.length := by rw [← rb.length, List.length_map]
  refine PySem.W.keq_eq (knd := mixKind X.prog X.w) (r := hitsT E D) ya yb da db hu (fun _ => hits_T rb ra) ?_
  rw [hla, hlb]
  exact fin_bl I q rfl
theorem op_neT (hu : X.A.units < cLine) : OpR X (compareOp .NotEq) (fun x y H Q => ∃ a b D E, x = .ref a ∧ y = .ref b ∧ H a = some (.dK (dT D)) ∧ H b = some (.dK (dT E)) ∧ Q (.bl (!(eqT D E))) H) := by
  intro pins s σ H x y v u Q I rx ry h
  obtain ⟨a, b, D, E, rfl, rfl, ea, eb, q⟩ := h
  obtain rfl : v = Value.ref a := rx
  obtain rfl : u = Value.ref b := ry
  obtain ⟨_, ya, va, ra, da⟩ := (show ObjOk X.prog X.w H s.heap a (.dK (dT D)) from I.hok a _ ea)
  obtain ⟨_, yb, vb, rb, db⟩ := (show ObjOk X.prog X.w H s.heap b (.dK (dT E)) from I.hok b _ eb)
  have hla : va.length = D.length := by rw [← ra.length, List.length_map]
  have hlb : vb.length = E.length := by rw [← rb.length, List.length_map]
  refine PySem.W.keq_ne (knd := mixKind X.prog X.w) (r := hitsT E D) ya yb da db hu (fun _ => hits_T rb ra) ?_
  rw [hla, hlb]
  exact fin_bl I q rfl
end
/-- over 20 -/
def over (D : List (Str × Int)) : List Int := (D.filter fun e => decide (e.2 > 20)).map fun _ => (1 : Int)
theorem over_snoc {D : List (Str × Int)} {i : Nat} {e : Str × Int} (h : D[i]? = some e) : over (D.take (i + 1)) = if e.2 > 20 then over (D.take i) ++ [1] else over (D.take i) := by
  unfold over
  rw [take_snoc h, List.filter_append]
  by_cases c : e.2 > 20
  · rw [if_pos c, List.filter_cons_of_pos (by simpa using c), List.map_append]
    rfl
  · rw [if_neg c, List.filter_cons_of_neg (by simpa using c), List.filter_nil, List.append_nil]
theorem over_len (D : List (Str × Int)) : (over D).length ≤ D.length := by
  unfold over
  rw [List.length_map]
  exact List.length_filter_le _ _
theorem over_nil {D : List (Str × Int)} : over D = [] ↔ ∀ e ∈ D, e.2 ≤ 20 := by
  unfold over
  rw [List.map_eq_nil_iff, List.filter_eq_nil_iff]
  constructor
  · intro h e he
    have := h e he
    simp at this
    exact this
  · intro h e he
    have := h e he
    simp
    exact this
section
variable {P : Program} {w : World} {K : PySem.W.Frag} {mg : Str → Option Value} {base : Heap} {C C2 : Addr}
end
end My
namespace My
open PySem L2 PyProof.Rows
theorem strs_depth {L : List Str} {e : PyData} (he : e ∈ L.map PyData.str) : e.depth ≤ 8 := by
  obtain ⟨x, _, rfl⟩ := List.mem_map.mp he
  show (0 : Nat) ≤ 8
  decide
theorem keys_len (D : List (Str × Int)) : ((D.map Prod.fst).mergeSort leS).length = D.length := by rw [(List.mergeSort_perm _ _).length_eq, List.length_map]
theorem inSeq_len (D : List (Str × Int)) : (inSeq D).length = D.length := by unfold inSeq; rw [List.length_map, keys_len]
theorem inSeq_at {D : List (Str × Int)} {i : Nat} {x : Str} (h : ((D.map Prod.fst).mergeSort leS)[i]? = some x) : (inSeq D)[i]? = some (x, getT D x) := by
  unfold inSeq
  rw [List.getElem?_map, h]
  rfl
theorem key_of {D : List (Str × Int)} {i : Nat} {x : Str} (h : ((D.map Prod.fst).mergeSort leS)[i]? = some x) : x ∈ D.map Prod.fst := (List.mergeSort_perm _ _).mem_iff.mp (List.mem_of_getElem? h)
/-- the solid ones of what is told -/
abbrev solidT (N : List (Str × Int)) (n : Nat) : List Str := (N.filter fun e => decide (e.2 ≥ (n : Int))).map Prod.fst
theorem least_at {i : Nat} {x : V} (h : ([V.int 1, V.int 2, V.int 5, V.int 21, V.int 60] : List V)[i]? = some x) : ∃ n : Nat, x = .int (n : Int) ∧ 1 ≤ n := by
  have : x ∈ [V.int 1, V.int 2, V.int 5, V.int 21, V.int 60] := List.mem_of_getElem? h
  simp only [List.mem_cons, List.not_mem_nil, or_false] at this
  rcases this with rfl | rfl | rfl | rfl | rfl
  · exact ⟨1, rfl, by decide⟩
  · exact ⟨2, rfl, by decide⟩
  · exact ⟨5, rfl, by decide⟩
  · exact ⟨21, rfl, by decide⟩
  · exact ⟨60, rfl, by decide⟩
section
variable {P : Program} {w : World} {K : PySem.W.Frag} {mg : Str → Option Value} {base : Heap} {C C2 : Addr}
end
end My
namespace My
open PySem L2 PyProof.Rows
abbrev dropT (D : List (Str × Int)) (x : Str) : List (Str × Int) := D.filter fun e => decide (e.1 ≠ x)
theorem drop_dT (D : List (Str × Int)) (x : Str) : dropK (dT D) (Sum.inr x : Key) = dT (dropT D x) := by
  unfold dropK dT
  rw [List.filter_map]
  refine congrArg (List.map entSI) (List.filter_congr fun e he => ?_)
  show decide (¬ (Sum.inr e.1 : Key) = Sum.inr x) = decide (e.1 ≠ x)
  by_cases c : e.1 = x
  · rw [c]; simp
  · have c2 : ¬ (Sum.inr e.1 : Key) = Sum.inr x := fun z => c (Sum.inr.inj z)
    rw [decide_eq_true c2, decide_eq_true c]
theorem dropT_keys {D : List (Str × Int)} {x y : Str} : y ∈ (dropT D x).map Prod.fst ↔ y ∈ D.map Prod.fst ∧ y ≠ x := by
  constructor
  · intro h
    obtain ⟨e, he, rfl⟩ := List.mem_map.mp h
    have := List.mem_filter.mp he
    exact ⟨List.mem_map.mpr ⟨e, this.1, rfl⟩, by simpa using this.2⟩
  · rintro ⟨h, n⟩
    obtain ⟨e, he, rfl⟩ := List.mem_map.mp h
    exact List.mem_map.mpr ⟨e, List.mem_filter.mpr ⟨he, by simpa using n⟩, rfl⟩
theorem dropT_nd {D : List (Str × Int)} {x : Str} (h : (D.map Prod.fst).Nodup) : ((dropT D x).map Prod.fst).Nodup := h.sublist (List.filter_sublist.map Prod.fst)
theorem dropT_get {D : List (Str × Int)} (h : (D.map Prod.fst).Nodup) {x y : Str} (n : y ≠ x) : getT (dropT D x) y = getT D y := by
  by_cases c : y ∈ D.map Prod.fst
  · obtain ⟨e, he, rfl⟩ := List.mem_map.mp c
    rw [getT_mem h he, getT_mem (dropT_nd h) (List.mem_filter.mpr ⟨he, by simpa using n⟩)]
  · rw [getT_none c, getT_none fun z => c (dropT_keys.mp z).1]
/-- what is left of a text's number -/
def leftT (D : List (Str × Int)) (x : Str) (n : Int) : List (Str × Int) := if getT D x - n = 0 then dropT D x else addT D x (-n)
theorem app_nd {D : List (Str × Int)} {x : Str} {n : Int} (h : (D.map Prod.fst).Nodup) (c : x ∉ D.map Prod.fst) : ((D ++ [(x, n)]).map Prod.fst).Nodup := by
  rw [List.map_append, List.nodup_append]
  refine ⟨h, by simp, fun a ha b hb => ?_⟩
  rw [List.map_cons, List.map_nil, List.mem_singleton] at hb
  rw [hb]
  rintro rfl
  exact c ha
theorem app_get {D : List (Str × Int)} {x y : Str} {n : Int} (c : x ∉ D.map Prod.fst) : getT (D ++ [(x, n)]) y = if y = x then n else getT D y := by
  unfold getT
  rw [List.find?_append]
  by_cases k : y = x
  · subst k
    have : D.find? (fun e => decide (e.1 = y)) = none := List.find?_eq_none.mpr fun f hf => by
      simp only [decide_eq_true_eq]
      intro z
      exact c (List.mem_map.mpr ⟨f, hf, z⟩)
    rw [if_pos rfl, this]
    simp
  · have k2 : ¬ x = y := fun z => k z.symm
    rw [if_neg k]
    cases D.find? (fun e => decide (e.1 = y)) with
    | some f => rfl
    | none => simp [k2]
theorem x_dropT {D : List (Str × Int)} {x : Str} : x ∉ (dropT D x).map Prod.fst := fun z => (dropT_keys.mp z).2 rfl
theorem lessT_nd {D : List (Str × Int)} {x : Str} {n : Int} (h : (D.map Prod.fst).Nodup) : ((lessT D x n).map Prod.fst).Nodup := by
  unfold lessT
  split
  · exact app_nd (dropT_nd h) x_dropT
  · rw [List.append_nil]
    exact dropT_nd h
theorem leftT_nd {D : List (Str × Int)} {x : Str} {n : Int} (h : (D.map Prod.fst).Nodup) : ((leftT D x n).map Prod.fst).Nodup := by
  unfold leftT
  split
  · exact dropT_nd h
  · exact addT_nodup h
theorem told_left {D : List (Str × Int)} (h : (D.map Prod.fst).Nodup) {x : Str} {n : Int} (hx : x ∈ D.map Prod.fst) (hn : n ≤ getT D x) : told (lessT (told D) x n) = told (leftT D x n) := by
  have hT := told_nd h
  refine told_get (lessT_nd hT) (leftT_nd h) (fun y => ?_) fun y => ?_
  · unfold lessT leftT
    rw [getT_told h]
    by_cases c : getT D x > n
    · rw [if_pos c, if_neg (by omega), List.map_append, List.mem_append, addT_mem, dropT_keys, told_keys]
      simp only [List.map_cons, List.map_nil, List.mem_singleton]
      constructor
      · rintro (⟨a, _⟩ | a)
        · exact .inl a
        · exact .inr a
      · rintro (a | a)
        · by_cases e : y = x
          · exact .inr e
          · exact .inl ⟨a, e⟩
        · exact .inr a
    · rw [if_neg c, if_pos (by omega), List.append_nil, dropT_keys, dropT_keys, told_keys]
  · unfold lessT leftT
    rw [getT_told h]
    by_cases c : getT D x > n
    · rw [if_pos c, if_neg (by omega), app_get x_dropT, addT_get]
      by_cases e : y = x
      · rw [if_pos e, if_pos e]
        omega
      · rw [if_neg e, if_neg e, dropT_get hT e, getT_told h]
    · rw [if_neg c, if_pos (by omega), List.append_nil]
      by_cases e : y = x
      · subst e
        rw [getT_none x_dropT, getT_none x_dropT]
      · rw [dropT_get hT e, dropT_get h e, getT_told h]
theorem getT_in {D : List (Str × Int)} {n v : Nat} (h : OkD D n v) {x : Str} (hx : x ∈ D.map Prod.fst) : OkL x ∧ 1 ≤ getT D x ∧ getT D x ≤ (v : Int) := by
  obtain ⟨e, he, rfl⟩ := List.mem_map.mp hx
  rw [getT_mem h.nd he]
  exact h.ok e he
theorem leftT_ok {D : List (Str × Int)} {n v : Nat} (h : OkD D n v) {x : Str} {k : Int} (hx : x ∈ D.map Prod.fst) (h1 : 1 ≤ k) (h2 : k ≤ getT D x) : OkD (leftT D x k) n v := by
  obtain ⟨a1, a2, a3⟩ := getT_in h hx
  refine ⟨leftT_nd h.nd, ?_, ?_⟩
  · unfold leftT
    split
    · exact Nat.le_trans (List.length_filter_le _ _) h.len
    · have := congrArg List.length (addT_keys x (-k) D)
      rw [List.length_map, if_pos hx, List.length_map] at this
      rw [this]
      exact h.len
  · unfold leftT
    split
    · exact fun e he => h.ok e (List.mem_filter.mp he).1
    · rename_i c
      refine fun e he => ?_
      by_cases q : e.1 = x
      · have := getT_mem (addT_nodup h.nd) he
        rw [q, addT_get, if_pos rfl] at this
        rw [q, ← this]
        exact ⟨a1, by omega, by omega⟩
      · have hk : e.1 ∈ D.map Prod.fst := by
          rcases addT_mem.mp (List.mem_map.mpr ⟨e, he, rfl⟩) with z | z
          · exact z
          · exact absurd z q
        have := getT_mem (addT_nodup h.nd) he
        rw [addT_get, if_neg q] at this
        rw [← this]
        exact getT_in h hk
theorem lessT_le {D : List (Str × Int)} {n v : Nat} (h : OkD D n v) {x : Str} {k : Int} (h1 : 1 ≤ k) : ∀ e ∈ lessT D x k, e.2 ≤ (v : Int) := fun e he => by
  unfold lessT at he
  rcases List.mem_append.mp he with z | z
  · exact (h.ok e (List.mem_filter.mp z).1).2.2
  · split at z
    · rename_i c
      rw [List.mem_singleton.mp z]
      show getT D x - k ≤ (v : Int)
      by_cases hx : x ∈ D.map Prod.fst
      · have := (getT_in h hx).2.2
        omega
      · rw [getT_none hx]
        omega
    · cases z
theorem LotAt.kept {C a tl p : Addr} {s : Nat} {M : List (Str × Int)} {H H' : Hp} (h : LotAt C a tl s M H) (k : Kept p H H') (hp : PotAt H p) (hn : tl ≠ p) : LotAt C a tl s M H' := by
  obtain ⟨dx, h1, h2⟩ := h
  obtain ⟨x, y, e, _⟩ := id hp
  exact ⟨dx, k _ _ h1 (ne_of h1 e (by intro q; cases q)), h2.kept k hp hn⟩
theorem PotAt.ndk {H : Hp} {a d : Addr} {kvs : List (Key × V)} (h : PotAt H a) (hd : H d = some (.dK kvs)) : d ≠ a := by
  obtain ⟨x, y, e, _⟩ := h
  exact ne_of hd e (by intro q; cases q)
end My
set_option maxHeartbeats 4000000
namespace My
open PySem L2 PyProof.Rows
/-! ### deeds -/
abbrev Deed := Bool × Str × Int
def dk (b : Bool) : Str := if b = true then Str.ofString "added" else Str.ofString "taken"
def stepD (e : Deed) (D : List (Str × Int)) : List (Str × Int) := if e.1 = true then addT D e.2.1 e.2.2 else leftT D e.2.1 e.2.2
def runD (Ds : List Deed) : List (Str × Int) := Ds.foldl (fun D e => stepD e D) []
abbrev st (Ds : List Deed) (i : Nat) : List (Str × Int) := runD (Ds.take i)
structure OkE (e : Deed) (D : List (Str × Int)) : Prop where
  t : OkL e.2.1
  n1 : 1 ≤ e.2.2
  n2 : e.2.2 ≤ 20
  k : e.1 = false → e.2.1 ∈ D.map Prod.fst ∧ e.2.2 ≤ getT D e.2.1
structure OkK (Ds : List Deed) : Prop where
  len : Ds.length ≤ 40
  ok : ∀ j e, Ds[j]? = some e → OkE e (st Ds j)
  l6 : ∀ e ∈ Ds, e.2.1.length ≤ 6
theorem st_succ {Ds : List Deed} {j : Nat} {e : Deed} (h : Ds[j]? = some e) : st Ds (j + 1) = stepD e (st Ds j) := by
  show runD (Ds.take (j + 1)) = _
  rw [List.take_succ, h]
  unfold runD
  rw [List.foldl_append]
  rfl
theorem st_zero (Ds : List Deed) : st Ds 0 = [] := rfl
theorem okD_step {e : Deed} {D : List (Str × Int)} {n v : Nat} (h : OkD D n v) (k : OkE e D) : OkD (stepD e D) (n + 1) (v + 20) := by
  unfold stepD
  split
  · exact h.add k.t k.n1 k.n2
  · rename_i c
    obtain ⟨k1, k2⟩ := k.k (by simpa using c)
    exact (leftT_ok h k1 k.n1 k2).mono (Nat.le_succ _) (by omega)
theorem okD_st {Ds : List Deed} (h : OkK Ds) : ∀ i, i ≤ Ds.length → OkD (st Ds i) i (20 * i)
  | 0, _ => ⟨by simp [runD], by simp [runD], fun e he => by simp [runD] at he⟩
  | i + 1, hi => by
    have e := List.getElem?_eq_getElem (l := Ds) (i := i) (by omega)
    rw [st_succ e]
    exact okD_step (okD_st h i (by omega)) (h.ok _ _ e)
theorem st_take {Ds : List Deed} {d i : Nat} (h : i ≤ d) : st (Ds.take d) i = st Ds i := by
  show runD ((Ds.take d).take i) = _
  rw [List.take_take, Nat.min_eq_left h]
theorem st_app {Ds Es : List Deed} {i : Nat} (h : i ≤ Ds.length) : st (Ds ++ Es) i = st Ds i := by
  show runD ((Ds ++ Es).take i) = _
  rw [List.take_append_of_le_length h]
/-- a deed done -/
def doneD (Ds : List Deed) (d : Nat) (e : Deed) : List Deed := Ds.take d ++ [e]
theorem doneD_len {Ds : List Deed} {d : Nat} {e : Deed} (h : d ≤ Ds.length) : (doneD Ds d e).length = d + 1 := by
  unfold doneD
  rw [List.length_append, List.length_take, Nat.min_eq_left h]
  rfl
theorem doneD_at {Ds : List Deed} {d : Nat} {e : Deed} (h : d ≤ Ds.length) : (doneD Ds d e)[d]? = some e := by
  unfold doneD
  rw [List.getElem?_append_right (by rw [List.length_take]; omega), List.length_take, Nat.min_eq_left h, Nat.sub_self]
  rfl
theorem doneD_st {Ds : List Deed} {d i : Nat} {e : Deed} (h : d ≤ Ds.length) (hi : i ≤ d) : st (doneD Ds d e) i = st Ds i := by
  unfold doneD
  rw [st_app (by rw [List.length_take]; omega), st_take hi]
theorem doneD_last {Ds : List Deed} {d : Nat} {e : Deed} (h : d ≤ Ds.length) : st (doneD Ds d e) (d + 1) = stepD e (st Ds d) := by
  rw [st_succ (doneD_at h), doneD_st h (Nat.le_refl _)]
theorem doneD_ok {Ds : List Deed} {d : Nat} {e : Deed} (h : OkK Ds) (hd : d ≤ Ds.length) (hl : d < 40) (he : OkE e (st Ds d)) (h6 : e.2.1.length ≤ 6) : OkK (doneD Ds d e) := by
  refine ⟨by rw [doneD_len hd]; omega, fun j f hf => ?_, fun f hf => ?_⟩
  rotate_left
  · unfold doneD at hf
    rcases List.mem_append.mp hf with z | z
    · exact h.l6 f (List.mem_of_mem_take z)
    · rw [List.mem_singleton.mp z]
      exact h6
  have hj := (List.getElem?_eq_some_iff.mp hf).1
  rw [doneD_len hd] at hj
  rw [doneD_st hd (by omega)]
  by_cases c : j = d
  · subst c
    rw [doneD_at hd] at hf
    cases hf
    exact he
  · unfold doneD at hf
    rw [List.getElem?_append_left (by rw [List.length_take]; omega), List.getElem?_take, if_pos (by omega)] at hf
    exact h.ok j f hf
/-! ### the heap without what is changed -/
noncomputable def wo (N : Addr → Prop) (H : Hp) : Hp := fun b => by
  classical
  exact if N b then none else H b
theorem wo_of {N : Addr → Prop} {H : Hp} {b : Addr} (h : ¬ N b) : wo N H b = H b := by
  unfold wo
  rw [if_neg h]
theorem wo_in {N : Addr → Prop} {H : Hp} {b : Addr} (h : N b) : wo N H b = none := by
  unfold wo
  rw [if_pos h]
theorem wo_same {N : Addr → Prop} {H : Hp} : Same (wo N H) H := fun b u e => by
  by_cases c : N b
  · rw [wo_in c] at e
    cases e
  · rwa [wo_of c] at e
theorem wo_get {N : Addr → Prop} {H : Hp} {b : Addr} {u : HO} (h : wo N H b = some u) : ¬ N b := fun c => by
  rw [wo_in c] at h
  cases h
theorem wo_frame {N : Addr → Prop} {H H' : Hp} (h : ∀ b u, ¬ N b → H b = some u → H' b = some u) : Same (wo N H) (wo N H') := fun b u e => by
  have c := wo_get e
  rw [wo_of c] at e ⊢
  exact h b u c e
theorem wo_more {N M : Addr → Prop} {H : Hp} (h : ∀ b, M b → N b ∨ H b = none) : Same (wo N H) (wo M H) := fun b u e => by
  have c := wo_get e
  rw [wo_of c] at e
  rw [wo_of]
  · exact e
  · intro m
    rcases h b m with z | z
    · exact c z
    · rw [z] at e
      cases e
/-- what is changed: known things, no tuples, no lots -/
def NOk (N : Addr → Prop) (H : Hp) : Prop := ∀ b, N b → ∃ u, H b = some u ∧ ∀ xs, u ≠ .tup xs
theorem NOk.new {N : Addr → Prop} {H : Hp} {p : Addr} (h : NOk N H) (hp : H p = none) : ¬ N p := fun c => by
  obtain ⟨u, e, _⟩ := h p c
  rw [hp] at e
  cases e
theorem NOk.tup {N : Addr → Prop} {H : Hp} {p : Addr} {xs : List V} (h : NOk N H) (hp : H p = some (.tup xs)) : ¬ N p := fun c => by
  obtain ⟨u, e, k⟩ := h p c
  rw [hp] at e
  exact k xs (Option.some.inj e).symm
theorem NOk.same {N : Addr → Prop} {H H' : Hp} (h : NOk N H) (s : Same H H') : NOk N H' := fun b c => by
  obtain ⟨u, e, k⟩ := h b c
  exact ⟨u, s _ _ e, k⟩
/-! ### a keeper -/
def DeedAt (H : Hp) (p : Addr) (e : Deed) : Prop := H p = some (.tup [.str (dk e.1), .str e.2.1, .int e.2.2])
def kf (s m : Nat) (lp dp : Addr) (d : Nat) (kp : Addr) : List (Str × V) := [(("_size" : Str), .int (s : Int)), ("_least", .int (m : Int)), ("_lots", .ref lp), ("_deeds", .ref dp), ("_done", .int (d : Int)), ("_kept", .ref kp), ("_reckoned", .int 0)]
def KeepAt (C C2 k : Addr) (s m : Nat) (Ds : List Deed) (d : Nat) (H : Hp) : Prop := ∃ dx lp dp kp, ∃ las das : List Addr, H k = some (.ins C2 dx (kf s m lp dp d kp)) ∧ H lp = some (.lst (las.map V.ref)) ∧ las.length = Ds.length + 1 ∧ (∀ (i : Nat) (a : Addr), las[i]? = some a → ∃ tl, LotAt C a tl s (told (st Ds i)) H) ∧
  H dp = some (.lst (das.map V.ref)) ∧ Paired (DeedAt H) das Ds ∧ H kp = some (.dK [])
theorem KeepAt.same {C C2 k : Addr} {s m : Nat} {Ds : List Deed} {d : Nat} {H H' : Hp} (h : KeepAt C C2 k s m Ds d H) (hs : Same H H') : KeepAt C C2 k s m Ds d H' := by
  obtain ⟨dx, lp, dp, kp, las, das, h1, h2, h3, h4, h5, h6, h7⟩ := h
  exact ⟨dx, lp, dp, kp, las, das, hs _ _ h1, hs _ _ h2, h3, fun i a e => by
    obtain ⟨tl, h⟩ := h4 i a e
    exact ⟨tl, h.same hs⟩, hs _ _ h5, paired_mono (fun p e h => hs _ _ h) h6, hs _ _ h7⟩
theorem lot_wo {C b tm : Addr} {s : Nat} {M : List (Str × Int)} {N : Addr → Prop} {H : Hp} (h : LotAt C b tm s M H) (nb : ¬ N b) (nt : ¬ N tm) (hN : NOk N H) : LotAt C b tm s M (wo N H) := by
  obtain ⟨dx, h1, ts, h2, h3⟩ := h
  exact ⟨dx, by rw [wo_of nb]; exact h1, ts, by rw [wo_of nt]; exact h2, paired_mono (fun p e hp => by
    show wo N H p = _
    rw [wo_of (hN.tup hp)]
    exact hp) h3⟩
theorem kf_0 (s m : Nat) (lp dp : Addr) (d : Nat) (kp : Addr) : (kf s m lp dp d kp).lookup ("_size" : Str) = some (.int (s : Int)) := rfl
theorem kf_1 (s m : Nat) (lp dp : Addr) (d : Nat) (kp : Addr) : (kf s m lp dp d kp).lookup ("_least" : Str) = some (.int (m : Int)) := rfl
theorem kf_2 (s m : Nat) (lp dp : Addr) (d : Nat) (kp : Addr) : (kf s m lp dp d kp).lookup ("_lots" : Str) = some (.ref lp) := rfl
theorem kf_3 (s m : Nat) (lp dp : Addr) (d : Nat) (kp : Addr) : (kf s m lp dp d kp).lookup ("_deeds" : Str) = some (.ref dp) := rfl
theorem kf_4 (s m : Nat) (lp dp : Addr) (d : Nat) (kp : Addr) : (kf s m lp dp d kp).lookup ("_done" : Str) = some (.int (d : Int)) := rfl
theorem kf_5 (s m : Nat) (lp dp : Addr) (d : Nat) (kp : Addr) : (kf s m lp dp d kp).lookup ("_kept" : Str) = some (.ref kp) := rfl
theorem kf_6 (s m : Nat) (lp dp : Addr) (d : Nat) (kp : Addr) : (kf s m lp dp d kp).lookup ("_reckoned" : Str) = some (.int 0) := rfl
theorem kf_no (s m : Nat) (lp dp : Addr) (d : Nat) (kp : Addr) {x : Str} (h : x ∉ (["_size", "_least", "_lots", "_deeds", "_done", "_kept", "_reckoned"] : List Str)) : (kf s m lp dp d kp).lookup x = none := by
  simp only [List.mem_cons, List.not_mem_nil, or_false, not_or] at h
  obtain ⟨h0, h1, h2, h3, h4, h5, h6⟩ := h
  have key : ∀ {y : Str}, ¬ x = y → (x == y) = false := fun {y} h => by simpa using h
  unfold kf
  simp only [List.lookup, key h0, key h1, key h2, key h3, key h4, key h5, key h6]
theorem kf_done (s m : Nat) (lp dp : Addr) (d e : Nat) (kp : Addr) : putF "_done" (.int (e : Int)) (kf s m lp dp d kp) = kf s m lp dp e kp := rfl
theorem kf_lots (s m : Nat) (lp lq dp : Addr) (d : Nat) (kp : Addr) : putF "_lots" (.ref lq) (kf s m lp dp d kp) = kf s m lq dp d kp := rfl
theorem kf_deeds (s m : Nat) (lp dp dq : Addr) (d : Nat) (kp : Addr) : putF "_deeds" (.ref dq) (kf s m lp dp d kp) = kf s m lp dq d kp := rfl
theorem kf_kept (s m : Nat) (lp dp : Addr) (d : Nat) (kp kq : Addr) : putF "_kept" (.ref kq) (kf s m lp dp d kp) = kf s m lp dp d kq := rfl
theorem kf_reck (s m : Nat) (lp dp : Addr) (d : Nat) (kp : Addr) : putF "_reckoned" (.int 0) (kf s m lp dp d kp) = kf s m lp dp d kp := rfl
end My
set_option maxHeartbeats 4000000
namespace My
open PySem L2 PyProof.Rows
theorem cutV_to {xs : List V} {k : Nat} : cutV xs none (some (k : Int)) = xs.take k := by
  unfold cutV
  rw [HT.sIx_nat, HT.sIx_none, List.drop_zero, Nat.sub_zero]
  rcases Nat.le_total k xs.length with h | h
  · rw [Nat.min_eq_left h]
  · rw [Nat.min_eq_right h, List.take_of_length_le h, List.take_of_length_le (Nat.le_refl _)]
theorem paired_take {α β : Type} {F : α → β → Prop} : ∀ {l1 : List α} {l2 : List β} (k : Nat), Paired F l1 l2 → Paired F (l1.take k) (l2.take k)
  | _, _, 0, _ => .nil
  | _, _, _ + 1, .nil => .nil
  | _, _, k + 1, .cons r t => .cons r (paired_take k t)
theorem paired_snoc {α β : Type} {F : α → β → Prop} {a : α} {b : β} : ∀ {l1 : List α} {l2 : List β}, Paired F l1 l2 → F a b → Paired F (l1 ++ [a]) (l2 ++ [b])
  | _, _, .nil, h => .cons h .nil
  | _, _, .cons r t, h => .cons r (paired_snoc t h)
theorem lf_none (s : Nat) (tl : Addr) {m : Str} (h1 : ¬ m = "_told") (h2 : ¬ m = "_size") : (lf s tl).lookup m = none := by
  unfold lf
  rw [lookup_putF, if_neg h1, lookup_putF, if_neg h2]
  rfl
theorem LotAt.keptI {C C2 b k tl dx : Addr} {s : Nat} {M : List (Str × Int)} {H H' : Hp} {fs : List (Str × V)} (h : LotAt C b tl s M H) (hK : Kept k H H') (hk : H k = some (.ins C2 dx fs)) (nb : b ≠ k) : LotAt C b tl s M H' := by
  obtain ⟨dy, h1, ts, h2, h3⟩ := h
  exact ⟨dy, hK _ _ h1 nb, ts, hK _ _ h2 (ne_of h2 hk (by intro z; cases z)), paired_mono (fun p e hp => hK _ _ hp (ne_of hp hk (by intro z; cases z))) h3⟩
theorem NOk.kept {N : Addr → Prop} {H H' : Hp} {k : Addr} (h : NOk N H) (hK : Kept k H H') (nk : ¬ N k) : NOk N H' := fun b c => by
  obtain ⟨u, e, q⟩ := h b c
  exact ⟨u, hK _ _ e (fun z => nk (z ▸ c)), q⟩
theorem none_back {H H' : Hp} {k p : Addr} (hK : Kept k H H') (n : p ≠ k) (h : H' p = none) : H p = none := by
  cases z : H p with
  | none => rfl
  | some o =>
    have := hK _ _ z n
    rw [h] at this
    cases this
theorem small100 {n : Nat} (h : n ≤ 100) : n ≤ sizeLine := Nat.le_trans h (by decide)
section
variable {P : Program} {w : World} {K : PySem.W.Frag} {mg : Str → Option Value} {base : Heap} {C C2 : Addr}
def spKeeper__now (_ : PySem.W.Frag) (C C2 : Addr) : Sp := fun vs H Q _ => ∃ k s m Ds d, vs = [.ref k] ∧ KeepAt C C2 k s m Ds d H ∧ d ≤ Ds.length ∧ ∀ a tl, LotAt C a tl s (told (st Ds d)) H → Q (.ref a) H
theorem okKeeper__now (D : DefM K C2 "_now" "Keeper._now" sKeeper__now ["self"]) (B : Bs mg) (Glb : Glo mg) (WK : WebK K mg C) (PK : KeepK K mg C2) :
    GoodM P w K mg base C2 "_now" "Keeper._now" sKeeper__now ["self"] 1 (spKeeper__now K C C2) := by
  refine D.good fun f fd F => ?_
  refine F.ok scKeeper__now (fun vs H Q E h => ?_) (fun cdv A outer s H vs Q E hr h => ?_)
  · obtain ⟨k, s, m, Ds, d, rfl, ⟨dx, lp, dp, kp, las, das, h1, h2, h3, h4, h5, h6, h7⟩, hd, q⟩ := h
    first | rfl | (rcases h with ⟨_, _, rfl, _⟩ | ⟨_, rfl, _⟩ <;> rfl)
  obtain ⟨k, s, m, Ds, d, rfl, ⟨dx, lp, dp, kp, las, das, h1, h2, h3, h4, h5, h6, h7⟩, hd, q⟩ := h
  refine ⟨_, (pss_one (ps_ret (pe_ix ix_list (pe_fld (pv 0) rfl) (pe_fld (pv 0) rfl) (fun _ _ => rfl)))), ?_⟩
  have e := List.getElem?_eq_getElem (l := las) (i := d) (by omega)
  obtain ⟨tl, hL⟩ := h4 d _ e
  refine ⟨_, rfl, k, C2, dx, _, _, rfl, h1, PK.cl, PK.n2, kf_2 .., _, rfl, k, C2, dx, _, _, rfl, h1, PK.cl, PK.n4, kf_4 .., _, _, _, _, rfl, rfl, SqL.of h2, atI_nat (by rw [List.getElem?_map, e]; rfl), q _ tl hL⟩
def spKeeper_lot (_ : PySem.W.Frag) (C C2 : Addr) : Sp := fun vs H Q _ => ∃ k s m Ds d, vs = [.ref k] ∧ KeepAt C C2 k s m Ds d H ∧ d ≤ Ds.length ∧ ∀ a tl, LotAt C a tl s (told (st Ds d)) H → Q (.ref a) H
theorem okKeeper_lot (D : DefM K C2 "lot" "Keeper.lot" sKeeper_lot ["self"]) (B : Bs mg) (Glb : Glo mg) (WK : WebK K mg C) (PK : KeepK K mg C2)
    (hKeeper__now : GoodM P w K mg base C2 "_now" "Keeper._now" sKeeper__now ["self"] 1 (spKeeper__now K C C2)) :
    GoodM P w K mg base C2 "lot" "Keeper.lot" sKeeper_lot ["self"] 3 (spKeeper_lot K C C2) := by
  refine D.good fun f fd F => ?_
  obtain ⟨fKeeper__now, dKeeper__now, OKeeper__now, tKeeper__now, bKeeper__now, FKeeper__now⟩ := hKeeper__now
  refine F.ok scKeeper_lot (fun vs H Q E h => ?_) (fun cdv A outer s H vs Q E hr h => ?_)
  · obtain ⟨k, s, m, Ds, d, rfl, hK, hd, q⟩ := h
    first | rfl | (rcases h with ⟨_, _, rfl, _⟩ | ⟨_, rfl, _⟩ <;> rfl)
  obtain ⟨k, s, m, Ds, d, rfl, hK, hd, q⟩ := h
  refine ⟨_, (pss_one (ps_ret (pe_meth0 (pv 0) PK.cl tKeeper__now OKeeper__now (hr.mono (by decide)) bKeeper__now .nil pass0))), ?_⟩
  obtain ⟨dx, lp, dp, kp, las, das, h1, h2, h3, h4, h5, h6, h7⟩ := id hK
  exact ⟨_, rfl, k, dx, _, rfl, h1, kf_no _ _ _ _ _ _ (by decide), k, s, m, Ds, d, rfl, hK, hd, q⟩
def spKeeper_size (_ : PySem.W.Frag) (C C2 : Addr) : Sp := fun vs H Q _ => ∃ k s m Ds d, vs = [.ref k] ∧ KeepAt C C2 k s m Ds d H ∧ Q (.int ((s : Nat) : Int)) H
theorem okKeeper_size (D : DefP K C2 "size" "Keeper.size" sKeeper_size ["self"]) (B : Bs mg) (Glb : Glo mg) (WK : WebK K mg C) (PK : KeepK K mg C2) :
    GoodP P w K mg base C2 "size" "Keeper.size" sKeeper_size ["self"] 1 (spKeeper_size K C C2) := by
  refine D.good fun f fd F => ?_
  refine F.ok scKeeper_size (fun vs H Q E h => ?_) (fun cdv A outer s H vs Q E hr h => ?_)
  · obtain ⟨k, s, m, Ds, d, rfl, ⟨dx, lp, dp, kp, las, das, h1, h2, h3, h4, h5, h6, h7⟩, q⟩ := h
    first | rfl | (rcases h with ⟨_, _, rfl, _⟩ | ⟨_, rfl, _⟩ <;> rfl)
  obtain ⟨k, s, m, Ds, d, rfl, ⟨dx, lp, dp, kp, las, das, h1, h2, h3, h4, h5, h6, h7⟩, q⟩ := h
  refine ⟨_, (pss_one (ps_ret (pe_fld (pv 0) rfl))), ?_⟩
  exact ⟨_, rfl, k, C2, dx, _, _, rfl, h1, PK.cl, PK.n0, kf_0 .., q⟩
def spKeeper_least (_ : PySem.W.Frag) (C C2 : Addr) : Sp := fun vs H Q _ => ∃ k s m Ds d, vs = [.ref k] ∧ KeepAt C C2 k s m Ds d H ∧ Q (.int ((m : Nat) : Int)) H
theorem okKeeper_least (D : DefM K C2 "least" "Keeper.least" sKeeper_least ["self"]) (B : Bs mg) (Glb : Glo mg) (WK : WebK K mg C) (PK : KeepK K mg C2) :
    GoodM P w K mg base C2 "least" "Keeper.least" sKeeper_least ["self"] 1 (spKeeper_least K C C2) := by
  refine D.good fun f fd F => ?_
  refine F.ok scKeeper_least (fun vs H Q E h => ?_) (fun cdv A outer s H vs Q E hr h => ?_)
  · obtain ⟨k, s, m, Ds, d, rfl, ⟨dx, lp, dp, kp, las, das, h1, h2, h3, h4, h5, h6, h7⟩, q⟩ := h
    first | rfl | (rcases h with ⟨_, _, rfl, _⟩ | ⟨_, rfl, _⟩ <;> rfl)
  obtain ⟨k, s, m, Ds, d, rfl, ⟨dx, lp, dp, kp, las, das, h1, h2, h3, h4, h5, h6, h7⟩, q⟩ := h
  refine ⟨_, (pss_one (ps_ret (pe_fld (pv 0) rfl))), ?_⟩
  exact ⟨_, rfl, k, C2, dx, _, _, rfl, h1, PK.cl, PK.n1, kf_1 .., q⟩
def DeedsAt (H : Hp) (l : Addr) (Ds : List Deed) : Prop := ∃ das : List Addr, H l = some (.lst (das.map V.ref)) ∧ Paired (DeedAt H) das Ds
theorem DeedsAt.same {H H' : Hp} {l : Addr} {Ds : List Deed} (h : DeedsAt H l Ds) (s : Same H H') : DeedsAt H' l Ds := by
  obtain ⟨das, h1, h2⟩ := h
  exact ⟨das, s _ _ h1, paired_mono (fun p e h => s _ _ h) h2⟩
def spKeeper_log (_ : PySem.W.Frag) (C C2 : Addr) : Sp := fun vs H Q _ => ∃ k s m Ds d, vs = [.ref k] ∧ KeepAt C C2 k s m Ds d H ∧ ∀ H' p, H p = none → Same H H' → DeedsAt H' p (Ds.take d) → Q (.ref p) H'
theorem okKeeper_log (D : DefM K C2 "log" "Keeper.log" sKeeper_log ["self"]) (B : Bs mg) (Glb : Glo mg) (WK : WebK K mg C) (PK : KeepK K mg C2) :
    GoodM P w K mg base C2 "log" "Keeper.log" sKeeper_log ["self"] 1 (spKeeper_log K C C2) := by
  refine D.good fun f fd F => ?_
  refine F.ok scKeeper_log (fun vs H Q E h => ?_) (fun cdv A outer s H vs Q E hr h => ?_)
  · obtain ⟨k, s, m, Ds, d, rfl, ⟨dx, lp, dp, kp, las, das, h1, h2, h3, h4, h5, h6, h7⟩, q⟩ := h
    first | rfl | (rcases h with ⟨_, _, rfl, _⟩ | ⟨_, rfl, _⟩ <;> rfl)
  obtain ⟨k, s, m, Ds, d, rfl, ⟨dx, lp, dp, kp, las, das, h1, h2, h3, h4, h5, h6, h7⟩, q⟩ := h
  refine ⟨_, (pss_one (ps_ret (pe_slice sl_list (pe_fld (pv 0) rfl) po_none (po_some (pe_fld (pv 0) rfl))))), ?_⟩
  refine ⟨_, rfl, k, C2, dx, _, _, rfl, h1, PK.cl, PK.n3, kf_3 .., _, rfl, k, C2, dx, _, _, rfl, h1, PK.cl, PK.n4, kf_4 .., _, rfl, dp, _, rfl, SqL.of h5, fun p np => ?_⟩
  refine q _ p np (same_new np _) ⟨das.take d, by rw [upd_same, cutV_to, List.map_take], paired_take _ (paired_mono (fun p e h => same_new np _ _ _ h) h6)⟩
def spKeeper_solid (_ : PySem.W.Frag) (C C2 : Addr) : Sp := fun vs H Q _ => ∃ k s m Ds d, vs = [.ref k] ∧ KeepAt C C2 k s m Ds d H ∧ OkK Ds ∧ d ≤ Ds.length ∧ 1 ≤ m ∧ s ≤ 8 ∧ ∀ H' l, H l = none → Same H H' → H' l = some (.lst ((((told (sumT [] (pcsT s (told (st Ds d))))).filter fun e => decide (e.2 ≥ (m : Int))).map Prod.fst).map V.str)) → Q (.ref l) H'
theorem okKeeper_solid (D : DefM K C2 "solid" "Keeper.solid" sKeeper_solid ["self"]) (B : Bs mg) (Glb : Glo mg) (WK : WebK K mg C) (PK : KeepK K mg C2)
    (hLot_solid : GoodM P w K mg base C "solid" "Lot.solid" sLot_solid ["self", "least"] 5 (spLot_solid K C C2))
    (hKeeper__now : GoodM P w K mg base C2 "_now" "Keeper._now" sKeeper__now ["self"] 1 (spKeeper__now K C C2)) :
    GoodM P w K mg base C2 "solid" "Keeper.solid" sKeeper_solid ["self"] 7 (spKeeper_solid K C C2) := by
  refine D.good fun f fd F => ?_
  obtain ⟨fLot_solid, dLot_solid, OLot_solid, tLot_solid, bLot_solid, FLot_solid⟩ := hLot_solid
  obtain ⟨fKeeper__now, dKeeper__now, OKeeper__now, tKeeper__now, bKeeper__now, FKeeper__now⟩ := hKeeper__now
  refine F.ok scKeeper_solid (fun vs H Q E h => ?_) (fun cdv A outer s H vs Q E hr h => ?_)
  · obtain ⟨k, s, m, Ds, d, rfl, hK, ho, hd, hm, hs, q⟩ := h
    first | rfl | (rcases h with ⟨_, _, rfl, _⟩ | ⟨_, rfl, _⟩ <;> rfl)
  obtain ⟨k, s, m, Ds, d, rfl, hK, ho, hd, hm, hs, q⟩ := h
  refine ⟨_, (pss_one (ps_ret (pe_meth (pe_meth0 (pv 0) PK.cl tKeeper__now OKeeper__now (hr.mono (by decide)) bKeeper__now .nil pass0) WK.cl tLot_solid OLot_solid (hr.mono (by decide)) bLot_solid .nil pass0 (pa_cons (pe_fld (pv 0) rfl) pa_nil)))), ?_⟩
  obtain ⟨dx, lp, dp, kp, las, das, h1, h2, h3, h4, h5, h6, h7⟩ := id hK
  refine ⟨_, rfl, k, dx, _, rfl, h1, kf_no _ _ _ _ _ _ (by decide), k, s, m, Ds, d, rfl, hK, hd, fun a tl hL => ?_⟩
  obtain ⟨dl, l1, l2⟩ := id hL
  have hO := (okD_st ho d hd).told
  have hl := hO.len
  have hlen := ho.len
  refine ⟨a, dl, _, rfl, l1, lf_none _ _ (by decide) (by decide), _, rfl, k, C2, dx, _, _, rfl, h1, PK.cl, PK.n1, kf_1 .., a, tl, s, _, m, rfl, hm, hL, by omega, fun e he => (hO.ok e he).1.ok.len, hs, q⟩
def spKeeper___init__ (_ : PySem.W.Frag) (C C2 : Addr) : Sp := fun vs H Q _ => ∃ k dx s m, vs = [.ref k, .int ((s : Nat) : Int), .int ((m : Nat) : Int)] ∧ 2 ≤ s ∧ s ≤ 8 ∧ 1 ≤ m ∧ m ≤ 20 ∧ H k = some (.ins C2 dx []) ∧ ∀ H', Kept k H H' → (∀ N, NOk N H → ¬ N k → KeepAt C C2 k s m [] 0 (wo N H')) → Q .non H'
theorem okKeeper___init__ (D : DefI K C2 "__init__" "Keeper.__init__" sKeeper___init__ ["self", "size", "least"]) (B : Bs mg) (Glb : Glo mg) (WK : WebK K mg C) (PK : KeepK K mg C2)
    (hneed_size : Good P w K mg base "need_size" sneed_size ["size"] 4 (spneed_size K C C2))
    (his_between : Good P w K mg base "is_between" sis_between ["value", "least", "most"] 2 (spis_between K C C2))
    (hLot___init__ : GoodJ P w K mg base C "__init__" "Lot.__init__" sLot___init__ ["self", "size", "readings"] 5 (spLot___init__ K C C2)) :
    GoodJ P w K mg base C2 "__init__" "Keeper.__init__" sKeeper___init__ ["self", "size", "least"] 7 (spKeeper___init__ K C C2) := by
  refine D.goodJ fun f fd F => ?_
  obtain ⟨fneed_size, dneed_size, Oneed_size, mneed_size, kneed_size, bneed_size, Fneed_size⟩ := hneed_size
  obtain ⟨fis_between, dis_between, Ois_between, mis_between, kis_between, bis_between, Fis_between⟩ := his_between
  obtain ⟨fLot___init__, dLot___init__, OLot___init__, MKLot, bLot___init__, FLot___init__⟩ := hLot___init__
  refine F.ok scKeeper___init__ (fun vs H Q E h => ?_) (fun cdv A outer s H vs Q E hr h => ?_)
  · obtain ⟨k, dx, s, m, rfl, hs1, hs2, hm1, hm2, hk, q⟩ := h
    first | rfl | (rcases h with ⟨_, _, rfl, _⟩ | ⟨_, rfl, _⟩ <;> rfl)
  obtain ⟨k, dx, s, m, rfl, hs1, hs2, hm1, hm2, hk, q⟩ := h
  refine ⟨_, (pss_cons (ps_expr (pe_call Oneed_size (hr.mono (by decide)) rfl mneed_size kneed_size bneed_size .nil pass0 (pa_cons (pv 1) pa_nil)))
  (pss_cons (ps_if (pt_not (pt_val (pe_call Ois_between (hr.mono (by decide)) rfl mis_between kis_between bis_between .nil pass0 (pa_cons (pv 2) (pa_cons pe_int (pa_cons (pe_globI Glb.MOST_LEAST) pa_nil))))))
    (pss_one ps_never) pss_nil)
  (pss_cons (ps_fld (pv 0) (pv 1) rfl)
  (pss_cons (ps_fld (pv 0) (pv 2) rfl)
  (pss_cons (ps_fld (pv 0) (pe_lst (pa_cons (pe_make MKLot OLot___init__ (hr.mono (by decide)) rfl WK.mgC bLot___init__ .nil pass0 (pa_cons (pv 1) (pa_cons (pe_lst pa_nil) pa_nil))) pa_nil)) rfl)
  (pss_cons (ps_fld (pv 0) (pe_lst pa_nil) rfl)
  (pss_cons (ps_fld (pv 0) pe_int rfl)
  (pss_cons (ps_fld (pv 0) pe_dnewK rfl)
  (pss_one (ps_fld (pv 0) pe_int rfl)))))))))), ?_⟩
  refine ⟨_, rfl, s, rfl, hs1, hs2, ?_⟩
  refine ⟨_, rfl, (m : Int), 1, 20, rfl, by omega, by omega, _, rfl, iteF ?_⟩
  refine ⟨_, rfl, _, rfl, k, C2, dx, [], rfl, hk, PK.cl, PK.n0, (by decide), ?_⟩
  refine ⟨_, rfl, _, rfl, k, C2, dx, _, rfl, upd_same, PK.cl, PK.n1, (by show 1 < 1000; decide), ?_⟩
  rw [upd_upd]
  have k1 : Kept k H (upd H k (.ins C2 dx [("_size", .int (s : Int)), ("_least", .int (m : Int))])) := fun b o e n => by rw [upd_ne n]; exact e
  have hk1 : upd H k (.ins C2 dx [("_size", .int (s : Int)), ("_least", .int (m : Int))]) k = _ := upd_same
  change tSeq _ _ _ _ (upd H k (.ins C2 dx [("_size", .int (s : Int)), ("_least", .int (m : Int))]))
  generalize upd H k (.ins C2 dx [("_size", .int (s : Int)), ("_least", .int (m : Int))]) = H1 at k1 hk1
  refine ⟨_, rfl, Nat.zero_le _, fun e0 ne0 => fun b db nb ndb nbd => ?_⟩
  have nke0 : k ≠ e0 := ne_of_none hk1 ne0
  have he0 : upd H1 e0 (.lst []) e0 = some (.lst []) := upd_same
  have hk2 : upd H1 e0 (.lst []) k = _ := (upd_ne nke0).trans hk1
  have s2 := same_new ne0 (.lst [])
  generalize upd H1 e0 (.lst []) = H2 at nb ndb he0 hk2 s2
  have nkb : k ≠ b := ne_of_none hk2 nb
  have nkdb : k ≠ db := ne_of_none hk2 ndb
  refine ⟨b, db, s, e0, [], rfl, hs1, hs2, ⟨[], by rw [upd_ne (ne_of_none he0 nb), upd_ne (ne_of_none he0 ndb)]; exact he0, .nil⟩, Nat.zero_le _, fun e h => (nomatch h), upd_same, fun H3 tl ntl k3 hL3 => ⟨rfl, ?_⟩⟩
  have s3 : Same H2 H3 := fun c u e => k3 c u (by rw [upd_ne (ne_of_none e nb), upd_ne (ne_of_none e ndb)]; exact e) (ne_of_none e nb)
  have hk3 := s3 _ _ hk2
  have ntl2 : H2 tl = none := by
    cases z : H2 tl with
    | none => rfl
    | some o =>
      rw [upd_ne (ne_of_none z nb), upd_ne (ne_of_none z ndb)] at ntl
      rw [ntl] at z
      cases z
  have k13 : Kept k H1 H3 := Same.kept (s2.trans s3)
  have nb1 : H1 b = none := s2.free nb
  have ntl1 : H1 tl = none := s2.free ntl2
  refine ⟨(by show 1 ≤ sizeLine; decide), fun lp nlp => ?_⟩
  have nklp : k ≠ lp := ne_of_none hk3 nlp
  have nlp0 : H lp = none := none_back (k1.trans k13) nklp.symm nlp
  have nb0 : H b = none := none_back k1 nkb.symm nb1
  have nktl : k ≠ tl := ne_of_none hk1 ntl1
  have ntl0 : H tl = none := none_back k1 nktl.symm ntl1
  refine ⟨_, rfl, k, C2, dx, _, rfl, (upd_ne nklp).trans hk3, PK.cl, PK.n2, (by show 2 < 1000; decide), ?_⟩
  have k4 : Kept k H3 (upd (upd H3 lp (.lst [.ref b])) k (.ins C2 dx [("_size", .int (s : Int)), ("_least", .int (m : Int)), ("_lots", .ref lp)])) := fun c o e n => by rw [upd_ne n, upd_ne (ne_of_none e nlp)]; exact e
  have hk4 : upd (upd H3 lp (.lst [.ref b])) k (.ins C2 dx [("_size", .int (s : Int)), ("_least", .int (m : Int)), ("_lots", .ref lp)]) k = _ := upd_same
  have hlp4 : upd (upd H3 lp (.lst [.ref b])) k (.ins C2 dx [("_size", .int (s : Int)), ("_least", .int (m : Int)), ("_lots", .ref lp)]) lp = some (.lst [.ref b]) := by rw [upd_ne nklp.symm]; exact upd_same
  change tSeq _ _ _ _ (upd (upd H3 lp (.lst [.ref b])) k (.ins C2 dx [("_size", .int (s : Int)), ("_least", .int (m : Int)), ("_lots", .ref lp)]))
  generalize upd (upd H3 lp (.lst [.ref b])) k (.ins C2 dx [("_size", .int (s : Int)), ("_least", .int (m : Int)), ("_lots", .ref lp)]) = H4 at k4 hk4 hlp4
  have hL4 := hL3.keptI k4 hk3 nkb.symm
  have k04 := (k1.trans k13).trans k4
  refine ⟨Nat.zero_le _, fun dp ndp => ?_⟩
  have nkdp : k ≠ dp := ne_of_none hk4 ndp
  have ndp0 : H dp = none := none_back k04 nkdp.symm ndp
  refine ⟨_, rfl, k, C2, dx, _, rfl, (upd_ne nkdp).trans hk4, PK.cl, PK.n3, (by show 3 < 1000; decide), ?_⟩
  refine ⟨_, rfl, k, C2, dx, _, rfl, upd_same, PK.cl, PK.n4, (by show 4 < 1000; decide), ?_⟩
  rw [upd_upd]
  have k5 : Kept k H4 (upd (upd H4 dp (.lst [])) k (.ins C2 dx [("_size", .int (s : Int)), ("_least", .int (m : Int)), ("_lots", .ref lp), ("_deeds", .ref dp), ("_done", .int 0)])) := fun c o e n => by rw [upd_ne n, upd_ne (ne_of_none e ndp)]; exact e
  have hk5 : upd (upd H4 dp (.lst [])) k (.ins C2 dx [("_size", .int (s : Int)), ("_least", .int (m : Int)), ("_lots", .ref lp), ("_deeds", .ref dp), ("_done", .int 0)]) k = _ := upd_same
  have hdp5 : upd (upd H4 dp (.lst [])) k (.ins C2 dx [("_size", .int (s : Int)), ("_least", .int (m : Int)), ("_lots", .ref lp), ("_deeds", .ref dp), ("_done", .int 0)]) dp = some (.lst []) := by rw [upd_ne nkdp.symm]; exact upd_same
  change tSeq _ _ _ _ (upd (upd H4 dp (.lst [])) k (.ins C2 dx [("_size", .int (s : Int)), ("_least", .int (m : Int)), ("_lots", .ref lp), ("_deeds", .ref dp), ("_done", .int 0)]))
  generalize upd (upd H4 dp (.lst [])) k (.ins C2 dx [("_size", .int (s : Int)), ("_least", .int (m : Int)), ("_lots", .ref lp), ("_deeds", .ref dp), ("_done", .int 0)]) = H5 at k5 hk5 hdp5
  have hL5 := hL4.keptI k5 hk4 nkb.symm
  have hlp5 := k5 _ _ hlp4 nklp.symm
  have k05 := k04.trans k5
  intro kp nkp
  have nkkp : k ≠ kp := ne_of_none hk5 nkp
  have nkp0 : H kp = none := none_back k05 nkkp.symm nkp
  refine ⟨_, rfl, k, C2, dx, _, rfl, (upd_ne nkkp).trans hk5, PK.cl, PK.n5, (by show 5 < 1000; decide), ?_⟩
  refine ⟨_, rfl, k, C2, dx, _, rfl, upd_same, PK.cl, PK.n6, (by show 6 < 1000; decide), ?_⟩
  rw [upd_upd]
  change Q V.non (upd (upd H5 kp (.dK [])) k (.ins C2 dx (kf s m lp dp 0 kp)))
  have k6 : Kept k H5 (upd (upd H5 kp (.dK [])) k (.ins C2 dx (kf s m lp dp 0 kp))) := fun c o e n => by rw [upd_ne n, upd_ne (ne_of_none e nkp)]; exact e
  have hk6 : upd (upd H5 kp (.dK [])) k (.ins C2 dx (kf s m lp dp 0 kp)) k = some (.ins C2 dx (kf s m lp dp 0 kp)) := upd_same
  have hkp6 : upd (upd H5 kp (.dK [])) k (.ins C2 dx (kf s m lp dp 0 kp)) kp = some (.dK []) := by rw [upd_ne nkkp.symm]; exact upd_same
  generalize upd (upd H5 kp (.dK [])) k (.ins C2 dx (kf s m lp dp 0 kp)) = H6 at k6 hk6 hkp6
  have hL6 := hL5.keptI k6 hk5 nkb.symm
  have k06 := k05.trans k6
  refine q H6 k06 fun N hN nNk => ?_
  have hN6 := hN.kept k06 nNk
  refine ⟨dx, lp, dp, kp, [b], [], by rw [wo_of nNk]; exact hk6, by rw [wo_of (hN.new nlp0)]; exact k6 _ _ hlp5 nklp.symm, rfl, fun i a e => ?_, by rw [wo_of (hN.new ndp0)]; exact k6 _ _ hdp5 nkdp.symm, .nil, by rw [wo_of (hN.new nkp0)]; exact hkp6⟩
  cases i with
  | zero =>
    cases e
    exact ⟨tl, lot_wo hL6 (hN.new nb0) (hN.new ntl0) hN6⟩
  | succ i => cases e
end
end My
set_option maxHeartbeats 4000000
namespace My
open PySem L2 PyProof.Rows
theorem nwo {N : Addr → Prop} {H H' : Hp} {k p : Addr} (hN : NOk N H) (hK : Kept k H H') (n : p ≠ k) (h : H' p = none) : ¬ N p := hN.new (none_back hK n h)
section
variable {P : Program} {w : World} {K : PySem.W.Frag} {mg : Str → Option Value} {base : Heap} {C C2 : Addr}
def spKeeper__do (_ : PySem.W.Frag) (C C2 : Addr) : Sp := fun vs H Q _ => ∃ N k s m Ds d p e b tl, vs = [.ref k, .ref p, .ref b] ∧ KeepAt C C2 k s m Ds d (wo N H) ∧ NOk N H ∧ ¬ N k ∧ d ≤ Ds.length ∧ Ds.length ≤ 40 ∧ DeedAt H p e ∧ LotAt C b tl s (told (stepD e (st Ds d))) H ∧ ¬ N b ∧ ¬ N tl ∧ ∀ H', Kept k H H' → KeepAt C C2 k s m (doneD Ds d e) (d + 1) (wo N H') → Q .non H'
theorem okKeeper__do (D : DefM K C2 "_do" "Keeper._do" sKeeper__do ["self", "deed", "lot"]) (B : Bs mg) (Glb : Glo mg) (WK : WebK K mg C) (PK : KeepK K mg C2) :
    GoodM P w K mg base C2 "_do" "Keeper._do" sKeeper__do ["self", "deed", "lot"] 1 (spKeeper__do K C C2) := by
  refine D.good fun f fd F => ?_
  refine F.ok scKeeper__do (fun vs H Q E h => ?_) (fun cdv A outer s H vs Q E hr h => ?_)
  · obtain ⟨N, k, s, m, Ds, d, p, e, b, tl, rfl, hK, hN, nNk, hd, h40, hp, hL, nNb, nNtl, q⟩ := h
    first | rfl | (rcases h with ⟨_, _, rfl, _⟩ | ⟨_, rfl, _⟩ <;> rfl)
  obtain ⟨N, k, s, m, Ds, d, p, e, b, tl, rfl, hK, hN, nNk, hd, h40, hp, hL, nNb, nNtl, q⟩ := h
  refine ⟨_, (pss_cons (ps_fld (pv 0) (pe_op op_cat (pe_slice sl_list (pe_fld (pv 0) rfl) po_none (po_some (pe_fld (pv 0) rfl))) (pe_lst (pa_cons (pv 1) pa_nil))) rfl)
  (pss_cons (ps_fld (pv 0) (pe_op op_cat (pe_slice sl_list (pe_fld (pv 0) rfl) po_none (po_some (pe_op op_add (pe_fld (pv 0) rfl) pe_int))) (pe_lst (pa_cons (pv 2) pa_nil))) rfl)
  (pss_one (ps_fld (pv 0) (pe_op op_add (pe_fld (pv 0) rfl) pe_int) rfl)))), ?_⟩
  obtain ⟨dx, lp, dp, kp, las, das, h1, h2, h3, h4, h5, h6, h7⟩ := id hK
  have hk := wo_same _ _ h1
  have hlp := wo_same _ _ h2
  have hdp := wo_same _ _ h5
  have dlen := paired_len h6
  -- deeds
  refine ⟨_, rfl, k, C2, dx, _, _, rfl, hk, PK.cl, PK.n3, kf_3 .., _, rfl, k, C2, dx, _, _, rfl, hk, PK.cl, PK.n4, kf_4 .., _, rfl, dp, _, rfl, SqL.of hdp, fun q1 nq1 => ?_⟩
  rw [cutV_to, ← List.map_take]
  have nkq1 : k ≠ q1 := ne_of_none hk nq1
  have hq1 : upd H q1 (.lst ((das.take d).map V.ref)) q1 = some (.lst ((das.take d).map V.ref)) := upd_same
  have s1 := same_new nq1 (.lst ((das.take d).map V.ref))
  generalize upd H q1 (.lst ((das.take d).map V.ref)) = H1 at hq1 s1
  refine ⟨_, rfl, (by show 1 ≤ sizeLine; decide), fun q2 nq2 => ?_⟩
  refine ⟨q1, q2, _, _, rfl, rfl, same_new nq2 _ _ _ hq1, upd_same, ?_, fun dq ndq => ?_⟩
  · rw [List.length_map, List.length_take]
    exact small100 (show min d das.length + 1 ≤ 100 by omega)
  have s2 := s1.trans (same_new nq2 (.lst [.ref p]))
  have hdq : upd (upd H1 q2 (.lst [.ref p])) dq (.lst ((das.take d).map V.ref ++ [.ref p])) dq = some (.lst ((das.take d ++ [p]).map V.ref)) := by rw [upd_same, List.map_append]; rfl
  have s3 := s2.trans (same_new ndq (.lst ((das.take d).map V.ref ++ [.ref p])))
  have ndq0 : H dq = none := s2.free ndq
  generalize upd (upd H1 q2 (.lst [.ref p])) dq (.lst ((das.take d).map V.ref ++ [.ref p])) = H2 at hdq s3
  have nkdq : k ≠ dq := ne_of_none hk ndq0
  refine ⟨_, rfl, k, C2, dx, _, rfl, s3 _ _ hk, PK.cl, PK.n3, (by show 7 < 1000; decide), ?_⟩
  rw [kf_deeds]
  have k3 : Kept k H (upd H2 k (.ins C2 dx (kf s m lp dq d kp))) := fun c o z n => by rw [upd_ne n]; exact s3 _ _ z
  have hk3 : upd H2 k (.ins C2 dx (kf s m lp dq d kp)) k = some (.ins C2 dx (kf s m lp dq d kp)) := upd_same
  have hdq3 : upd H2 k (.ins C2 dx (kf s m lp dq d kp)) dq = some (.lst ((das.take d ++ [p]).map V.ref)) := by rw [upd_ne nkdq.symm]; exact hdq
  generalize upd H2 k (.ins C2 dx (kf s m lp dq d kp)) = H3 at k3 hk3 hdq3
  have nklp : lp ≠ k := ne_of hlp hk (by intro z; cases z)
  have hlp3 := k3 _ _ hlp nklp
  -- lots
  refine ⟨_, rfl, k, C2, dx, _, _, rfl, hk3, PK.cl, PK.n2, kf_2 .., _, rfl, k, C2, dx, _, _, rfl, hk3, PK.cl, PK.n4, kf_4 .., _, _, rfl, rfl, _, rfl, lp, _, rfl, SqL.of hlp3, fun q3 nq3 => ?_⟩
  rw [show ((d : Nat) : Int) + 1 = ((d + 1 : Nat) : Int) by omega, cutV_to, ← List.map_take]
  have hq3 : upd H3 q3 (.lst ((las.take (d + 1)).map V.ref)) q3 = some (.lst ((las.take (d + 1)).map V.ref)) := upd_same
  have t1 := same_new nq3 (.lst ((las.take (d + 1)).map V.ref))
  generalize upd H3 q3 (.lst ((las.take (d + 1)).map V.ref)) = H4 at hq3 t1
  refine ⟨_, rfl, (by show 1 ≤ sizeLine; decide), fun q4 nq4 => ?_⟩
  refine ⟨q3, q4, _, _, rfl, rfl, same_new nq4 _ _ _ hq3, upd_same, ?_, fun lq nlq => ?_⟩
  · rw [List.length_map, List.length_take]
    exact small100 (show min (d + 1) las.length + 1 ≤ 100 by omega)
  have t2 := t1.trans (same_new nq4 (.lst [.ref b]))
  have hlq : upd (upd H4 q4 (.lst [.ref b])) lq (.lst ((las.take (d + 1)).map V.ref ++ [.ref b])) lq = some (.lst ((las.take (d + 1) ++ [b]).map V.ref)) := by rw [upd_same, List.map_append]; rfl
  have t3 := t2.trans (same_new nlq (.lst ((las.take (d + 1)).map V.ref ++ [.ref b])))
  have nlq3 : H3 lq = none := t2.free nlq
  generalize upd (upd H4 q4 (.lst [.ref b])) lq (.lst ((las.take (d + 1)).map V.ref ++ [.ref b])) = H5 at hlq t3
  have nklq : k ≠ lq := ne_of_none hk3 nlq3
  refine ⟨_, rfl, k, C2, dx, _, rfl, t3 _ _ hk3, PK.cl, PK.n2, (by show 7 < 1000; decide), ?_⟩
  rw [kf_lots]
  refine ⟨_, rfl, k, C2, dx, _, _, rfl, upd_same, PK.cl, PK.n4, kf_4 .., _, _, rfl, rfl, _, rfl, k, C2, dx, _, rfl, upd_same, PK.cl, PK.n4, (by show 7 < 1000; decide), ?_⟩
  change Q V.non (upd (upd H5 k (.ins C2 dx (kf s m lq dq d kp))) k (.ins C2 dx (putF "_done" (.int ((d + 1 : Nat) : Int)) (kf s m lq dq d kp))))
  rw [upd_upd, kf_done]
  have k6 : Kept k H3 (upd H5 k (.ins C2 dx (kf s m lq dq (d + 1) kp))) := fun c o z n => by rw [upd_ne n]; exact t3 _ _ z
  have hk6 : upd H5 k (.ins C2 dx (kf s m lq dq (d + 1) kp)) k = some (.ins C2 dx (kf s m lq dq (d + 1) kp)) := upd_same
  have hlq6 : upd H5 k (.ins C2 dx (kf s m lq dq (d + 1) kp)) lq = some (.lst ((las.take (d + 1) ++ [b]).map V.ref)) := by rw [upd_ne nklq.symm]; exact hlq
  generalize upd H5 k (.ins C2 dx (kf s m lq dq (d + 1) kp)) = H6 at k6 hk6 hlq6
  have k06 := k3.trans k6
  have hN6 := hN.kept k06 nNk
  have fr : ∀ c u, c ≠ k → wo N H c = some u → wo N H6 c = some u := fun c u n z => by
    have nc := wo_get z
    rw [wo_of nc] at z ⊢
    exact k06 _ _ z n
  have nbk : b ≠ k := by
    rintro rfl
    obtain ⟨dy, z, _⟩ := id hL
    rw [hk] at z
    have := congrArg (fun o : Option HO => match o with | some (.ins _ _ fs) => fs.length | _ => 0) z
    simp [kf, lf_eq] at this
  refine q H6 k06 ⟨dx, lq, dq, kp, las.take (d + 1) ++ [b], das.take d ++ [p], by rw [wo_of nNk]; exact hk6, ?_, ?_, fun i a hi => ?_, ?_, ?_, ?_⟩
  · rw [wo_of (nwo hN k3 nklq.symm nlq3)]
    exact hlq6
  · rw [List.length_append, List.length_take, doneD_len hd, h3]
    show min (d + 1) (Ds.length + 1) + 1 = _
    omega
  · by_cases c : i = d + 1
    · subst c
      rw [List.getElem?_append_right (by rw [List.length_take]; omega), List.length_take, h3, show min (d + 1) (Ds.length + 1) = d + 1 by omega, Nat.sub_self] at hi
      cases hi
      rw [doneD_last hd]
      exact ⟨tl, lot_wo (hL.keptI k06 hk nbk) nNb nNtl hN6⟩
    · have hlt := (List.getElem?_eq_some_iff.mp hi).1
      rw [List.length_append, List.length_take, h3] at hlt
      have hlt : i < min (d + 1) (Ds.length + 1) + 1 := hlt
      rw [List.getElem?_append_left (by rw [List.length_take]; omega), List.getElem?_take, if_pos (by omega)] at hi
      obtain ⟨tl2, dy, g1, ts, g2, g3⟩ := h4 i a hi
      rw [doneD_st hd (by omega)]
      have nak : a ≠ k := by
        rintro rfl
        rw [h1] at g1
        have := congrArg (fun o : Option HO => match o with | some (.ins _ _ fs) => fs.length | _ => 0) g1
        simp [kf, lf_eq] at this
      exact ⟨tl2, dy, fr _ _ nak g1, ts, fr _ _ (ne_of g2 h1 (by intro z; cases z)) g2, paired_mono (fun p e hp => fr _ _ (ne_of hp h1 (by intro z; cases z)) hp) g3⟩
  · rw [wo_of (hN.new ndq0)]
    exact k6 _ _ hdq3 nkdq.symm
  · refine paired_snoc (paired_take _ (paired_mono (fun p e hp => ?_) h6)) ?_
    · exact fr _ _ (ne_of hp h1 (by intro z; cases z)) hp
    · show wo N H6 p = _
      have hp6 : H6 p = _ := k06 _ _ hp (ne_of hp hk (by intro z; cases z))
      rw [wo_of (hN6.tup hp6)]
      exact hp6
  · exact fr _ _ (ne_of h7 h1 (by intro z; cases z)) h7
end
end My
set_option maxHeartbeats 4000000
namespace My
open PySem L2 PyProof.Rows
theorem KeepAt.on {C C2 k : Addr} {s m : Nat} {Ds : List Deed} {d : Nat} {N : Addr → Prop} {H H' : Hp} (h : KeepAt C C2 k s m Ds d (wo N H)) (hs : Same H H') : KeepAt C C2 k s m Ds d (wo N H') := h.same (wo_frame fun b u _ e => hs _ _ e)
theorem KeepAt.in_ {C C2 k : Addr} {s m : Nat} {Ds : List Deed} {d : Nat} {N : Addr → Prop} {H : Hp} (h : KeepAt C C2 k s m Ds d (wo N H)) : KeepAt C C2 k s m Ds d H := h.same wo_same
theorem add_le {D : List (Str × Int)} {n v : Nat} (h : OkD D n v) {x : Str} {k : Int} (hx : OkL x) (h1 : 1 ≤ k) (h2 : k ≤ 20) : ∀ e ∈ sumT [] (told D ++ [(x, k)]), e.2 ≤ ((v + 20 : Nat) : Int) := fun e he => by
  rw [sumT_snoc, sumT_own h.told.nd] at he
  exact ((h.told.add hx h1 (m := 20) (by omega)).ok e he).2.2
section
variable {P : Program} {w : World} {K : PySem.W.Frag} {mg : Str → Option Value} {base : Heap} {C C2 : Addr}
def spKeeper_added (_ : PySem.W.Frag) (C C2 : Addr) : Sp := fun vs H Q _ => ∃ N k s m Ds d x n, vs = [.ref k, .str x, .int n] ∧ KeepAt C C2 k s m Ds d (wo N H) ∧ NOk N H ∧ ¬ N k ∧ 2 ≤ s ∧ s ≤ 8 ∧ OkK Ds ∧ d ≤ Ds.length ∧ d < 40 ∧ OkE (true, x, n) (st Ds d) ∧ ∀ H', Kept k H H' → KeepAt C C2 k s m (doneD Ds d (true, x, n)) (d + 1) (wo N H') → Q .non H'
theorem okKeeper_added (D : DefM K C2 "added" "Keeper.added" sKeeper_added ["self", "text", "times"]) (B : Bs mg) (Glb : Glo mg) (WK : WebK K mg C) (PK : KeepK K mg C2)
    (hwith_reading : Good P w K mg base "with_reading" swith_reading ["lot", "text", "times"] 9 (spwith_reading K C C2))
    (hKeeper__do : GoodM P w K mg base C2 "_do" "Keeper._do" sKeeper__do ["self", "deed", "lot"] 1 (spKeeper__do K C C2))
    (hKeeper__now : GoodM P w K mg base C2 "_now" "Keeper._now" sKeeper__now ["self"] 1 (spKeeper__now K C C2)) :
    GoodM P w K mg base C2 "added" "Keeper.added" sKeeper_added ["self", "text", "times"] 10 (spKeeper_added K C C2) := by
  refine D.good fun f fd F => ?_
  obtain ⟨fwith_reading, dwith_reading, Owith_reading, mwith_reading, kwith_reading, bwith_reading, Fwith_reading⟩ := hwith_reading
  obtain ⟨fKeeper__do, dKeeper__do, OKeeper__do, tKeeper__do, bKeeper__do, FKeeper__do⟩ := hKeeper__do
  obtain ⟨fKeeper__now, dKeeper__now, OKeeper__now, tKeeper__now, bKeeper__now, FKeeper__now⟩ := hKeeper__now
  refine F.ok scKeeper_added (fun vs H Q E h => ?_) (fun cdv A outer s H vs Q E hr h => ?_)
  · obtain ⟨N, k, s, m, Ds, d, x, n, rfl, hK, hN, nNk, hs1, hs2, ho, hd, h40, he, q⟩ := h
    first | rfl | (rcases h with ⟨_, _, rfl, _⟩ | ⟨_, rfl, _⟩ <;> rfl)
  obtain ⟨N, k, s, m, Ds, d, x, n, rfl, hK, hN, nNk, hs1, hs2, ho, hd, h40, he, q⟩ := h
  refine ⟨_, (pss_one (ps_expr (pe_meth (pv 0) PK.cl tKeeper__do OKeeper__do (hr.mono (by decide)) bKeeper__do .nil pass0 (pa_cons (pe_tup (pa_cons pe_str (pa_cons (pv 1) (pa_cons (pv 2) pa_nil)))) (pa_cons (pe_call Owith_reading hr rfl mwith_reading kwith_reading bwith_reading .nil pass0 (pa_cons (pe_meth0 (pv 0) PK.cl tKeeper__now OKeeper__now (hr.mono (by decide)) bKeeper__now .nil pass0) (pa_cons (pv 1) (pa_cons (pv 2) pa_nil)))) pa_nil))))), ?_⟩
  obtain ⟨dx, lp, dp, kp, las, das, h1, h2, h3, h4, h5, h6, h7⟩ := id hK
  have hk := wo_same _ _ h1
  have hO := okD_st ho d hd
  have hl := ho.len
  refine ⟨_, rfl, k, dx, _, rfl, hk, kf_no _ _ _ _ _ _ (by decide), _, rfl, _, rfl, (by show 3 ≤ sizeLine; decide), fun p np => ?_⟩
  have s1 := same_new np (.tup [V.str (Str.ofString "added"), .str x, .int n])
  have hp : upd H p (.tup [V.str (Str.ofString "added"), .str x, .int n]) p = some (.tup [V.str (Str.ofString "added"), .str x, .int n]) := upd_same
  generalize upd H p (.tup [V.str (Str.ofString "added"), .str x, .int n]) = H1 at s1 hp
  refine ⟨_, rfl, k, dx, _, rfl, s1 _ _ hk, kf_no _ _ _ _ _ _ (by decide), k, s, m, Ds, d, rfl, (hK.on s1).in_, hd, fun a tl hL => ?_⟩
  refine ⟨_, rfl, _, rfl, a, tl, s, _, x, n, rfl, hL, hs1, hs2, he.t.ok, he.n1, he.n2, by have := hO.told.len; omega, fun f hf => by have := add_le hO he.t he.n1 he.n2 f hf; omega, fun H2 b tm nb ntm s2 hL2 => ?_⟩
  have s12 := s1.trans s2
  have hN1 := hN.same s1
  rw [told_add hO.nd] at hL2
  refine ⟨N, k, s, m, Ds, d, p, (true, x, n), b, tm, rfl, hK.on s12, hN.same s12, nNk, hd, hl, s2 _ _ hp, hL2, hN1.new nb, hN1.new ntm, fun H' hk' hK' => ?_⟩
  exact q H' ((Same.kept s12).trans hk') hK'
def spKeeper_taken (_ : PySem.W.Frag) (C C2 : Addr) : Sp := fun vs H Q _ => ∃ N k s m Ds d x n, vs = [.ref k, .str x, .int n] ∧ KeepAt C C2 k s m Ds d (wo N H) ∧ NOk N H ∧ ¬ N k ∧ 2 ≤ s ∧ s ≤ 8 ∧ OkK Ds ∧ d ≤ Ds.length ∧ d < 40 ∧ OkE (false, x, n) (st Ds d) ∧ ∀ H', Kept k H H' → KeepAt C C2 k s m (doneD Ds d (false, x, n)) (d + 1) (wo N H') → Q .non H'
theorem okKeeper_taken (D : DefM K C2 "taken" "Keeper.taken" sKeeper_taken ["self", "text", "times"]) (B : Bs mg) (Glb : Glo mg) (WK : WebK K mg C) (PK : KeepK K mg C2)
    (hwithout_reading : Good P w K mg base "without_reading" swithout_reading ["lot", "text", "times"] 8 (spwithout_reading K C C2))
    (hKeeper__do : GoodM P w K mg base C2 "_do" "Keeper._do" sKeeper__do ["self", "deed", "lot"] 1 (spKeeper__do K C C2))
    (hKeeper__now : GoodM P w K mg base C2 "_now" "Keeper._now" sKeeper__now ["self"] 1 (spKeeper__now K C C2)) :
    GoodM P w K mg base C2 "taken" "Keeper.taken" sKeeper_taken ["self", "text", "times"] 9 (spKeeper_taken K C C2) := by
  refine D.good fun f fd F => ?_
  obtain ⟨fwithout_reading, dwithout_reading, Owithout_reading, mwithout_reading, kwithout_reading, bwithout_reading, Fwithout_reading⟩ := hwithout_reading
  obtain ⟨fKeeper__do, dKeeper__do, OKeeper__do, tKeeper__do, bKeeper__do, FKeeper__do⟩ := hKeeper__do
  obtain ⟨fKeeper__now, dKeeper__now, OKeeper__now, tKeeper__now, bKeeper__now, FKeeper__now⟩ := hKeeper__now
  refine F.ok scKeeper_taken (fun vs H Q E h => ?_) (fun cdv A outer s H vs Q E hr h => ?_)
  · obtain ⟨N, k, s, m, Ds, d, x, n, rfl, hK, hN, nNk, hs1, hs2, ho, hd, h40, he, q⟩ := h
    first | rfl | (rcases h with ⟨_, _, rfl, _⟩ | ⟨_, rfl, _⟩ <;> rfl)
  obtain ⟨N, k, s, m, Ds, d, x, n, rfl, hK, hN, nNk, hs1, hs2, ho, hd, h40, he, q⟩ := h
  refine ⟨_, (pss_one (ps_expr (pe_meth (pv 0) PK.cl tKeeper__do OKeeper__do (hr.mono (by decide)) bKeeper__do .nil pass0 (pa_cons (pe_tup (pa_cons pe_str (pa_cons (pv 1) (pa_cons (pv 2) pa_nil)))) (pa_cons (pe_call Owithout_reading hr rfl mwithout_reading kwithout_reading bwithout_reading .nil pass0 (pa_cons (pe_meth0 (pv 0) PK.cl tKeeper__now OKeeper__now (hr.mono (by decide)) bKeeper__now .nil pass0) (pa_cons (pv 1) (pa_cons (pv 2) pa_nil)))) pa_nil))))), ?_⟩
  obtain ⟨dx, lp, dp, kp, las, das, h1, h2, h3, h4, h5, h6, h7⟩ := id hK
  have hk := wo_same _ _ h1
  have hO := okD_st ho d hd
  have hl := ho.len
  obtain ⟨e1, e2⟩ := he.k rfl
  refine ⟨_, rfl, k, dx, _, rfl, hk, kf_no _ _ _ _ _ _ (by decide), _, rfl, _, rfl, (by show 3 ≤ sizeLine; decide), fun p np => ?_⟩
  have s1 := same_new np (.tup [V.str (Str.ofString "taken"), .str x, .int n])
  have hp : upd H p (.tup [V.str (Str.ofString "taken"), .str x, .int n]) p = some (.tup [V.str (Str.ofString "taken"), .str x, .int n]) := upd_same
  generalize upd H p (.tup [V.str (Str.ofString "taken"), .str x, .int n]) = H1 at s1 hp
  refine ⟨_, rfl, k, dx, _, rfl, s1 _ _ hk, kf_no _ _ _ _ _ _ (by decide), k, s, m, Ds, d, rfl, (hK.on s1).in_, hd, fun a tl hL => ?_⟩
  refine ⟨_, rfl, _, rfl, a, tl, s, _, x, n, rfl, hL, hs1, hs2, he.t.ok, he.n1, he.n2, hO.told.nd, by have := hO.told.len; omega, by rw [getT_told hO.nd]; exact e2, fun f hf => by have := lessT_le hO.told he.n1 f hf; omega, fun H2 b tm nb ntm s2 hL2 => ?_⟩
  have s12 := s1.trans s2
  have hN1 := hN.same s1
  rw [told_left hO.nd e1 e2] at hL2
  refine ⟨N, k, s, m, Ds, d, p, (false, x, n), b, tm, rfl, hK.on s12, hN.same s12, nNk, hd, hl, s2 _ _ hp, hL2, hN1.new nb, hN1.new ntm, fun H' hk' hK' => ?_⟩
  exact q H' ((Same.kept s12).trans hk') hK'
/-- only what is done changes -/
theorem KeepAt.go {C C2 k dx lp dp kp : Addr} {s m : Nat} {Ds : List Deed} {d e : Nat} {N : Addr → Prop} {H : Hp} (h : KeepAt C C2 k s m Ds d (wo N H)) (hk : H k = some (.ins C2 dx (kf s m lp dp d kp))) (nk : ¬ N k) : KeepAt C C2 k s m Ds e (wo N (upd H k (.ins C2 dx (kf s m lp dp e kp)))) := by
  obtain ⟨dy, lq, dq, kq, las, das, h1, h2, h3, h4, h5, h6, h7⟩ := h
  have h1' := h1
  rw [wo_of nk, hk] at h1
  injection h1 with h1
  injection h1 with _ e1 e2
  unfold kf at e2
  simp only [List.cons.injEq, Prod.mk.injEq, V.ref.injEq, true_and, and_true] at e2
  obtain ⟨e3, e4, e5⟩ := e2
  subst e1 e3 e4 e5
  have fr : ∀ c u, c ≠ k → wo N H c = some u → wo N (upd H k (.ins C2 dx (kf s m lp dp e kp))) c = some u := fun c u n z => by
    have nc := wo_get z
    rw [wo_of nc] at z ⊢
    rw [upd_ne n]
    exact z
  refine ⟨dx, lp, dp, kp, las, das, by rw [wo_of nk]; exact upd_same, fr _ _ (ne_of h2 h1' (by intro z; cases z)) h2, h3, fun i a hi => ?_, fr _ _ (ne_of h5 h1' (by intro z; cases z)) h5, paired_mono (fun p e hp => fr _ _ (ne_of hp h1' (by intro z; cases z)) hp) h6, fr _ _ (ne_of h7 h1' (by intro z; cases z)) h7⟩
  obtain ⟨tl2, dy, g1, ts, g2, g3⟩ := h4 i a hi
  have nak : a ≠ k := by
    rintro rfl
    rw [h1'] at g1
    have := congrArg (fun o : Option HO => match o with | some (.ins _ _ fs) => fs.length | _ => 0) g1
    simp [kf, lf_eq] at this
  exact ⟨tl2, dy, fr _ _ nak g1, ts, fr _ _ (ne_of g2 h1' (by intro z; cases z)) g2, paired_mono (fun p e hp => fr _ _ (ne_of hp h1' (by intro z; cases z)) hp) g3⟩
def spKeeper_undone (_ : PySem.W.Frag) (C C2 : Addr) : Sp := fun vs H Q _ => ∃ N k s m Ds d, vs = [.ref k] ∧ KeepAt C C2 k s m Ds (d + 1) (wo N H) ∧ NOk N H ∧ ¬ N k ∧ d < Ds.length ∧ ∀ H' p e, Ds[d]? = some e → DeedAt H' p e → Kept k H H' → KeepAt C C2 k s m Ds d (wo N H') → Q (.ref p) H'
theorem okKeeper_undone (D : DefM K C2 "undone" "Keeper.undone" sKeeper_undone ["self"]) (B : Bs mg) (Glb : Glo mg) (WK : WebK K mg C) (PK : KeepK K mg C2) :
    GoodM P w K mg base C2 "undone" "Keeper.undone" sKeeper_undone ["self"] 1 (spKeeper_undone K C C2) := by
  refine D.good fun f fd F => ?_
  refine F.ok scKeeper_undone (fun vs H Q E h => ?_) (fun cdv A outer s H vs Q E hr h => ?_)
  · obtain ⟨N, k, s, m, Ds, d, rfl, hK, hN, nNk, hd, q⟩ := h
    first | rfl | (rcases h with ⟨_, _, rfl, _⟩ | ⟨_, rfl, _⟩ <;> rfl)
  obtain ⟨N, k, s, m, Ds, d, rfl, hK, hN, nNk, hd, q⟩ := h
  refine ⟨_, (pss_cons (ps_if (pt_cmpR op_eq (pe_fld (pv 0) rfl) pe_int (nomark _))
    (pss_one ps_never) pss_nil)
  (pss_cons (ps_fld (pv 0) (pe_op op_sub (pe_fld (pv 0) rfl) pe_int) rfl)
  (pss_one (ps_ret (pe_ix ix_list (pe_fld (pv 0) rfl) (pe_fld (pv 0) rfl) (fun _ _ => rfl)))))), ?_⟩
  obtain ⟨dx, lp, dp, kp, las, das, h1, h2, h3, h4, h5, h6, h7⟩ := id hK
  have hk := wo_same _ _ h1
  have hdp := wo_same _ _ h5
  have dlen := paired_len h6
  have e1 := List.getElem?_eq_getElem (l := das) (i := d) (by omega)
  obtain ⟨e, he, hpe⟩ := paired_get h6 e1
  refine ⟨_, rfl, k, C2, dx, _, _, rfl, hk, PK.cl, PK.n4, kf_4 .., rfl, _, rfl, iteNo (fun z => by have := int_eq.mp z; omega) ?_⟩
  refine ⟨_, rfl, k, C2, dx, _, _, rfl, hk, PK.cl, PK.n4, kf_4 .., _, _, rfl, rfl, _, rfl, k, C2, dx, _, rfl, hk, PK.cl, PK.n4, (by show 7 < 1000; decide), ?_⟩
  have ed : putF "_done" ((fun i j => V.int (i - j)) (((d + 1 : Nat)) : Int) 1) (kf s m lp dp (d + 1) kp) = kf s m lp dp d kp := by
    show putF "_done" (V.int (((d + 1 : Nat) : Int) - 1)) _ = _
    rw [show ((d + 1 : Nat) : Int) - 1 = (d : Int) by omega, kf_done]
  rw [ed]
  have kk : Kept k H (upd H k (.ins C2 dx (kf s m lp dp d kp))) := fun c o z n => by rw [upd_ne n]; exact z
  have ndk : dp ≠ k := ne_of hdp hk (by intro z; cases z)
  refine ⟨_, rfl, k, C2, dx, _, _, rfl, upd_same, PK.cl, PK.n3, kf_3 .., _, rfl, k, C2, dx, _, _, rfl, upd_same, PK.cl, PK.n4, kf_4 .., _, _, _, _, rfl, rfl, SqL.of (kk _ _ hdp ndk), atI_nat (by rw [List.getElem?_map, e1]; rfl), ?_⟩
  have hp := wo_same _ _ hpe
  exact q _ _ e he (kk _ _ hp (ne_of hp hk (by intro z; cases z))) kk (hK.go hk nNk)
def spKeeper_redone (_ : PySem.W.Frag) (C C2 : Addr) : Sp := fun vs H Q _ => ∃ N k s m Ds d, vs = [.ref k] ∧ KeepAt C C2 k s m Ds d (wo N H) ∧ NOk N H ∧ ¬ N k ∧ d < Ds.length ∧ Ds.length ≤ 40 ∧ ∀ H' p e, Ds[d]? = some e → DeedAt H' p e → Kept k H H' → KeepAt C C2 k s m Ds (d + 1) (wo N H') → Q (.ref p) H'
theorem okKeeper_redone (D : DefM K C2 "redone" "Keeper.redone" sKeeper_redone ["self"]) (B : Bs mg) (Glb : Glo mg) (WK : WebK K mg C) (PK : KeepK K mg C2) :
    GoodM P w K mg base C2 "redone" "Keeper.redone" sKeeper_redone ["self"] 1 (spKeeper_redone K C C2) := by
  refine D.good fun f fd F => ?_
  refine F.ok scKeeper_redone (fun vs H Q E h => ?_) (fun cdv A outer s H vs Q E hr h => ?_)
  · obtain ⟨N, k, s, m, Ds, d, rfl, hK, hN, nNk, hd, h40, q⟩ := h
    first | rfl | (rcases h with ⟨_, _, rfl, _⟩ | ⟨_, rfl, _⟩ <;> rfl)
  obtain ⟨N, k, s, m, Ds, d, rfl, hK, hN, nNk, hd, h40, q⟩ := h
  refine ⟨_, (pss_cons (ps_if (pt_cmpR op_eq (pe_fld (pv 0) rfl) (pe_callB call_len_seq (by rfl) B.len (by decide +kernel) (pa_cons (pe_fld (pv 0) rfl) pa_nil)) (nomark _))
    (pss_one ps_never) pss_nil)
  (pss_cons (ps_fld (pv 0) (pe_op op_add (pe_fld (pv 0) rfl) pe_int) rfl)
  (pss_one (ps_ret (pe_ix ix_list (pe_fld (pv 0) rfl) (pe_op op_sub (pe_fld (pv 0) rfl) pe_int) (fun _ _ => rfl)))))), ?_⟩
  obtain ⟨dx, lp, dp, kp, las, das, h1, h2, h3, h4, h5, h6, h7⟩ := id hK
  have hk := wo_same _ _ h1
  have hdp := wo_same _ _ h5
  have dlen := paired_len h6
  have e1 := List.getElem?_eq_getElem (l := das) (i := d) (by omega)
  obtain ⟨e, he, hpe⟩ := paired_get h6 e1
  refine ⟨_, rfl, k, C2, dx, _, _, rfl, hk, PK.cl, PK.n4, kf_4 .., _, rfl, k, C2, dx, _, _, rfl, hk, PK.cl, PK.n3, kf_3 .., dp, _, rfl, .inl (SqL.of hdp), rfl, _, rfl, iteNo (fun z => by have := int_eq.mp z; rw [List.length_map] at this; omega) ?_⟩
  refine ⟨_, rfl, k, C2, dx, _, _, rfl, hk, PK.cl, PK.n4, kf_4 .., _, _, rfl, rfl, _, rfl, k, C2, dx, _, rfl, hk, PK.cl, PK.n4, (by show 7 < 1000; decide), ?_⟩
  have ed : putF "_done" ((fun i j => V.int (i + j)) ((d : Nat) : Int) 1) (kf s m lp dp d kp) = kf s m lp dp (d + 1) kp := kf_done s m lp dp d (d + 1) kp
  rw [ed]
  have kk : Kept k H (upd H k (.ins C2 dx (kf s m lp dp (d + 1) kp))) := fun c o z n => by rw [upd_ne n]; exact z
  have ndk : dp ≠ k := ne_of hdp hk (by intro z; cases z)
  refine ⟨_, rfl, k, C2, dx, _, _, rfl, upd_same, PK.cl, PK.n3, kf_3 .., _, rfl, k, C2, dx, _, _, rfl, upd_same, PK.cl, PK.n4, kf_4 .., _, _, rfl, rfl, _, _, _, _, rfl, rfl, SqL.of (kk _ _ hdp ndk), (by rw [show ((d + 1 : Nat) : Int) - 1 = (d : Int) by omega]; exact atI_nat (by rw [List.getElem?_map, e1]; rfl)), ?_⟩
  have hp := wo_same _ _ hpe
  exact q _ _ e he (kk _ _ hp (ne_of hp hk (by intro z; cases z))) kk (hK.go hk nNk)
end
end My
namespace My
open PySem PySem.Spec PyProof.Rows L2
/-- any walk: what is done with each item, by what holds behind it -/
theorem it_any {J : It} {n : Nat} {G : Hp → Prop} {Y : Nat → Hp → V → Hp → Prop} (wk : Walk J n G Y) {H0 : Hp} {Qd : Hp → Prop} {Step : V → Hp → (Hp → Prop) → Prop} (Pv : Nat → Hp → Prop) (h0 : Pv 0 H0) (hG : ∀ i H, i ≤ n → Pv i H → G H)
    (hs : ∀ i x H H', i < n → Pv i H → Y i H x H' → Step x H' (Pv (i + 1))) (hd : ∀ H, Pv n H → Qd H) :
    ∃ W : Nat → Nat → Hp → Prop, (∃ m, W 0 m H0) ∧ ∀ i m H, W i m H → (J.stop i H ∧ Qd H) ∨ (J.go i H ∧ ∃ Nx : Hp → Prop, (∀ H', Nx H' → ∃ m', m' < m ∧ W (i + 1) m' H') ∧ ∀ x H', J.yld i H x H' → Step x H' Nx) := by
  refine ⟨fun i m H => i ≤ n ∧ m = n - i ∧ Pv i H, ⟨n, Nat.zero_le _, rfl, h0⟩, fun i m H ⟨hi, em, p⟩ => ?_⟩
  have hq := hG i H hi p
  rcases Nat.lt_or_ge i n with lt | ge
  · exact .inr ⟨wk.goes i H lt hq, Pv (i + 1), fun H' p' => ⟨n - (i + 1), by omega, lt, rfl, p'⟩, fun x H' y => hs i x H H' lt p (wk.yields i H x H' lt hq y)⟩
  · have e : i = n := Nat.le_antisymm hi ge
    subst e
    exact .inl ⟨wk.stops H hq, hd H p⟩
end My
set_option maxHeartbeats 4000000
namespace My
open PySem L2 PyProof.Rows
section
variable {P : Program} {w : World} {K : PySem.W.Frag} {mg : Str → Option Value} {base : Heap} {C C2 : Addr}
def spKeeper_copy (_ : PySem.W.Frag) (C C2 : Addr) : Sp := fun vs H Q _ => ∃ M k s m Ds d, vs = [.ref k] ∧ KeepAt C C2 k s m Ds d (wo M H) ∧ 2 ≤ s ∧ s ≤ 8 ∧ 1 ≤ m ∧ m ≤ 20 ∧ d ≤ Ds.length ∧ ∀ H' k2, H k2 = none → Same H H' → (∀ N, NOk N H → (∀ b, N b → M b ∨ b = k) → KeepAt C C2 k2 s m Ds d (wo N H')) → Q (.ref k2) H'
theorem okKeeper_copy (D : DefM K C2 "copy" "Keeper.copy" sKeeper_copy ["self"]) (B : Bs mg) (Glb : Glo mg) (WK : WebK K mg C) (PK : KeepK K mg C2)
    (hKeeper___init__ : GoodJ P w K mg base C2 "__init__" "Keeper.__init__" sKeeper___init__ ["self", "size", "least"] 7 (spKeeper___init__ K C C2)) :
    GoodM P w K mg base C2 "copy" "Keeper.copy" sKeeper_copy ["self"] 9 (spKeeper_copy K C C2) := by
  refine D.good fun f fd F => ?_
  obtain ⟨fKeeper___init__, dKeeper___init__, OKeeper___init__, MKKeeper, bKeeper___init__, FKeeper___init__⟩ := hKeeper___init__
  refine F.ok scKeeper_copy (fun vs H Q E h => ?_) (fun cdv A outer s H vs Q E hr h => ?_)
  · obtain ⟨M, k, s, m, Ds, d, rfl, hK, hs1, hs2, hm1, hm2, hd, q⟩ := h
    first | rfl | (rcases h with ⟨_, _, rfl, _⟩ | ⟨_, rfl, _⟩ <;> rfl)
  obtain ⟨M, k, s, m, Ds, d, rfl, hK, hs1, hs2, hm1, hm2, hd, q⟩ := h
  refine ⟨_, (pss_cons (ps_set (i := 1) scKeeper_copy.nd rfl (by first | exact Or.inl rfl | exact Or.inr rfl) (pe_make MKKeeper OKeeper___init__ (hr.mono (by decide)) rfl PK.mgC bKeeper___init__ .nil pass0 (pa_cons (pe_fld (pv 0) rfl) (pa_cons (pe_fld (pv 0) rfl) pa_nil))))
  (pss_cons (ps_fld (pv 1) (pe_callTy call_list_of (by rfl) B.list (by decide +kernel) (pa_cons (pe_fld (pv 0) rfl) pa_nil)) rfl)
  (pss_cons (ps_fld (pv 1) (pe_callTy call_list_of (by rfl) B.list (by decide +kernel) (pa_cons (pe_fld (pv 0) rfl) pa_nil)) rfl)
  (pss_cons (ps_fld (pv 1) (pe_fld (pv 0) rfl) rfl)
  (pss_cons (ps_fld (pv 1) (pe_lock (pe_dc (own := [("key", 2), ("told", 3)]) (g := gTup K 2 (gCons (gName 2) (gCons (gName 3) gNil))) (by rfl) scKeeper_copy.nd (pi_items (pe_fld (pv 0) rfl)) (blkOk_by (own := [("key", 2), ("told", 3)]) (N := ["self", "other", "key", "told"]) (sc := defScope sKeeper_copy) (by decide +kernel)) (fun _ _ _ _ _ => (pg_tup rfl (pgs_cons (pg_name (i := 2) scKeeper_copy.nd rfl (by first | exact Or.inl rfl | exact Or.inr rfl)) (pgs_cons (pg_name (i := 3) scKeeper_copy.nd rfl (by first | exact Or.inl rfl | exact Or.inr rfl)) pgs_nil)))) (fun _ _ _ _ _ => pts_nil) (fun _ _ _ _ _ => (pv 2)) (fun _ _ _ _ _ => (pe_callTy (call_list_ofK (K := K) rfl) (by rfl) B.list (by decide +kernel) (pa_cons (pv 3) pa_nil))))) rfl)
  (pss_cons (ps_fld (pv 1) (pe_fld (pv 0) rfl) rfl)
  (pss_one (ps_ret (pv 1))))))))), ?_⟩
  obtain ⟨_, _, _, _, _, _, g0, gz⟩ := id hK
  obtain ⟨dx, lp, dp, kp, las, das, h1, h2, h3, h4, h5, h6, h7⟩ := hK.same (wo_same (N := M))
  have h4M : ∀ (i : Nat) (a : Addr), las[i]? = some a → ∃ tl, LotAt C a tl s (told (st Ds i)) (wo M H) := by
    obtain ⟨dx', lp', dp', kp', las', das', h1', h2', h3', h4', _⟩ := hK
    have e1 := wo_same _ _ h1'
    rw [h1] at e1
    injection e1 with e1
    injection e1 with _ _ e2
    unfold kf at e2
    simp only [List.cons.injEq, Prod.mk.injEq, V.ref.injEq, true_and, and_true] at e2
    have e3 := wo_same _ _ h2'
    rw [← e2.1, h2] at e3
    injection e3 with e3
    injection e3 with e3
    have : las = las' := (List.map_inj_right (fun a b h => V.ref.inj h)).mp e3
    rw [this]
    exact h4'
  refine ⟨_, rfl, k, C2, dx, _, _, rfl, h1, PK.cl, PK.n0, kf_0 .., _, rfl, k, C2, dx, _, _, rfl, h1, PK.cl, PK.n1, kf_1 .., fun k2 d2 nk2 nd2 ne => ?_⟩
  refine ⟨k2, d2, s, m, rfl, hs1, hs2, hm1, hm2, upd_same, fun H1 hk1 hK1 => ⟨rfl, ?_⟩⟩
  have S1 : Same H H1 := fun b u e => hk1 b u (by rw [upd_ne (ne_of_none e nk2), upd_ne (ne_of_none e nd2)]; exact e) (ne_of_none e nk2)
  obtain ⟨dx2, lp2, dp2, kp2, las2, das2, g1, _⟩ := (hK1 (fun _ => False) (fun b c => c.elim) (fun c => c)).same wo_same
  have nkk : k ≠ k2 := ne_of_none h1 nk2
  -- lots
  refine ⟨_, rfl, k, C2, dx, _, _, rfl, S1 _ _ h1, PK.cl, PK.n2, kf_2 .., lp, _, rfl, .inl (SqL.of (S1 _ _ h2)), fun lq nlq => ?_⟩
  have n1 : k2 ≠ lq := ne_of_none g1 nlq
  refine ⟨_, rfl, k2, C2, dx2, _, rfl, (upd_ne n1).trans g1, PK.cl, PK.n2, (by show 7 < 1000; decide), ?_⟩
  rw [kf_lots]
  have kA : Kept k2 H1 (upd (upd H1 lq (.lst (las.map V.ref))) k2 (.ins C2 dx2 (kf s m lq dp2 0 kp2))) := fun c o z n => by rw [upd_ne n, upd_ne (ne_of_none z nlq)]; exact z
  have hA : upd (upd H1 lq (.lst (las.map V.ref))) k2 (.ins C2 dx2 (kf s m lq dp2 0 kp2)) k2 = some (.ins C2 dx2 (kf s m lq dp2 0 kp2)) := upd_same
  have hlq : upd (upd H1 lq (.lst (las.map V.ref))) k2 (.ins C2 dx2 (kf s m lq dp2 0 kp2)) lq = some (.lst (las.map V.ref)) := by rw [upd_ne n1.symm]; exact upd_same
  have nlq0 : H lq = none := S1.free nlq
  generalize upd (upd H1 lq (.lst (las.map V.ref))) k2 (.ins C2 dx2 (kf s m lq dp2 0 kp2)) = H2 at kA hA hlq
  have S2 : Same H H2 := fun b u e => kA _ _ (S1 _ _ e) (ne_of_none e nk2)
  -- deeds
  refine ⟨_, rfl, k, C2, dx, _, _, rfl, S2 _ _ h1, PK.cl, PK.n3, kf_3 .., dp, _, rfl, .inl (SqL.of (S2 _ _ h5)), fun dq ndq => ?_⟩
  have n2 : k2 ≠ dq := ne_of_none hA ndq
  refine ⟨_, rfl, k2, C2, dx2, _, rfl, (upd_ne n2).trans hA, PK.cl, PK.n3, (by show 7 < 1000; decide), ?_⟩
  rw [kf_deeds]
  have kB : Kept k2 H2 (upd (upd H2 dq (.lst (das.map V.ref))) k2 (.ins C2 dx2 (kf s m lq dq 0 kp2))) := fun c o z n => by rw [upd_ne n, upd_ne (ne_of_none z ndq)]; exact z
  have hB : upd (upd H2 dq (.lst (das.map V.ref))) k2 (.ins C2 dx2 (kf s m lq dq 0 kp2)) k2 = some (.ins C2 dx2 (kf s m lq dq 0 kp2)) := upd_same
  have hdq : upd (upd H2 dq (.lst (das.map V.ref))) k2 (.ins C2 dx2 (kf s m lq dq 0 kp2)) dq = some (.lst (das.map V.ref)) := by rw [upd_ne n2.symm]; exact upd_same
  have ndq0 : H dq = none := S2.free ndq
  generalize upd (upd H2 dq (.lst (das.map V.ref))) k2 (.ins C2 dx2 (kf s m lq dq 0 kp2)) = H3 at kB hB hdq
  have S3 : Same H H3 := fun b u e => kB _ _ (S2 _ _ e) (ne_of_none e nk2)
  -- done
  refine ⟨_, rfl, k, C2, dx, _, _, rfl, S3 _ _ h1, PK.cl, PK.n4, kf_4 .., _, rfl, k2, C2, dx2, _, rfl, hB, PK.cl, PK.n4, (by show 7 < 1000; decide), ?_⟩
  rw [kf_done]
  have kC : Kept k2 H3 (upd H3 k2 (.ins C2 dx2 (kf s m lq dq d kp2))) := fun c o z n => by rw [upd_ne n]; exact z
  have hC : upd H3 k2 (.ins C2 dx2 (kf s m lq dq d kp2)) k2 = some (.ins C2 dx2 (kf s m lq dq d kp2)) := upd_same
  generalize upd H3 k2 (.ins C2 dx2 (kf s m lq dq d kp2)) = H4 at kC hC
  have S4 : Same H H4 := fun b u e => kC _ _ (S3 _ _ e) (ne_of_none e nk2)
  -- kept
  refine ⟨kp, _, S4 _ _ h7, trivial, fun od => ?_⟩
  have nkkp : k ≠ kp := ne_of h1 h7 (by intro z; cases z)
  refine ⟨_, rfl, k, C2, dx, _, _, rfl, (upd_ne nkkp).trans (S4 _ _ h1), PK.cl, PK.n5, kf_5 .., kp, od, [], rfl, upd_same, fun D nD => ?_⟩
  have nDkp : D ≠ kp := fun z => by rw [z, upd_same] at nD; cases nD
  have nD4 : H4 D = none := by rw [upd_ne nDkp] at nD; exact nD
  refine it_any (walk_items (d := kp) (o := od) (kvs := [])) (fun i H' => H' = upd (upd H4 kp (.frz od (.dK []))) D (.dK [])) rfl (fun i H' _ e => by rw [e, upd_ne nDkp.symm]; exact upd_same) (fun i _ _ _ hi => absurd hi (Nat.not_lt_zero _)) ?_
  rintro H5 rfl
  refine ⟨by rw [upd_ne nDkp.symm]; exact upd_same, ?_⟩
  have eh : upd (upd (upd H4 kp (.frz od (.dK []))) D (.dK [])) kp (.dK []) = upd H4 D (.dK []) := by
    funext b
    by_cases c1 : b = kp
    · rw [c1, upd_same, upd_ne nDkp.symm]
      exact (S4 _ _ h7).symm
    · rw [upd_ne c1]
      by_cases c2 : b = D
      · rw [c2, upd_same, upd_same]
      · rw [upd_ne c2, upd_ne c1, upd_ne c2]
  rw [eh]
  have n3 : k2 ≠ D := ne_of_none hC nD4
  have nD0 : H D = none := S4.free nD4
  refine ⟨_, rfl, k2, C2, dx2, _, rfl, (upd_ne n3).trans hC, PK.cl, PK.n5, (by show 7 < 1000; decide), ?_⟩
  rw [kf_kept]
  have kE : Kept k2 H4 (upd (upd H4 D (.dK [])) k2 (.ins C2 dx2 (kf s m lq dq d D))) := fun c o z n => by rw [upd_ne n, upd_ne (ne_of_none z nD4)]; exact z
  have hE : upd (upd H4 D (.dK [])) k2 (.ins C2 dx2 (kf s m lq dq d D)) k2 = some (.ins C2 dx2 (kf s m lq dq d D)) := upd_same
  have hD5 : upd (upd H4 D (.dK [])) k2 (.ins C2 dx2 (kf s m lq dq d D)) D = some (.dK []) := by rw [upd_ne n3.symm]; exact upd_same
  generalize upd (upd H4 D (.dK [])) k2 (.ins C2 dx2 (kf s m lq dq d D)) = H5 at kE hE hD5
  have S5 : Same H H5 := fun b u e => kE _ _ (S4 _ _ e) (ne_of_none e nk2)
  -- reckoned
  refine ⟨_, rfl, k, C2, dx, _, _, rfl, S5 _ _ h1, PK.cl, PK.n6, kf_6 .., _, rfl, k2, C2, dx2, _, rfl, hE, PK.cl, PK.n6, (by show 7 < 1000; decide), ?_⟩
  rw [kf_reck]
  have kF : Kept k2 H5 (upd H5 k2 (.ins C2 dx2 (kf s m lq dq d D))) := fun c o z n => by rw [upd_ne n]; exact z
  have hF : upd H5 k2 (.ins C2 dx2 (kf s m lq dq d D)) k2 = some (.ins C2 dx2 (kf s m lq dq d D)) := upd_same
  generalize upd H5 k2 (.ins C2 dx2 (kf s m lq dq d D)) = H6 at kF hF
  have S6 : Same H H6 := fun b u e => kF _ _ (S5 _ _ e) (ne_of_none e nk2)
  have e1 := kF _ _ (kE _ _ (kC _ _ (kB _ _ hlq n1.symm) n1.symm) n1.symm) n1.symm
  have e2 := kF _ _ (kE _ _ (kC _ _ hdq n2.symm) n2.symm) n2.symm
  have e3 := kF _ _ hD5 n3.symm
  refine ⟨_, rfl, q H6 k2 nk2 S6 fun N hN hsub => ?_⟩
  have hN6 := hN.same S6
  refine ⟨dx2, lq, dq, D, las, das, by rw [wo_of (hN.new nk2)]; exact hF, by rw [wo_of (hN.new nlq0)]; exact e1, h3, fun i a hi => ?_, by rw [wo_of (hN.new ndq0)]; exact e2, paired_mono (fun p e hp => ?_) h6, by rw [wo_of (hN.new nD0)]; exact e3⟩
  · obtain ⟨tl, dy, g1, ts, g2, g3⟩ := h4M i a hi
    have hL : LotAt C a tl s (told (st Ds i)) (wo M H) := ⟨dy, g1, ts, g2, g3⟩
    refine ⟨tl, lot_wo ((hL.same wo_same).same S6) (fun c => ?_) (fun c => ?_) hN6⟩
    · rcases hsub _ c with z | z
      · exact wo_get g1 z
      · have g1' := wo_same _ _ g1
        rw [z, h1] at g1'
        have := congrArg (fun o : Option HO => match o with | some (.ins _ _ fs) => fs.length | _ => 0) g1'
        simp [kf, lf_eq] at this
    · rcases hsub _ c with z | z
      · exact wo_get g2 z
      · have g2' := wo_same _ _ g2
        rw [z, h1] at g2'
        cases g2'
  · show wo N H6 p = _
    have hp6 : H6 p = _ := S6 _ _ hp
    rw [wo_of (hN6.tup hp6)]
    exact hp6
end
end My
set_option maxHeartbeats 4000000
/-! set(texts), sorted(set(texts)), len(set(texts)) -/
namespace My
open PySem PySem.Spec PyProof.Rows L2
/-- the text of an entry -/
def txtOf (e : Int × Value) : Str := match e.2 with | .str k _ => k | _ => Str.empty
def GoodT (w : World) (e : Int × Value) : Prop := ∃ k tk, e.2 = Value.str k tk ∧ e.1 = hashStr w k
/-- a set of texts: S its members, n their number -/
def SetTx (w : World) (h : Heap) (a : Addr) (S : Str → Bool) (n : Nat) : Prop :=
  ∃ o es ep t, h.get? a = some o ∧ o.ExactSet ∧ o.data = .set es ep t ∧ (∀ e ∈ es.toList, GoodT w e) ∧ (es.toList.map txtOf).Nodup ∧ (∀ k, S k = true ↔ k ∈ es.toList.map txtOf) ∧
    (es.size < scanBound ∧ t.fits es.size = true ∧ es.size = n) ∧ Ris t.place.toList ∧ (w.params.followText "set-order" = true ∨ t.led = true)
section
variable {P : Program} {w : World} {h h' : Heap} {a : Addr} {S : Str → Bool} {n : Nat}
theorem SetTx.at (R : SetTx w h a S n) (k : ∀ o, h.get? a = some o → h'.get? a = some o) : SetTx w h' a S n := by
  obtain ⟨o, es, ep, t, ho, r⟩ := R
  exact ⟨o, es, ep, t, k o ho, r⟩
theorem SetTx.congr {S' : Str → Bool} {m : Nat} (R : SetTx w h a S n) (e : ∀ k, S' k = S k) (em : n = m) : SetTx w h a S' m := by
  rw [show S' = S from funext e, ← em]
  exact R
theorem goodT_elems {l : List (Int × Value)} (g : ∀ e ∈ l, GoodT w e) : ElemsOf (PySem.strKind P w) l := fun e he => by
  obtain ⟨k, tk, g1, g2⟩ := g e he
  exact ⟨⟨k, by rw [g1]; exact strKind_is P w k tk, g2⟩, by rw [g1]; rfl⟩
theorem goodT_is {e : Int × Value} (g : GoodT w e) (k : Str) : (PySem.strKind P w).is k e.2 = true ↔ txtOf e = k := by
  obtain ⟨k0, tk, g1, _⟩ := g
  unfold txtOf
  rw [g1]
  constructor
  · intro q
    exact (PySem.strKind P w).inj _ _ _ (strKind_is P w k0 tk) q
  · intro q
    show (PySem.strKind P w).is k (.str k0 tk) = true
    rw [show k0 = k from q]
    exact strKind_is P w k tk
theorem goodT_mem {l : List (Int × Value)} (g : ∀ e ∈ l, GoodT w e) (k : Str) : k ∈ l.map txtOf ↔ ∃ e ∈ l, (PySem.strKind P w).is k e.2 = true := by
  rw [List.mem_map]
  exact ⟨fun ⟨e, he, q⟩ => ⟨e, he, (goodT_is (g e he) k).2 q⟩, fun ⟨e, he, q⟩ => ⟨e, he, (goodT_is (P := P) (g e he) k).1 q⟩⟩
theorem SetTx.setOf (R : SetTx w h a S n) : h.SetOf (PySem.strKind P w) a S n := by
  obtain ⟨o, es, ep, t, ho, hx, hd, g, nd, hm, ⟨hb, hf, hn⟩, _⟩ := R
  exact ⟨o, es, ep, t, ho, hx, hd, goodT_elems g, fun k => (hm k).trans (goodT_mem g k), hb, hf, hn⟩
end
section
variable {P : Program} {w : World} {A : Around} {E : Value → Shared → Prop} {s : Shared} {a : Addr} {S : Str → Bool} {n : Nat}
theorem tx_tail {g : Bool → Sem Unit} (hg : ∀ (b : Bool) (s₁ : Shared) (Q' : Unit → Shared → Prop), Q' () s₁ → wpAny (model P w) A (g b) Q' E s₁)
    {o : Obj} {es : Array (Int × Value)} {ep : Nat} {t : SetTable} (ho : s.heap.get? a = some o) (hex : o.ExactSet) (hd : o.data = .set es ep t)
    {es1 : Array (Int × Value)} {t2 : SetTable} {S' : Str → Bool} (g1 : ∀ e ∈ es1.toList, GoodT w e) (nd1 : (es1.toList.map txtOf).Nodup) (m1 : ∀ k, S' k = true ↔ k ∈ es1.toList.map txtOf)
    (room : es1.size < scanBound) (fit : t2.fits es1.size = true) (ris : Ris t2.place.toList) (led : w.params.followText "set-order" = true ∨ t2.led = true) {wasDummy : Bool} {R : Option Bool → Shared → Prop}
    (hR : ∀ h', Heap.SameBut a s.heap h' → SetTx w h' a S' es1.size → R (some true) { s with heap := h' }) :
    wpAny (model P w) A (do
        storeSet a es1 t2
        if (!wasDummy && t2.tooFull) = true then do
            g (relayAll t2 es1 (SetTable.grown es1.size)).2.2
            storeSet a (relayAll t2 es1 (SetTable.grown es1.size)).1 (relayAll t2 es1 (SetTable.grown es1.size)).2.1
            pure (some true)
          else pure (some true)) R E s := by
  refine wpAny_bind (wpAny_storeSet_of ho hd ?_ (fits_of_scanBound room))
  have st1 := store_at (es' := es1) (t' := t2) ho hd
  have same1 := Heap.SameBut.update s.heap a (Obj.putSet es1 t2)
  split
  · have p3 := relayAll_perm t2 es1 (SetTable.grown es1.size)
    have f3 := relayAll_fits t2 es1 (SetTable.grown es1.size)
    have r3 := relayAll_ris t2 es1 (SetTable.grown es1.size)
    have l3 := relayAll_led t2 es1 (SetTable.grown es1.size)
    generalize relayAll t2 es1 (SetTable.grown es1.size) = Z at p3 f3 r3 l3 ⊢
    obtain ⟨es2, t3, gave⟩ := Z
    dsimp only at p3 f3 r3 l3 ⊢
    have z2 : es2.size = es1.size := by rw [← Array.length_toList, p3.length_eq, Array.length_toList]
    have b2 : es2.size < scanBound := by rw [z2]; exact room
    refine wpAny_bind (hg _ _ _ (wpAny_bind (wpAny_storeSet_of st1 rfl ?_ (fits_of_scanBound b2))))
    have st2 := store_at (es' := es2) (t' := t3) st1 rfl
    exact wpAny_pure (hR _ (same1.trans (Heap.SameBut.update _ a _)) ⟨_, es2, _, t3, st2, hex, rfl, fun e he => g1 e (p3.mem_iff.mp he), (p3.map txtOf).nodup_iff.mpr nd1, fun k => (m1 k).trans (p3.map txtOf).mem_iff.symm, ⟨b2, f3, z2⟩, r3, led.imp id fun z => by rw [l3]; exact z⟩)
  · exact wpAny_pure (hR _ same1 ⟨_, es1, _, t2, st1, hex, rfl, g1, nd1, m1, ⟨room, fit, rfl⟩, ris, led⟩)
theorem tx_add {k : Str} {tk : Tok} {Q : Bool → Shared → Prop} (R : SetTx w s.heap a S n) (room : n + 1 < scanBound)
    (hQ : ∀ h', Heap.SameBut a s.heap h' → SetTx w h' a (fun j => S j || decide (j = k)) (if S k = true then n else n + 1) → Q (!S k) { s with heap := h' }) :
    wpAny (model P w) A (setAddHashed a (.str k tk) ((PySem.strKind P w).hash k)) Q E s := by
  obtain ⟨o, es, ep, t, ho, hex, hd, g, nd, hm, ⟨hb, hf, hn⟩, hr, hl⟩ := R
  have is_k : (PySem.strKind P w).is k (.str k tk) = true := strKind_is P w k tk
  have scan : (Value.str k tk).scannable = true := rfl
  have elems : ElemsOf (PySem.strKind P w) es.toList := goodT_elems g
  unfold setAddHashed setAddHashedIn
  refine wpAny_holding (wpAny_bind (wpAny_setState_of ho hd hf ?_))
  dsimp only
  rw [byScan_of scan hb elems]
  simp only [↓reduceIte]
  unfold setAddByScan
  refine wpAny_bind (wpAny_bind (wpAny_rule ?_))
  refine wpAny_bind (wpAny_setScan_of is_k ho hd hf elems ?_)
  cases at_ : List.findIdx? (fun e => (PySem.strKind P w).is k e.2) es.toList with
  | some j =>
    dsimp only
    obtain ⟨hj, pj, _⟩ := List.findIdx?_eq_some_iff_getElem.mp at_
    have inS : S k = true := (hm k).2 ((goodT_mem (P := P) g k).2 ⟨es.toList[j], List.getElem_mem hj, pj⟩)
    refine wpAny_pure (wpAny_pure ?_)
    have q := hQ s.heap (Heap.SameBut.refl a s.heap) ⟨o, es, ep, t, ho, hex, hd, g, nd, fun i => by
      rw [Bool.or_eq_true, decide_eq_true_eq, ← hm i]
      exact ⟨fun z => z.elim id (fun e => e ▸ inS), .inl⟩, ⟨hb, hf, by rw [if_pos inS]; exact hn⟩, hr, hl⟩
    rw [inS] at q
    exact q
  | none =>
    dsimp only
    have out : k ∉ es.toList.map txtOf := fun z => by
      obtain ⟨e, he, q⟩ := (goodT_mem (P := P) g k).1 z
      have c := List.findIdx?_eq_none_iff.mp at_ e he
      rw [q] at c
      cases c
    have noS : S k = false := by
      cases q : S k with
      | false => rfl
      | true => exact absurd ((hm k).1 q) out
    have gave_ : ∀ (b : Bool) {s₁ : Shared} {Q' : Unit → Shared → Prop}, Q' () s₁ → wpAny (model P w) A (match b with | true => rule "set.scan.the-table-gave-way" | false => pure ()) Q' E s₁ :=
      fun b s₁ Q' q => by cases b <;> first | exact wpAny_pure q | exact wpAny_rule q
    have p1 := layNew_perm t es ((PySem.strKind P w).hash k) (.str k tk)
    have f1 := layNew_fits t es ((PySem.strKind P w).hash k) (.str k tk)
    have r1 := layNew_ris t es ((PySem.strKind P w).hash k) (.str k tk) hr
    have l1 := layNew_led t es ((PySem.strKind P w).hash k) (.str k tk)
    generalize layNew t es ((PySem.strKind P w).hash k) (.str k tk) = Z at p1 f1 r1 l1 ⊢
    obtain ⟨es1, t1, wasDummy, gave⟩ := Z
    dsimp only at p1 f1 r1 l1 ⊢
    rw [Array.toList_push] at p1
    have pc : es1.toList.Perm (((PySem.strKind P w).hash k, Value.str k tk) :: es.toList) := p1.trans (List.perm_append_singleton _ _)
    have pk : (es1.toList.map txtOf).Perm (k :: es.toList.map txtOf) := pc.map txtOf
    have g1 : ∀ e ∈ es1.toList, GoodT w e := fun e he => by
      rcases List.mem_cons.mp (pc.mem_iff.mp he) with z | z
      · rw [z]; exact ⟨k, tk, rfl, rfl⟩
      · exact g e z
    have nd1 : (es1.toList.map txtOf).Nodup := pk.nodup_iff.mpr (List.nodup_cons.mpr ⟨out, nd⟩)
    have m1 : ∀ i, (S i || decide (i = k)) = true ↔ i ∈ es1.toList.map txtOf := fun i => by
      rw [Bool.or_eq_true, decide_eq_true_eq, hm i, pk.mem_iff, List.mem_cons]
      exact Or.comm
    have z1 : es1.size = n + 1 := by rw [← Array.length_toList, pc.length_eq, List.length_cons, Array.length_toList, hn]
    have b1 : es1.size < scanBound := by rw [z1]; exact room
    have led1 : w.params.followText "set-order" = true ∨ t1.led = true := hl.imp id fun z => by rw [l1]; exact z
    have fin : ∀ h', Heap.SameBut a s.heap h' → SetTx w h' a (fun j => S j || decide (j = k)) es1.size → Q true { s with heap := h' } := fun h' sb r => by
      have q := hQ h' sb
      rw [noS] at q
      rw [z1] at r
      exact q r
    refine wpAny_bind (gave_ _ ?_)
    split
    · refine wpAny_bind ?_
      rw [hashByValue_scannable 8 scan]
      refine wpAny_pure ?_
      refine tx_tail ?_ ho hex hd g1 nd1 m1 b1 ?_ ?_ ?_ ?_
      · intro b s₁ Q' q; cases b <;> first | exact wpAny_pure q | exact wpAny_rule q
      · first | (split <;> first | exact f1 | exact SetTable.fits_plain_off f1) | exact f1
      · first | (split <;> exact r1) | exact r1
      · first | (split <;> exact led1) | exact led1
      · intro h' sb r; dsimp only; exact wpAny_pure (fin h' sb r)
    · refine wpAny_bind (wpAny_pure ?_)
      simp only [↓reduceIte]
      refine tx_tail ?_ ho hex hd g1 nd1 m1 b1 f1 r1 led1 ?_
      · intro b s₁ Q' q; cases b <;> first | exact wpAny_pure q | exact wpAny_rule q
      · intro h' sb r; dsimp only; exact wpAny_pure (fin h' sb r)
end
end My
set_option maxHeartbeats 4000000
namespace My
open PySem PySem.Spec PyProof.Rows L2
/-! ### sorted(a set of texts), len of it -/
def textIn : Value → Str | .str x _ => x | _ => Str.empty
theorem each_text : ∀ l : List Value, (∀ v ∈ l, ∃ k tk, v = Value.str k tk) → PySem.W.EachIs (fun v b => ∃ t, v = Value.str b t) l (l.map textIn)
  | [], _ => .nil
  | v :: l, h => by
    obtain ⟨k, tk, rfl⟩ := h v List.mem_cons_self
    exact .cons ⟨tk, rfl⟩ (each_text l fun u hu => h u (List.mem_cons_of_mem _ hu))
theorem vals_text : ∀ {out : List Value} {M : List Str}, PySem.W.EachIs (fun v b => ∃ t, v = Value.str b t) out M → Vals (M.map V.str) out
  | _, _, .nil => .nil
  | _, _, .cons h t => .cons (show RelV _ _ from h) (vals_text t)
section
variable {P : Program} {w : World} {A : Around} {E : Value → Shared → Prop} {s : Shared} {a : Addr} {S : Str → Bool} {n : Nat}
theorem sorted_texts {Q : Value → Shared → Prop} (R : SetTx w s.heap a S n) (calm : A.handled = none) (small : n ≤ 100000) (hu : A.units + 64 < cLine)
    (hQ : ∀ s' p (out : Array Value) (c : Nat) (M : List Str), (∀ b o, s.heap.get? b = some o → s'.heap.get? b = some o) → s'.gens = s.gens → s'.os = s.os → s.heap.objs.size ≤ p →
      s'.heap.get? p = some (seqObj "list" out c) → Vals (M.map V.str) out.toList → M.Pairwise sLt → (∀ k, k ∈ M ↔ S k = true) → M.length = n → Q (.ref p) s') :
    wpAny (model P w) A (call (.builtin "sorted") [.ref a]) Q E s := by
  obtain ⟨o, es, ep, t, ho, hex, hd, g, nd, hm, ⟨hb, hf, hn⟩, hr, hl⟩ := R
  have line : n ≤ sizeLine := Nat.le_trans small (by decide)
  refine Calls.call_function_entry kind_sorted plain_sorted entry_sorted (args_sorted1 _) ?_
  unfold Builtin.«sorted»
  refine wpAny_bind (m := checkCount "sorted" 1 1 _) (wpAny_pure ?_)
  refine wpAny_bind (collect_set (A := A.in1) calm ⟨o, ho, hex.1, hd⟩ hf hb hr hl fun s1 vs k1 hz g1 o1 pm => ?_)
  have many : vs.length = n := by rw [pm.length_eq, List.length_map, Array.length_toList]; exact hn
  have each := each_text vs fun v hv => by
    obtain ⟨e, he, q⟩ := List.mem_map.mp (pm.mem_iff.mp hv)
    obtain ⟨k, tk, h1, _⟩ := g e he
    exact ⟨k, tk, by rw [← q]; exact h1⟩
  have pk : (vs.map textIn).Perm (es.toList.map txtOf) := by
    have q := pm.map textIn
    rw [List.map_map] at q
    exact q
  have nd2 : (vs.map textIn).Nodup := pk.nodup_iff.mpr nd
  refine wpAny_bind (wpAny_newList ?_ (by rw [many]; exact line))
  have laid : (s1.heap.push (seqObj "list" vs.toArray 0)).get? s1.heap.objs.size = some (seqObj "list" vs.toArray 0) := Heap.get?_push_size _ rfl
  refine wpAny_bind (wpAny_holding (PySem.W.list_sort_data (s := { s1 with heap := s1.heap.push (seqObj "list" vs.toArray 0) }) (enc := PyData.str) (bs := vs.map textIn) laid each (each.mono fun v b ⟨t, e⟩ => ⟨[], by rw [e]; exact .str _ _, by simp⟩) ?_ ?_ ?_ ?_ fun out len outs => ?_))
  · intro d hd d' hd'
    obtain ⟨x, _, rfl⟩ := List.mem_map.mp hd
    obtain ⟨y, _, rfl⟩ := List.mem_map.mp hd'
    rfl
  · exact .others (enc := PyData.str) fun b => ⟨fun z => (by cases z), fun xs z => (by cases z)⟩
  · rw [List.length_map, many]; exact line
  · intro b _
    show A.units + 1 + 1 + 0 < cLine
    omega
  · obtain ⟨c, hc⟩ := sortedHeap_at (vs := vs) (out := out.toArray) laid
    rw [show PySem.W.dataLe false PyData.str = leS from dataLe_s] at outs
    have pn : ((vs.map textIn).mergeSort leS).Perm (es.toList.map txtOf) := (List.mergeSort_perm _ _).trans pk
    refine wpAny_pure ⟨_, rfl, hQ _ s1.heap.objs.size out.toArray c ((vs.map textIn).mergeSort leS) (fun b u e => ?_) g1 o1 hz hc (by simpa using vals_text outs) (texts_of nd2) (fun k => by rw [pn.mem_iff, ← hm k]) ?_⟩
    · have q := k1 b u e
      have hlt := Heap.lt_size q
      show (sortedHeap (s1.heap.push (seqObj "list" vs.toArray 0)) s1.heap.objs.size vs out.toArray).get? b = some u
      rw [sortedHeap_old (Nat.ne_of_lt hlt) (by rw [size_push']; exact Nat.lt_succ_of_lt hlt)]
      exact Heap.get?_push_of_some _ q
    · rw [pn.length_eq, List.length_map, Array.length_toList]; exact hn
end
/-- a set of texts in the heap -/
def TxO (w : World) (a : Addr) (S : Str → Bool) (n : Nat) : HO := .ext fun h => SetTx w h a S n
section
variable {X : Cx}
theorem txO_new {w : World} {P : Program} {H : Hp} {h : Heap} {a : Addr} {S : Str → Bool} {n : Nat} (R : SetTx w h a S n) : ObjOk P w H h a (TxO w a S n) := by
  have ⟨o, _, _, _, ho, _⟩ := R
  exact ⟨R, ⟨o, ho⟩, fun _ _ p k => SetTx.at p k⟩
theorem txO_get {pins : List (Addr × Obj)} {σ : L2.St} {H : Hp} {s : Shared} {a : Addr} {S : Str → Bool} {n : Nat} (I : Inv X pins σ H s) (ha : H a = some (TxO X.w a S n)) : SetTx X.w s.heap a S n := (I.hok a _ ha).1
/-- sorted(found) -/
def rSortTx (w : World) : List V → Hp → VK → Prop := fun vs H Q => ∃ (a : Addr) (S : Str → Bool) (n : Nat), vs = [V.ref a] ∧ H a = some (TxO w a S n) ∧ n ≤ 100000 ∧
  ∀ (M : List Str) (p : Addr), M.Pairwise sLt → (∀ k : Str, k ∈ M ↔ S k = true) → M.length = n → H p = none → Q (.ref p) (upd H p (.lst (M.map V.str)))
theorem cr_sortTx (hc : X.calm = true) (hu : X.A.units + 64 < cLine) : CallR X (.builtin "sorted") (rSortTx X.w) := by
  intro pins s σ H vs us Q I r h
  obtain ⟨a, S, n, rfl, ha, small, q⟩ := h
  have R := txO_get I ha
  rw [Vals.ref1 r]
  refine sorted_texts R (I.ok.hd hc) small hu fun s' p out c M k g o hp hg hv hs hm hl => ?_
  have line : (M.map V.str).length ≤ sizeLine := by rw [List.length_map, hl]; exact Nat.le_trans small (by decide)
  have free : H p = none := I.hok.fresh hp
  have J : Inv X pins σ (upd H p (.lst (M.map V.str))) { s with heap := s'.heap, gens := s'.gens, drawn := s'.drawn, toks := s'.toks } :=
    I.call (ch := []) (Un.laid k hp free) (I.hok.laid k hp ⟨line, out.toList, c, hv, hg⟩) (by rw [g]; exact I.bare) (fun _ z => nomatch z)
  have same : s' = { s with heap := s'.heap, gens := s'.gens, drawn := s'.drawn, toks := s'.toks } := by
    cases s'
    cases s
    cases o
    rfl
  rw [same]
  exact ⟨.ref p, _, J, rfl, q M p hs hm hl free⟩
/-- len(found) -/
theorem cr_lenTx : CallR X (.builtin "len") (fun vs H Q => ∃ (a : Addr) (S : Str → Bool) (n : Nat), vs = [V.ref a] ∧ H a = some (TxO X.w a S n) ∧ n ≤ 100000 ∧ Q (.int (n : Int)) H) := by
  intro pins s σ H vs us Q I r h
  obtain ⟨a, S, n, rfl, ha, small, q⟩ := h
  obtain ⟨o, es, ep, t, ho, hex, hd, _, _, _, ⟨_, hf, hn⟩, _⟩ := txO_get I ha
  rw [Vals.ref1 r]
  exact call_len_set ho hex hd hf (by rw [hn]; omega) ⟨.int (n : Int), H, I.tok _, ⟨_, by rw [hn]⟩, q⟩
end
end My
set_option maxHeartbeats 4000000
namespace My
open PySem PySem.Spec PyProof.Rows L2
/-! ### sorted(a list or a tuple of texts) -/
theorem textIn_of : ∀ {xs : List Str} {us : List Value}, Vals (xs.map V.str) us → (∀ v ∈ us, ∃ k tk, v = Value.str k tk) ∧ us.map textIn = xs
  | [], _, .nil => ⟨fun v hv => by simp at hv, rfl⟩
  | x :: xs, _, .cons r t => by
    obtain ⟨h1, h2⟩ := textIn_of (xs := xs) t
    obtain ⟨tk, rfl⟩ := r
    refine ⟨fun v hv => ?_, by rw [List.map_cons, h2]; rfl⟩
    rcases List.mem_cons.mp hv with z | z
    · exact ⟨x, tk, z⟩
    · exact h1 v z
section
variable {P : Program} {w : World} {A : Around} {E : Value → Shared → Prop} {s : Shared} {a : Addr}
theorem gather {Q : List Value → Shared → Prop} (q : Addr) {T : String} {o : Obj} {ys : Array Value} {n : Nat} (hT : T = "list" ∨ T = "tuple")
    (ho : s.heap.get? q = some o) (hc : o.cls = .type T) (hd : o.data = .seq ys n) (line : ys.size ≤ sizeLine)
    (hQ : ∀ h', (∀ b o', s.heap.get? b = some o' → h'.get? b = some o') → s.heap.objs.size ≤ h'.objs.size → Q ys.toList { s with heap := h' }) :
    wpAny (model P w) A (collect (.ref q)) Q E s := by
  unfold collect
  refine wpAny_bind (wpAny_runValue (codeAny_builtin PySem.F.entry_proto_collect ?_))
  rw [Around.under_plainId PySem.F.plain_proto_collect _]
  show wpAny _ A.in1 (newList [] >>= fun l => again (.builtin "list.__iadd__" ⟨[l, .ref q], []⟩)) _ _ s
  refine wpAny_bind (wpAny_newObj_type ?_)
  refine wpAny_pure ⟨plainId_quiet PySem.F.plain_list_iadd _, codeAny_builtin PySem.F.entry_list_iadd ?_⟩
  rw [Around.under_plainId PySem.F.plain_list_iadd _]
  show wpAny _ A.in1 (Builtin.List.listExtendWith (.ref s.heap.objs.size) (.ref q) (.ref s.heap.objs.size)) _ _ _
  have new1 : (s.heap.push { cls := .type "list", data := .seq ([] : List Value).toArray }).get? s.heap.objs.size = some { cls := .type "list", data := .seq #[] 0 } := Heap.get?_push_size _ rfl
  have new2 := Heap.get?_update_self (Obj.mapSeq (· ++ ys)) new1 rfl
  have told_ : wpAny (model P w) A (match Value.ref s.heap.objs.size with
      | Value.ref a => do
        match (← load a).data with
          | Data.seq xs _ => pure xs.toList
          | _ => unsupported "internal:collect"
      | _ => unsupported "internal:collect") Q E { s with heap := (s.heap.push { cls := .type "list", data := .seq ([] : List Value).toArray }).update s.heap.objs.size (Obj.mapSeq (· ++ ys)) } := by
    show wpAny _ A (load s.heap.objs.size >>= _) _ _ _
    refine wpAny_bind (wpAny_load new2 (wpAny_pure ?_))
    show Q ((#[] : Array Value) ++ ys).toList _
    rw [show ((#[] : Array Value) ++ ys).toList = ys.toList by simp]
    refine hQ _ (fun b o' hb => (Heap.get?_update_other _ _ (Nat.ne_of_gt (Heap.lt_size hb))).trans (Heap.get?_push_of_some _ hb)) ?_
    exact Nat.le_of_lt (Heap.lt_size new2)
  refine wpAny_mono (wpAny_extend_seq (hsz := line) (A := A) (R := fun r s' => r = .ok (.ret (.ref s.heap.objs.size)) ∧ s' = { s with heap := (s.heap.push { cls := .type "list", data := .seq ([] : List Value).toArray }).update s.heap.objs.size (Obj.mapSeq (· ++ ys)) })
    (s := { s with heap := s.heap.push { cls := .type "list", data := .seq ([] : List Value).toArray } }) _ q _ 0 hT new1 (Heap.get?_push_of_some _ ho) hc hd ⟨rfl, rfl⟩) (fun fin s' h => ?_) (fun e s' h => ?_)
  · cases fin with
    | done f =>
      obtain ⟨e, rfl⟩ := h
      cases e
      exact told_
    | again c' => exact ⟨h.1, codeAny_mono h.2 fun r s'' hr => by obtain ⟨rfl, rfl⟩ := hr; exact told_⟩
  · exact absurd h.1 (by simp)
theorem sorted_seq {Q : Value → Shared → Prop} {T : String} {o : Obj} {ys : Array Value} {n : Nat} {xs : List Str} (hT : T = "list" ∨ T = "tuple") (ho : s.heap.get? a = some o) (hc : o.cls = .type T) (hd : o.data = .seq ys n)
    (rv : Vals (xs.map V.str) ys.toList) (small : xs.length ≤ 100000) (hu : A.units + 64 < cLine)
    (hQ : ∀ s' p (out : Array Value) (c : Nat), (∀ b o, s.heap.get? b = some o → s'.heap.get? b = some o) → s'.gens = s.gens → s'.os = s.os → s.heap.objs.size ≤ p →
      s'.heap.get? p = some (seqObj "list" out c) → Vals ((xs.mergeSort leS).map V.str) out.toList → Q (.ref p) s') :
    wpAny (model P w) A (call (.builtin "sorted") [.ref a]) Q E s := by
  obtain ⟨each0, eM⟩ := textIn_of rv
  have many : ys.toList.length = xs.length := by rw [← vals_len rv, List.length_map]
  have line : ys.size ≤ sizeLine := by rw [← Array.length_toList, many]; exact Nat.le_trans small (by decide)
  refine Calls.call_function_entry kind_sorted plain_sorted entry_sorted (args_sorted1 _) ?_
  unfold Builtin.«sorted»
  refine wpAny_bind (m := checkCount "sorted" 1 1 _) (wpAny_pure ?_)
  refine wpAny_bind (gather (A := A.in1) a hT ho hc hd line fun h1 k1 hz => ?_)
  have each := each_text ys.toList each0
  refine wpAny_bind (wpAny_newList ?_ (by rw [many]; exact Nat.le_trans small (by decide)))
  have laid : (h1.push (seqObj "list" ys.toList.toArray 0)).get? h1.objs.size = some (seqObj "list" ys.toList.toArray 0) := Heap.get?_push_size _ rfl
  refine wpAny_bind (wpAny_holding (PySem.W.list_sort_data (s := { s with heap := h1.push (seqObj "list" ys.toList.toArray 0) }) (enc := PyData.str) (bs := ys.toList.map textIn) laid each (each.mono fun v b ⟨t, e⟩ => ⟨[], by rw [e]; exact .str _ _, by simp⟩) ?_ ?_ ?_ ?_ fun out len outs => ?_))
  · intro d hd d' hd'
    obtain ⟨x, _, rfl⟩ := List.mem_map.mp hd
    obtain ⟨y, _, rfl⟩ := List.mem_map.mp hd'
    rfl
  · exact .others (enc := PyData.str) fun b => ⟨fun z => (by cases z), fun xs z => (by cases z)⟩
  · rw [List.length_map, many]; exact Nat.le_trans small (by decide)
  · intro b _
    show A.units + 1 + 1 + 0 < cLine
    omega
  · obtain ⟨c, hc⟩ := sortedHeap_at (vs := ys.toList) (out := out.toArray) laid
    rw [show PySem.W.dataLe false PyData.str = leS from dataLe_s, eM] at outs
    refine wpAny_pure ⟨_, rfl, hQ _ h1.objs.size out.toArray c (fun b u e => ?_) rfl rfl hz hc (by simpa using vals_text outs)⟩
    have q := k1 b u e
    have hlt := Heap.lt_size q
    show (sortedHeap (h1.push (seqObj "list" ys.toList.toArray 0)) h1.objs.size ys.toList out.toArray).get? b = some u
    rw [sortedHeap_old (Nat.ne_of_lt hlt) (by rw [size_push']; exact Nat.lt_succ_of_lt hlt)]
    exact Heap.get?_push_of_some _ q
end
section
variable {X : Cx}
def rSortSq (K : PySem.W.Frag) : List V → Hp → VK → Prop := fun vs H Q => ∃ (a : Addr) (xs : List Str), vs = [V.ref a] ∧ (SqL K H a (xs.map V.str) ∨ SqT K H a (xs.map V.str)) ∧ xs.length ≤ 100000 ∧
  ∀ (p : Addr), H p = none → Q (.ref p) (upd H p (.lst ((xs.mergeSort leS).map V.str)))
theorem cr_sortSq (hu : X.A.units + 64 < cLine) : CallR X (.builtin "sorted") (rSortSq X.K) := by
  intro pins s σ H vs us Q I r h
  obtain ⟨a, xs, rfl, hq, small, q⟩ := h
  rw [Vals.ref1 r]
  have line : ((xs.mergeSort leS).map V.str).length ≤ sizeLine := by rw [List.length_map, List.length_mergeSort]; exact Nat.le_trans small (by decide)
  have fin : ∀ s' p (out : Array Value) (c : Nat), (∀ b o, s.heap.get? b = some o → s'.heap.get? b = some o) → s'.gens = s.gens → s'.os = s.os → s.heap.objs.size ≤ p →
      s'.heap.get? p = some (seqObj "list" out c) → Vals ((xs.mergeSort leS).map V.str) out.toList → EP X pins σ Q (.ref p) s' := fun s' p out c k g o hp hg hv => by
    have free : H p = none := I.hok.fresh hp
    have J : Inv X pins σ (upd H p (.lst ((xs.mergeSort leS).map V.str))) { s with heap := s'.heap, gens := s'.gens, drawn := s'.drawn, toks := s'.toks } :=
      I.call (ch := []) (Un.laid k hp free) (I.hok.laid k hp ⟨line, out.toList, c, hv, hg⟩) (by rw [g]; exact I.bare) (fun _ z => nomatch z)
    have same : s' = { s with heap := s'.heap, gens := s'.gens, drawn := s'.drawn, toks := s'.toks } := by
      cases s'
      cases s
      cases o
      rfl
    rw [same]
    exact ⟨.ref p, _, J, rfl, q p free⟩
  rcases hq with hq | hq
  · obtain ⟨its, rv, pl, hz⟩ := I.list hq
    obtain ⟨o, ho, hc, n, hd⟩ := pl.isList
    exact sorted_seq (.inl rfl) ho hc hd (by simpa using rv) small hu fin
  · obtain ⟨its, rv, pl, hz⟩ := I.tuple hq
    obtain ⟨o, ho, hc, n, hd⟩ := pl
    exact sorted_seq (.inr rfl) ho hc hd (by simpa using rv) small hu fin
end
end My
set_option maxHeartbeats 4000000
namespace My
open PySem L2 PyProof.Rows
theorem T_len (l : List Nat) : (⟨l.toArray⟩ : Str).length = l.length := by simp [Str.length]
theorem T_line {l : List Nat} (h : l.length ≤ 1000) : (⟨l.toArray⟩ : Str).length ≤ sizeLine := by
  rw [T_len]
  exact Nat.le_trans h (by decide)
theorem at_nat {l : List Nat} {i c : Nat} (h : l[i]? = some c) : atI (⟨l.toArray⟩ : Str).cps.toList (i : Int) = some c := by
  show atI l.toArray.toList (i : Int) = some c
  exact atI_nat (by simpa using h)
theorem of_ab : Str.ofString "ab" = ⟨#[97, 98]⟩ := by decide +kernel
theorem of_abc : Str.ofString "abc" = ⟨#[97, 98, 99]⟩ := by decide +kernel
theorem okL_one {c : Nat} (h1 : 97 ≤ c) (h2 : c ≤ 99) : OkL ⟨#[c]⟩ := ⟨⟨by show 1 ≤ 400; decide, fun d hd => by
  have : d = c := by simpa using hd
  omega⟩, fun d hd => by
  have : d = c := by simpa using hd
  omega⟩
section
variable {P : Program} {w : World} {K : PySem.W.Frag} {mg : Str → Option Value} {base : Heap} {C C2 : Addr}
def sp_law_pick (K : PySem.W.Frag) (_ _ : Addr) : Sp := fun vs H Q _ => ∃ a, (∃ l, ∃ xs : List V, vs = [.ref a, .ref l] ∧ H l = some (.lst xs) ∧ l ≠ a ∧ 0 < xs.length ∧ xs.length ≤ 1000 ∧ PotAt H a ∧ ∀ v H', v ∈ xs → Kept a H H' → PotAt H' a → Q v H')
  ∨ (∃ l : List Nat, vs = [.ref a, T l] ∧ 0 < l.length ∧ l.length ≤ 1000 ∧ PotAt H a ∧ ∀ c H', c ∈ l → Kept a H H' → PotAt H' a → Q (T [c]) H')
theorem ok_law_pick (D : Def K mg "_law_pick" s_law_pick ["_law_pot_here", "_law_some"]) (B : Bs mg) (Glb : Glo mg) (WK : WebK K mg C) (PK : KeepK K mg C2)
    (h_law_draw : Good P w K mg base "_law_draw" s_law_draw ["_law_pot_here", "_law_size"] 1 (sp_law_draw K C C2)) :
    Good P w K mg base "_law_pick" s_law_pick ["_law_pot_here", "_law_some"] 2 (sp_law_pick K C C2) := by
  refine D.good fun f fd F => ?_
  obtain ⟨f_law_draw, d_law_draw, O_law_draw, m_law_draw, k_law_draw, b_law_draw, F_law_draw⟩ := h_law_draw
  refine F.ok sc_law_pick (fun vs H Q E h => ?_) (fun cdv A outer s H vs Q E hr h => ?_)
  · obtain ⟨a, h⟩ := h
    first | rfl | (rcases h with ⟨_, _, rfl, _⟩ | ⟨_, rfl, _⟩ <;> rfl)
  obtain ⟨a, h⟩ := h
  rcases h with ⟨l, xs, rfl, hl, hla, h0, hlen, hp, q⟩ | ⟨l, rfl, h0, hlen, hp, q⟩
  · refine ⟨_, (pss_one (ps_ret (pe_ix ix_seq (pv 1) (pe_call O_law_draw hr rfl m_law_draw k_law_draw b_law_draw .nil pass0 (pa_cons (pv 0) (pa_cons (pe_callB call_len (by rfl) B.len (by decide +kernel) (pa_cons (pv 1) pa_nil)) pa_nil))) (fun _ _ => rfl)))), ?_⟩
    refine ⟨_, rfl, _, rfl, _, rfl, _, _, rfl, .inl ⟨_, SqL.of hl, rfl⟩, a, xs.length, rfl, hp, h0, hlen, fun d H' hd hk hp' => ?_⟩
    exact .inl ⟨_, _, _, _, rfl, rfl, SqL.of (hk l _ hl hla), atI_nat (List.getElem?_eq_getElem hd), q _ H' (List.getElem_mem hd) hk hp'⟩
  · refine ⟨_, (pss_one (ps_ret (pe_ix ix_seq (pv 1) (pe_call O_law_draw hr rfl m_law_draw k_law_draw b_law_draw .nil pass0 (pa_cons (pv 0) (pa_cons (pe_callB call_len (by rfl) B.len (by decide +kernel) (pa_cons (pv 1) pa_nil)) pa_nil))) (fun _ _ => rfl)))), ?_⟩
    refine ⟨_, rfl, _, rfl, _, rfl, _, l.length, rfl, ⟨T_line (by omega), T_len l⟩, a, l.length, rfl, hp, h0, hlen, fun d H' hd hk hp' => ?_⟩
    exact .inr (.inr ⟨_, _, _, rfl, rfl, T_line (by omega), at_nat (List.getElem?_eq_getElem hd), q _ H' (List.getElem_mem hd) hk hp'⟩)
def sp_law_text (_ : PySem.W.Frag) (_ _ : Addr) : Sp := fun vs H Q _ => ∃ a, vs = [.ref a] ∧ PotAt H a ∧ ∀ x H', OkL x → x.length ≤ 6 → Kept a H H' → PotAt H' a → Q (.str x) H'
theorem ok_law_text (D : Def K mg "_law_text" s_law_text ["_law_pot_here"]) (B : Bs mg) (Glb : Glo mg) (WK : WebK K mg C) (PK : KeepK K mg C2)
    (h_law_pick : Good P w K mg base "_law_pick" s_law_pick ["_law_pot_here", "_law_some"] 2 (sp_law_pick K C C2))
    (h_law_draw : Good P w K mg base "_law_draw" s_law_draw ["_law_pot_here", "_law_size"] 1 (sp_law_draw K C C2)) :
    Good P w K mg base "_law_text" s_law_text ["_law_pot_here"] 3 (sp_law_text K C C2) := by
  refine D.good fun f fd F => ?_
  obtain ⟨f_law_pick, d_law_pick, O_law_pick, m_law_pick, k_law_pick, b_law_pick, F_law_pick⟩ := h_law_pick
  obtain ⟨f_law_draw, d_law_draw, O_law_draw, m_law_draw, k_law_draw, b_law_draw, F_law_draw⟩ := h_law_draw
  refine F.ok sc_law_text (fun vs H Q E h => ?_) (fun cdv A outer s H vs Q E hr h => ?_)
  · obtain ⟨a, rfl, hp, q⟩ := h
    first | rfl | (rcases h with ⟨_, _, rfl, _⟩ | ⟨_, rfl, _⟩ <;> rfl)
  obtain ⟨a, rfl, hp, q⟩ := h
  refine ⟨_, (pss_cons (ps_par (i := 1) (j := 2) (by rfl) sc_law_text.nd rfl rfl (by decide) rfl rfl (pa_cons (pe_call O_law_pick hr rfl m_law_pick k_law_pick b_law_pick .nil pass0 (pa_cons (pv 0) (pa_cons (pe_lst (pa_cons pe_str (pa_cons pe_str (pa_cons pe_str pa_nil)))) pa_nil))) (pa_cons pe_str pa_nil)) (by rfl))
  (pss_cons (ps_for PassesOwn.never rfl (pi_range1 (by rfl) B.range (pa_cons (pe_call O_law_draw (hr.mono (by decide)) rfl m_law_draw k_law_draw b_law_draw .nil pass0 (pa_cons (pv 0) (pa_cons pe_int pa_nil))) pa_nil)) (pg_name (i := 3) sc_law_text.nd rfl (by first | exact Or.inl rfl | exact Or.inr rfl))
    (pss_one (ps_set (i := 2) sc_law_text.nd rfl (by first | exact Or.inl rfl | exact Or.inr rfl) (pe_op op_add_str (pv 2) (pe_call O_law_pick hr rfl m_law_pick k_law_pick b_law_pick .nil pass0 (pa_cons (pv 0) (pa_cons (pv 1) pa_nil)))))))
  (pss_one (ps_ret (pv 2))))), ?_⟩
  refine ⟨_, rfl, (by show 3 ≤ sizeLine; decide), fun l0 nl0 => ⟨a, .inl ⟨l0, _, rfl, upd_same, hp.ne nl0, by decide, by decide, hp.new nl0, fun v H1 hv hk1 hp1 => ?_⟩⟩⟩
  have hk1 : Kept a H H1 := (Same.kept (same_new nl0 _)).trans hk1
  obtain ⟨l, rfl, hl0, hl3, hll⟩ : ∃ l, v = T l ∧ 0 < l.length ∧ l.length ≤ 3 ∧ ∀ c ∈ l, 97 ≤ c ∧ c ≤ 99 := by
    have hv2 : v = T [97, 98] ∨ v = T [97, 98] ∨ v = T [97, 98, 99] := by
      simpa [of_ab, of_abc] using hv
    rcases hv2 with rfl | rfl | rfl
    · exact ⟨[97, 98], rfl, by decide, by decide, by decide⟩
    · exact ⟨[97, 98], rfl, by decide, by decide, by decide⟩
    · exact ⟨[97, 98, 99], rfl, by decide, by decide, by decide⟩
  refine ⟨_, _, rfl, ?_⟩
  refine ⟨_, rfl, a, 7, rfl, hp1, by omega, by omega, fun d H2 hd hk2 hp2 => ⟨_, rfl, by omega, by omega, ?_⟩⟩
  refine for_range (lo := 0) (n := d) (fun i σ H' => ∃ (v : Option V) (x : Str), σ = [some (.ref a), some (T l), some (.str x), v] ∧ x.length = i ∧ OkL x ∧ Kept a H H' ∧ PotAt H' a) ⟨none, _, rfl, by decide +kernel, okT_nil, hk1.trans hk2, hp2⟩ ?_ ?_
  · rintro i σ H3 hi ⟨v, x, rfl, hlen, hx, hk, hpp⟩
    refine ⟨_, rfl, _, rfl, _, rfl, a, .inr ⟨l, rfl, hl0, by omega, hpp, fun c H4 hc hk4 hp4 => ?_⟩⟩
    obtain ⟨c1, c2⟩ := hll c hc
    refine ⟨_, _, rfl, rfl, ?_, ?_⟩
    · show x.length + 1 ≤ sizeLine
      exact small100 (by omega)
    · exact ⟨_, x ++ ⟨#[c]⟩, rfl, by rw [str_app_len, hlen]; rfl, okT_app hx (okL_one c1 c2) (by show x.length + 1 ≤ 400; omega), hk.trans hk4, hp4⟩
  · rintro σ H3 ⟨v, x, rfl, hlen, hx, hk, hpp⟩
    exact ⟨_, rfl, q x H3 hx (by omega) hk hpp⟩
end
end My
set_option maxHeartbeats 4000000
namespace My
open PySem L2 PyProof.Rows
theorem pcsT_len6 (s : Nat) : ∀ {L : List (Str × Int)}, (∀ e ∈ L, e.1.length ≤ 6) → (pcsT s L).length ≤ 7 * L.length
  | [], _ => Nat.le_refl _
  | e :: r, h => by
    show (((pcs e.1 s).map fun p => (p, e.2)) ++ pcsT s r).length ≤ _
    rw [List.length_append, List.length_map, pcsN_len, List.length_cons]
    have h1 := h e List.mem_cons_self
    have h2 := pcsT_len6 s (L := r) fun f hf => h f (List.mem_cons_of_mem _ hf)
    omega
theorem dT_some2 {D : List (Str × Int)} (hn : (D.map Prod.fst).Nodup) {i : Nat} {e : Str × Int} (h : D[i]? = some e) : valV (dT D) (Sum.inr e.1 : Key) = some (.int e.2) := by
  rw [dT_some (List.mem_map.mpr ⟨e, List.mem_of_getElem? h, rfl⟩), getT_mem hn (List.mem_of_getElem? h)]
section
variable {P : Program} {w : World} {K : PySem.W.Frag} {mg : Str → Option Value} {base : Heap} {C C2 : Addr}
def sp_law_pieces (_ : PySem.W.Frag) (_ _ : Addr) : Sp := fun vs H Q _ => ∃ s d D, vs = [.int ((s : Nat) : Int), .ref d] ∧ s ≤ 8 ∧ H d = some (.dK (dT D)) ∧ (D.map Prod.fst).Nodup ∧ D.length ≤ 50 ∧ (∀ e ∈ D, e.1.length ≤ 6) ∧ ∀ H' p, H p = none → Same H H' → H' p = some (.dK (dT (sumT [] (pcsT s D)))) → Q (.ref p) H'
theorem ok_law_pieces (D : Def K mg "_law_pieces" s_law_pieces ["_law_size", "_law_texts"]) (B : Bs mg) (Glb : Glo mg) (WK : WebK K mg C) (PK : KeepK K mg C2) :
    Good P w K mg base "_law_pieces" s_law_pieces ["_law_size", "_law_texts"] 1 (sp_law_pieces K C C2) := by
  refine D.good fun f fd F => ?_
  refine F.ok sc_law_pieces (fun vs H Q E h => ?_) (fun cdv A outer s H vs Q E hr h => ?_)
  · obtain ⟨s, d, D, rfl, hs, hd, hn, hlen, h6, q⟩ := h
    first | rfl | (rcases h with ⟨_, _, rfl, _⟩ | ⟨_, rfl, _⟩ <;> rfl)
  obtain ⟨s, d, D, rfl, hs, hd, hn, hlen, h6, q⟩ := h
  refine ⟨_, (pss_cons (ps_set (i := 2) sc_law_pieces.nd rfl (by first | exact Or.inl rfl | exact Or.inr rfl) pe_dnewK)
  (pss_cons (ps_lock (ps_for PassesOwn.never rfl (pi_keys (pv 1)) (pg_name (i := 3) sc_law_pieces.nd rfl (by first | exact Or.inl rfl | exact Or.inr rfl))
    (pss_one (ps_for PassesOwn.never rfl (pi_range1 (by rfl) B.range (pa_cons (pe_op op_add (pe_op op_sub (pe_callB call_len_str (by rfl) B.len (by decide +kernel) (pa_cons (pv 3) pa_nil)) (pv 0)) pe_int) pa_nil)) (pg_name (i := 4) sc_law_pieces.nd rfl (by first | exact Or.inl rfl | exact Or.inr rfl))
    (pss_cons (ps_set (i := 5) sc_law_pieces.nd rfl (by first | exact Or.inl rfl | exact Or.inr rfl) (pe_slice sl_str (pv 3) (po_some (pv 4)) (po_some (pe_op op_add (pv 4) (pv 0)))))
  (pss_one (ps_dput (hu_of hr) (pv 2) (pv 5) (pe_op op_add (pe_dget2 (hu_of hr) (pv 2) (pv 5) pe_int ⟨rfl, rfl, rfl, rfl⟩) (pe_dget (hu_of hr) (pv 1) (pv 3) (fun _ _ => rfl))) rfl)))))))
  (pss_one (ps_ret (pv 2))))), ?_⟩
  intro F nF
  have nFd : F ≠ d := (ne_of_none hd nF).symm
  have hd1 : upd H F (.dK []) d = some (.dK (dT D)) := (upd_ne nFd.symm).trans hd
  have hF1 : upd H F (.dK []) F = some (.dK []) := upd_same
  have s1 := same_new nF (.dK [])
  generalize upd H F (.dK []) = H1 at hd1 hF1 s1
  refine ⟨d, _, hd1, trivial, fun od => ?_⟩
  refine ⟨_, rfl, d, od, rfl, .inl ⟨_, upd_same, ?_⟩⟩
  have k2 : ∀ b u, b ≠ d → H b = some u → upd H1 d (.frz od (.dK (dT D))) b = some u := fun b u n e => by rw [upd_ne n]; exact s1 _ _ e
  have hF2 : upd H1 d (.frz od (.dK (dT D))) F = some (.dK []) := (upd_ne nFd).trans hF1
  have hd2 : upd H1 d (.frz od (.dK (dT D))) d = some (.frz od (.dK (dT D))) := upd_same
  generalize upd H1 d (.frz od (.dK (dT D))) = H2 at k2 hF2 hd2
  have bnd : ∀ {i j : Nat} {e : Str × Int}, D[i]? = some e → j ≤ 7 → (dT (sumT [] (pcsT s (D.take i) ++ (pcsN e.1 s j).map fun p => (p, e.2)))).length < sizeLine := fun {i j e} h1 h2 => by
    have g1 := sumT_len (pcsT s (D.take i) ++ (pcsN e.1 s j).map fun p => (p, e.2)) []
    have g2 := pcsT_len6 s (L := D.take i) fun f hf => h6 f (List.mem_of_mem_take hf)
    rw [List.length_take] at g2
    rw [List.length_append, List.length_map, pcsN_len] at g1
    rw [List.length_map]
    have g1 : (sumT [] (pcsT s (D.take i) ++ (pcsN e.1 s j).map fun p => (p, e.2))).length ≤ 0 + ((pcsT s (D.take i)).length + j) := g1
    exact Nat.lt_of_le_of_lt (show _ ≤ 1000 by omega) (by decide)
  refine for_it walk_keys (fun i σ H' => ∃ v3 v4 v5 : Option V, σ = [some (.int (s : Int)), some (.ref d), some (.ref F), v3, v4, v5] ∧ (∀ b u, b ≠ d → H b = some u → H' b = some u) ∧ H' d = some (.frz od (.dK (dT D))) ∧ H' F = some (.dK (dT (sumT [] (pcsT s (D.take i)))))) ⟨none, none, none, rfl, k2, hd2, hF2⟩ (fun i σ H' _ ⟨_, _, _, _, _, h, _⟩ => h) ?_ ?_
  · rintro i x σ H3 H3' hi ⟨v3, v4, v5, rfl, k3, hd3, hF3⟩ ⟨rfl, kk, vv, hkv, rfl⟩
    have hi' : i < D.length := by rw [List.length_map] at hi; exact hi
    have e := List.getElem?_eq_getElem hi'
    rw [List.getElem?_map, e] at hkv
    cases hkv
    generalize D[i] = e0 at e
    have hel := h6 e0 (List.mem_of_getElem? e)
    show tFor _ _ _ _ ([some (.int (s : Int)), some (.ref d), some (.ref F), some (.str e0.1), v4, v5]) H3'
    refine ⟨_, rfl, _, rfl, small100 (by omega), _, rfl, _, _, rfl, rfl, _, _, rfl, rfl, _, rfl, by omega, by omega, ?_⟩
    rw [show (((e0.1.length : Nat) : Int) - (s : Int) + 1).toNat = e0.1.length + 1 - s by omega]
    refine for_range (lo := 0) (n := e0.1.length + 1 - s) (fun j σ H' => ∃ v4 v5 : Option V, σ = [some (.int (s : Int)), some (.ref d), some (.ref F), some (.str e0.1), v4, v5] ∧ (∀ b u, b ≠ d → H b = some u → H' b = some u) ∧ H' d = some (.frz od (.dK (dT D))) ∧ H' F = some (.dK (dT (sumT [] (pcsT s (D.take i) ++ (pcsN e0.1 s j).map fun p => (p, e0.2)))))) ⟨v4, v5, rfl, k3, hd3, by show _ = some (HO.dK (dT (sumT [] (pcsT s (D.take i) ++ [])))); rw [List.append_nil]; exact hF3⟩ ?_ ?_
    · rintro j σ H4 hj ⟨v4, v5, rfl, k4, hd4, hF4⟩
      refine ⟨_, rfl, _, rfl, _, rfl, _, rfl, _, rfl, _, _, rfl, rfl, _, rfl, _, rfl, small100 (by omega), ?_⟩
      rw [Int.zero_add]
      show tSeq _ _ _ _ _
      have hd5 : DGet H4 d (.str e0.1) (some (.int e0.2)) := .inl ⟨_, Sum.inr e0.1, .inr ⟨_, hd4⟩, rfl, (dT_some2 hn e).symm⟩
      refine ⟨_, rfl, F, rfl, .inl ⟨_, .inl hF4⟩, _, rfl, _, DGet.k (k := Sum.inr (pc e0.1 s j)) hF4, _, rfl, _, rfl, d, _, rfl, hd5, ?_⟩
      rw [dT_getD]
      refine ⟨_, _, rfl, rfl, _, rfl, _, rfl, F, _, rfl, DPut.k (k := Sum.inr (pc e0.1 s j)) hF4 (bnd e (by omega)), ?_⟩
      rw [dT_put (sumT_nodup _ (by simp))]
      refine ⟨_, _, rfl, fun b u n z => by rw [upd_ne (ne_of_none z nF)]; exact k4 b u n z, (upd_ne nFd.symm).trans hd4, ?_⟩
      rw [upd_same, show pcsN e0.1 s (j + 1) = pcsN e0.1 s j ++ [pc e0.1 s j] from rfl, List.map_append, ← List.append_assoc, List.map_singleton, sumT_snoc]
    · rintro σ H4 ⟨v4, v5, rfl, k4, hd4, hF4⟩
      refine ⟨_, _, _, rfl, k4, hd4, ?_⟩
      rw [List.take_succ, e, Option.toList_some, pcsT_snoc]
      exact hF4
  rintro σ H3 ⟨v3, v4, v5, rfl, k3, hd3, hF3⟩
  rw [List.length_map, List.take_length] at hF3
  refine ⟨hd3, _, rfl, q _ F nF (fun b u z => ?_) ((upd_ne nFd).trans hF3)⟩
  by_cases c : b = d
  · rw [c] at z ⊢
    rw [upd_same, ← hd, z]
  · rw [upd_ne c]
    exact k3 b u c z
end
end My
set_option maxHeartbeats 4000000
namespace My
open PySem L2 PyProof.Rows
def sumx (x : Str) : List (Str × Int) → Int
  | [] => 0
  | e :: r => (if e.1 = x then e.2 else 0) + sumx x r
theorem sumx_perm {x : Str} {L M : List (Str × Int)} (h : L.Perm M) : sumx x L = sumx x M := by
  induction h with
  | nil => rfl
  | cons e _ ih => unfold sumx; rw [ih]
  | swap e f r => simp only [sumx]; omega
  | trans _ _ h1 h2 => rw [h1, h2]
theorem getT_sumx (x : Str) : ∀ (L D : List (Str × Int)), getT (sumT D L) x = getT D x + sumx x L
  | [], D => by simp [sumT, sumx]
  | e :: r, D => by
    show getT (sumT (addT D e.1 e.2) r) x = _
    rw [getT_sumx x r, addT_get]
    show _ = getT D x + ((if e.1 = x then e.2 else 0) + sumx x r)
    by_cases c : x = e.1
    · subst c
      rw [if_pos rfl, if_pos rfl]
      omega
    · rw [if_neg c, if_neg (fun z => c z.symm)]
      omega
theorem told_pcs {D : List (Str × Int)} (s : Nat) : told (sumT [] (pcsT s (told D))) = told (sumT [] (pcsT s D)) := by
  have hp : (pcsT s (told D)).Perm (pcsT s D) := (List.mergeSort_perm D _).flatMap_right _
  refine told_get (sumT_nodup _ (by simp)) (sumT_nodup _ (by simp)) (fun x => ?_) fun x => ?_
  · rw [sumT_keys, sumT_keys, (hp.map Prod.fst).mem_iff]
  · rw [getT_sumx, getT_sumx, sumx_perm hp]
theorem leS_anti {a b : Str} (h : leS a b = true) (k : leS b a = true) : a = b := by
  have h := of_decide_eq_true h
  have k := of_decide_eq_true k
  have e := List.le_antisymm h k
  cases a
  cases b
  simpa using e
theorem solid_seq {E : List (Str × Int)} (hn : (E.map Prod.fst).Nodup) (p : Str × Int → Bool) : ((E.filter p).map Prod.fst).mergeSort leS = ((told E).filter p).map Prod.fst := by
  have h1 : (((E.filter p).map Prod.fst).mergeSort leS).Perm (((told E).filter p).map Prod.fst) := (List.mergeSort_perm _ _).trans (((List.mergeSort_perm E _).symm.filter p).map _)
  refine h1.eq_of_pairwise (fun a b _ _ => leS_anti) (List.pairwise_mergeSort leS_trans leS_total _) ?_
  have h2 : ((told E).map Prod.fst).Pairwise fun a b => leS a b = true := by
    rw [told_inSeq hn]
    unfold inSeq
    rw [List.map_map]
    show (((E.map Prod.fst).mergeSort leS).map fun x => x).Pairwise _
    rw [List.map_id']
    exact List.pairwise_mergeSort leS_trans leS_total _
  exact h2.sublist ((List.filter_sublist).map Prod.fst)
section
variable {P : Program} {w : World} {K : PySem.W.Frag} {mg : Str → Option Value} {base : Heap} {C C2 : Addr}
def sp_law_solid (_ : PySem.W.Frag) (_ _ : Addr) : Sp := fun vs H Q _ => ∃ s m d D, vs = [.int ((s : Nat) : Int), .int ((m : Nat) : Int), .ref d] ∧ s ≤ 8 ∧ H d = some (.dK (dT D)) ∧ (D.map Prod.fst).Nodup ∧ D.length ≤ 50 ∧ (∀ e ∈ D, e.1.length ≤ 6) ∧ ∀ H' l, H l = none → Same H H' → H' l = some (.lst ((((told (sumT [] (pcsT s (told D)))).filter fun e => decide (e.2 ≥ (m : Int))).map Prod.fst).map V.str)) → Q (.ref l) H'
theorem ok_law_solid (D : Def K mg "_law_solid" s_law_solid ["_law_size", "_law_least", "_law_texts"]) (B : Bs mg) (Glb : Glo mg) (WK : WebK K mg C) (PK : KeepK K mg C2)
    (h_law_pieces : Good P w K mg base "_law_pieces" s_law_pieces ["_law_size", "_law_texts"] 1 (sp_law_pieces K C C2)) :
    Good P w K mg base "_law_solid" s_law_solid ["_law_size", "_law_least", "_law_texts"] 2 (sp_law_solid K C C2) := by
  refine D.good fun f fd F => ?_
  obtain ⟨f_law_pieces, d_law_pieces, O_law_pieces, m_law_pieces, k_law_pieces, b_law_pieces, F_law_pieces⟩ := h_law_pieces
  refine F.ok sc_law_solid (fun vs H Q E h => ?_) (fun cdv A outer s H vs Q E hr h => ?_)
  · obtain ⟨s, m, d, D, rfl, hs, hd, hn, hlen, h6, q⟩ := h
    first | rfl | (rcases h with ⟨_, _, rfl, _⟩ | ⟨_, rfl, _⟩ <;> rfl)
  obtain ⟨s, m, d, D, rfl, hs, hd, hn, hlen, h6, q⟩ := h
  refine ⟨_, (pss_cons (ps_set (i := 3) sc_law_solid.nd rfl (by first | exact Or.inl rfl | exact Or.inr rfl) (pe_call O_law_pieces hr rfl m_law_pieces k_law_pieces b_law_pieces .nil pass0 (pa_cons (pv 0) (pa_cons (pv 2) pa_nil))))
  (pss_one (ps_ret (pe_callB (cr_sortSq hr.units) (by rfl) B.sorted (by decide +kernel) (pa_cons (pe_lock (pe_lc (own := [("_law_piece", 4)]) (g := gName 4) (by rfl) sc_law_solid.nd (pi_keys (pv 3)) (blkOk_by (own := [("_law_piece", 4)]) (N := ["_law_size", "_law_least", "_law_texts", "_law_found", "_law_piece"]) (sc := defScope s_law_solid) (by decide +kernel)) (fun _ _ _ _ _ => (pg_name (i := 4) sc_law_solid.nd rfl (by first | exact Or.inl rfl | exact Or.inr rfl))) (fun _ _ _ _ _ => (pts_one (pt_cmpR op_ge (pe_dget (hu_of hr) (pv 3) (pv 4) (by exact fun _ _ => rfl)) (pv 1) (nomark _)))) (fun _ _ _ _ _ => (pv 4)))) pa_nil))))), ?_⟩
  refine ⟨_, rfl, _, rfl, s, d, D, rfl, hs, hd, hn, hlen, h6, fun H1 F nF s1 hF => ?_⟩
  have hEn : ((sumT [] (pcsT s D)).map Prod.fst).Nodup := sumT_nodup _ (by simp)
  have hEl : (sumT [] (pcsT s D)).length ≤ 400 := by
    have g1 := sumT_len (pcsT s D) []
    have g2 := pcsT_len6 s h6
    have g1 : (sumT [] (pcsT s D)).length ≤ 0 + (pcsT s D).length := g1
    omega
  rw [told_pcs] at q
  generalize sumT [] (pcsT s D) = E at hF hEn hEl q
  refine ⟨F, _, hF, trivial, fun od => ?_⟩
  have hF2 : upd H1 F (.frz od (.dK (dT E))) F = some (.frz od (.dK (dT E))) := upd_same
  have k2 : ∀ b u, b ≠ F → H1 b = some u → upd H1 F (.frz od (.dK (dT E))) b = some u := fun b u n e => by rw [upd_ne n]; exact e
  have n2 : ∀ b, b ≠ F → upd H1 F (.frz od (.dK (dT E))) b = none → H1 b = none := fun b n e => by rw [upd_ne n] at e; exact e
  generalize upd H1 F (.frz od (.dK (dT E))) = H2 at hF2 k2 n2
  refine ⟨_, rfl, F, od, rfl, .inl ⟨_, hF2, fun L nL => ?_⟩⟩
  have nLF : L ≠ F := (ne_of_none hF2 nL).symm
  have nL1 := n2 L nLF nL
  refine lc_it walk_keys (fun i H' => (∀ b u, b ≠ F → H1 b = some u → H' b = some u) ∧ H' F = some (.frz od (.dK (dT E))) ∧ H' L = some (.lst ((((E.take i).filter fun e => decide (e.2 ≥ (m : Int))).map Prod.fst).map V.str))) ⟨fun b u n e => by rw [upd_ne (ne_of_none e nL1)]; exact k2 b u n e, (upd_ne nLF.symm).trans hF2, upd_same⟩ (fun i H' _ ⟨_, h, _⟩ => h) ?_ ?_
  · rintro i x H3 H3' hi ⟨k3, hF3, hL3⟩ ⟨rfl, kk, vv, hkv, rfl⟩
    have hi' : i < E.length := by rw [List.length_map] at hi; exact hi
    have e := List.getElem?_eq_getElem hi'
    rw [List.getElem?_map, e] at hkv
    cases hkv
    generalize E[i] = e0 at e
    have hg : DGet H3' F (.str e0.1) (some (.int e0.2)) := .inl ⟨_, Sum.inr e0.1, .inr ⟨_, hF3⟩, rfl, (dT_some2 hEn e).symm⟩
    have hfl := List.length_filter_le (fun e : Str × Int => decide (e.2 ≥ (m : Int))) (E.take i)
    rw [List.length_take] at hfl
    have hts : (E.take (i + 1)).filter (fun e => decide (e.2 ≥ (m : Int))) = (E.take i).filter (fun e => decide (e.2 ≥ (m : Int))) ++ if decide (e0.2 ≥ (m : Int)) = true then [e0] else [] := by
      rw [List.take_succ, e, List.filter_append]
      show _ ++ [e0].filter _ = _
      rw [List.filter_cons]
      rfl
    refine ⟨rfl, _, rfl, _, rfl, F, _, rfl, hg, _, rfl, _, _, rfl, rfl, _, rfl, ?_⟩
    rw [hts]
    by_cases c : e0.2 ≥ (m : Int)
    · refine iteYes c ⟨_, rfl, _, hL3, ?_, fun b u n z => by rw [upd_ne (ne_of_none z nL1)]; exact k3 b u n z, (upd_ne nLF.symm).trans hF3, ?_⟩
      · rw [List.length_map, List.length_map]
        exact Nat.lt_of_le_of_lt (show _ ≤ 1000 by omega) (by decide)
      · rw [upd_same, if_pos (decide_eq_true c), List.map_append, List.map_append]
        rfl
    · refine iteNo c ⟨k3, hF3, ?_⟩
      rw [if_neg (by simpa using c), List.append_nil]
      exact hL3
  rintro H3 ⟨k3, hF3, hL3⟩
  rw [List.length_map, List.take_length] at hL3
  refine ⟨hF3, ?_⟩
  have s4 : Same H1 (upd H3 F (.dK (dT E))) := fun b u z => by
    by_cases c : b = F
    · rw [c] at z ⊢
      rw [upd_same, ← hF, z]
    · rw [upd_ne c]
      exact k3 b u c z
  have hL4 : upd H3 F (.dK (dT E)) L = some (.lst (((E.filter fun e => decide (e.2 ≥ (m : Int))).map Prod.fst).map V.str)) := (upd_ne nLF).trans hL3
  generalize upd H3 F (.dK (dT E)) = H4 at s4 hL4
  refine ⟨L, _, rfl, .inl (SqL.of hL4), ?_, fun p np => ?_⟩
  · have hfl := List.length_filter_le (fun e : Str × Int => decide (e.2 ≥ (m : Int))) E
    rw [List.length_map]
    omega
  · refine q _ p ((s1.trans s4).free np) ((s1.trans s4).trans (same_new np _)) ?_
    rw [upd_same, solid_seq hEn]
end
end My
set_option maxHeartbeats 4000000
namespace My
open PySem L2 PyProof.Rows
theorem stepD_keys {e : Deed} {D : List (Str × Int)} {x : Str} (h : x ∈ (stepD e D).map Prod.fst) : x ∈ D.map Prod.fst ∨ x = e.2.1 := by
  unfold stepD leftT at h
  split at h
  · exact addT_mem.mp h
  · split at h
    · exact .inl (dropT_keys.mp h).1
    · exact addT_mem.mp h
theorem st_keys {Ds : List Deed} {x : Str} : ∀ i, i ≤ Ds.length → x ∈ (st Ds i).map Prod.fst → ∃ e ∈ Ds, e.2.1 = x
  | 0, _, h => by simp [runD] at h
  | i + 1, hi, h => by
    have e := List.getElem?_eq_getElem (l := Ds) (i := i) (by omega)
    rw [st_succ e] at h
    rcases stepD_keys h with z | z
    · exact st_keys i (by omega) z
    · exact ⟨_, List.getElem_mem _, z.symm⟩
theorem st_l6 {Ds : List Deed} (h : OkK Ds) {i : Nat} (hi : i ≤ Ds.length) : ∀ e ∈ st Ds i, e.1.length ≤ 6 := fun e he => by
  obtain ⟨f, hf, q⟩ := st_keys i hi (List.mem_map.mpr ⟨e, he, rfl⟩)
  rw [← q]
  exact h.l6 f hf
/-! ### deeds as data -/
def encD (e : Deed) : PyData := .tuple [.str (dk e.1), .str e.2.1, .int e.2.2]
theorem dp_deeds {K : PySem.W.Frag} {H : Hp} {l : Addr} {Ds : List Deed} (h : DeedsAt H l Ds) : Dp K H (.ref l) (.list (Ds.map encD)) := by
  obtain ⟨das, h1, h2⟩ := h
  have : ∀ {as : List Addr} {L : List Deed}, Paired (DeedAt H) as L → DpAll K H (as.map V.ref) (L.map encD) := by
    intro as L hp
    induction hp with
    | nil => exact .nil
    | cons h _ ih => exact .cons (.tup (SqT.of h) (.cons (.str _) (.cons (.str _) (.cons (.int _) .nil)))) ih
  exact .lst (SqL.of h1) (this h2)
theorem dk_ok (b : Bool) : PyData.strOk (dk b) = true := by cases b <;> decide +kernel
theorem lay_deed {e : Deed} (h : OkT e.2.1) : PyData.canLay0 (encD e) = true := by
  have h1 := okT_str h
  have h2 := dk_ok e.1
  simp only [encD, PyData.canLay0, PyData.canLayAll0, Bool.and_true, Bool.and_eq_true]
  exact ⟨h2, h1⟩
theorem layAll_deeds : ∀ {L : List Deed}, (∀ e ∈ L, OkT e.2.1) → PyData.canLayAll0 (L.map encD) = true
  | [], _ => rfl
  | e :: r, h => by
    show (PyData.canLay0 (encD e) && PyData.canLayAll0 (r.map encD)) = true
    rw [layAll_deeds fun f hf => h f (List.mem_cons_of_mem _ hf), lay_deed (h e List.mem_cons_self)]
    rfl
theorem depth_deeds : ∀ L : List Deed, PyData.depthAll (L.map encD) ≤ 1
  | [] => by show PyData.depthAll [] ≤ 1; decide
  | e :: r => by
    show max (PyData.depth (encD e)) (PyData.depthAll (r.map encD)) ≤ 1
    have := depth_deeds r
    have h : PyData.depth (encD e) = 1 := by
      show PyData.depth (.tuple [.str (dk e.1), .str e.2.1, .int e.2.2]) = 1
      simp [PyData.depth, PyData.depthAll]
    omega
theorem shaped_deeds {L : List Deed} (h : ∀ e ∈ L, OkT e.2.1) : SeqAt.shaped (.list (L.map encD)) = true := by
  unfold SeqAt.shaped
  have h1 : PyData.canLay0 (.list (L.map encD)) = true := by
    unfold PyData.canLay0
    exact layAll_deeds h
  have h2 : PyData.depth (.list (L.map encD)) ≤ 64 := by
    unfold PyData.depth
    have := depth_deeds L
    omega
  rw [h1, decide_eq_true h2]
  rfl
theorem shaped_deed {e : Deed} (h : OkT e.2.1) : SeqAt.shaped (encD e) = true := by
  unfold SeqAt.shaped
  have h2 : PyData.depth (encD e) = 1 := by
    show PyData.depth (.tuple [.str (dk e.1), .str e.2.1, .int e.2.2]) = 1
    simp [PyData.depth, PyData.depthAll]
  rw [lay_deed h, h2]
  rfl
theorem eqv_deeds {L : List Deed} (h : ∀ e ∈ L, OkT e.2.1) : PyData.eqv (.list (L.map encD)) (.list (L.map encD)) = true := SeqAt.eqv_refl _ (SeqAt.canLay_of_shaped (shaped_deeds h))
theorem eqv_deed {e : Deed} (h : OkT e.2.1) : PyData.eqv (encD e) (encD e) = true := SeqAt.eqv_refl _ (SeqAt.canLay_of_shaped (shaped_deed h))
theorem okK_t {Ds : List Deed} (h : OkK Ds) : ∀ e ∈ Ds, OkT e.2.1 := fun e he => by
  obtain ⟨j, hj⟩ := List.getElem?_of_mem he
  exact (h.ok j e hj).t.ok
/-! ### the law's own -/
def ownD (ll lg lu : Addr) : List (Key × V) := [(Sum.inr "lots", .ref ll), (Sum.inr "log", .ref lg), (Sum.inr "undone", .ref lu)]
theorem own_lots (ll lg lu : Addr) : valV (ownD ll lg lu) (Sum.inr "lots" : Key) = some (.ref ll) := by
  unfold ownD
  rw [valV_pos rfl]
theorem own_log (ll lg lu : Addr) : valV (ownD ll lg lu) (Sum.inr "log" : Key) = some (.ref lg) := by
  unfold ownD
  rw [valV_neg (fun z => absurd (Sum.inr.inj z) (by decide)), valV_pos rfl]
theorem own_undone (ll lg lu : Addr) : valV (ownD ll lg lu) (Sum.inr "undone" : Key) = some (.ref lu) := by
  unfold ownD
  rw [valV_neg (fun z => absurd (Sum.inr.inj z) (by decide)), valV_neg (fun z => absurd (Sum.inr.inj z) (by decide)), valV_pos rfl]
def OwnAt (o : Addr) (Ds : List Deed) (d : Nat) (H : Hp) : Prop := ∃ ll lg lu, ∃ es us : List Addr, H o = some (.dK (ownD ll lg lu)) ∧ H ll = some (.lst (es.map V.ref)) ∧ es.length = d + 1 ∧ (∀ (i : Nat) (p : Addr), es[i]? = some p → H p = some (.dK (dT (st Ds i)))) ∧ DeedsAt H lg (Ds.take d) ∧
  H lu = some (.lst (us.map V.ref)) ∧ us.length = Ds.length - d ∧ ∀ (i : Nat) (p : Addr), us[i]? = some p → ∃ q r e, Ds[Ds.length - 1 - i]? = some e ∧ H p = some (.tup [.ref q, .ref r]) ∧ DeedAt H q e ∧ H r = some (.dK (dT (st Ds (Ds.length - i))))
theorem OwnAt.same {o : Addr} {Ds : List Deed} {d : Nat} {H H' : Hp} (h : OwnAt o Ds d H) (s : Same H H') : OwnAt o Ds d H' := by
  obtain ⟨ll, lg, lu, es, us, h1, h2, h3, h4, h5, h6, h7, h8⟩ := h
  refine ⟨ll, lg, lu, es, us, s _ _ h1, s _ _ h2, h3, fun i p e => s _ _ (h4 i p e), h5.same s, s _ _ h6, h7, fun i p e => ?_⟩
  obtain ⟨q, r, f, g1, g2, g3, g4⟩ := h8 i p e
  exact ⟨q, r, f, g1, s _ _ g2, s _ _ g3, s _ _ g4⟩
theorem atI_back {α : Type} {xs : List α} {v : α} (h : xs[xs.length - 1]? = some v) : atI xs (-1) = some v := by
  have h0 := (List.getElem?_eq_some_iff.mp h).1
  unfold atI ixN
  rw [if_neg (by decide), if_pos (by omega)]
  show xs[((-1 : Int) + (xs.length : Int)).toNat]? = _
  rw [show ((-1 : Int) + (xs.length : Int)).toNat = xs.length - 1 by omega]
  exact h
end My
set_option maxHeartbeats 4000000
namespace My
open PySem L2 PyProof.Rows
section
variable {P : Program} {w : World} {K : PySem.W.Frag} {mg : Str → Option Value} {base : Heap} {C C2 : Addr}
def sp_law_is_as (_ : PySem.W.Frag) (C C2 : Addr) : Sp := fun vs H Q _ => ∃ k o s m Ds d, vs = [.ref k, .ref o, .int ((s : Nat) : Int), .int ((m : Nat) : Int)] ∧ KeepAt C C2 k s m Ds d H ∧ OwnAt o Ds d H ∧ OkK Ds ∧ d ≤ Ds.length ∧ 2 ≤ s ∧ s ≤ 8 ∧ 1 ≤ m ∧ ∀ H', Same H H' → Q (.bl true) H'
theorem ok_law_is_as (D : Def K mg "_law_is_as" s_law_is_as ["_law_keeper", "_law_own", "_law_size", "_law_least"]) (B : Bs mg) (Glb : Glo mg) (WK : WebK K mg C) (PK : KeepK K mg C2)
    (h_law_solid : Good P w K mg base "_law_solid" s_law_solid ["_law_size", "_law_least", "_law_texts"] 2 (sp_law_solid K C C2))
    (hLot___eq__ : GoodM P w K mg base C "__eq__" "Lot.__eq__" sLot___eq__ ["self", "other"] 1 (spLot___eq__ K C C2))
    (hLot___init__ : GoodJ P w K mg base C "__init__" "Lot.__init__" sLot___init__ ["self", "size", "readings"] 5 (spLot___init__ K C C2))
    (hKeeper_log : GoodM P w K mg base C2 "log" "Keeper.log" sKeeper_log ["self"] 1 (spKeeper_log K C C2))
    (hKeeper_lot : GoodM P w K mg base C2 "lot" "Keeper.lot" sKeeper_lot ["self"] 3 (spKeeper_lot K C C2))
    (hLot_readings : GoodM P w K mg base C "readings" "Lot.readings" sLot_readings ["self"] 1 (spLot_readings K C C2))
    (hKeeper_solid : GoodM P w K mg base C2 "solid" "Keeper.solid" sKeeper_solid ["self"] 7 (spKeeper_solid K C C2)) :
    Good P w K mg base "_law_is_as" s_law_is_as ["_law_keeper", "_law_own", "_law_size", "_law_least"] 9 (sp_law_is_as K C C2) := by
  refine D.good fun f fd F => ?_
  obtain ⟨f_law_solid, d_law_solid, O_law_solid, m_law_solid, k_law_solid, b_law_solid, F_law_solid⟩ := h_law_solid
  obtain ⟨fLot___eq__, dLot___eq__, OLot___eq__, tLot___eq__, bLot___eq__, FLot___eq__⟩ := hLot___eq__
  obtain ⟨fLot___init__, dLot___init__, OLot___init__, MKLot, bLot___init__, FLot___init__⟩ := hLot___init__
  obtain ⟨fKeeper_log, dKeeper_log, OKeeper_log, tKeeper_log, bKeeper_log, FKeeper_log⟩ := hKeeper_log
  obtain ⟨fKeeper_lot, dKeeper_lot, OKeeper_lot, tKeeper_lot, bKeeper_lot, FKeeper_lot⟩ := hKeeper_lot
  obtain ⟨fLot_readings, dLot_readings, OLot_readings, tLot_readings, bLot_readings, FLot_readings⟩ := hLot_readings
  obtain ⟨fKeeper_solid, dKeeper_solid, OKeeper_solid, tKeeper_solid, bKeeper_solid, FKeeper_solid⟩ := hKeeper_solid
  refine F.ok sc_law_is_as (fun vs H Q E h => ?_) (fun cdv A outer s H vs Q E hr h => ?_)
  · obtain ⟨k, o, s, m, Ds, d, rfl, hK, hO, ho, hd, hs1, hs2, hm, q⟩ := h
    first | rfl | (rcases h with ⟨_, _, rfl, _⟩ | ⟨_, rfl, _⟩ <;> rfl)
  obtain ⟨k, o, s, m, Ds, d, rfl, hK, hO, ho, hd, hs1, hs2, hm, q⟩ := h
  refine ⟨_, (pss_cons (ps_par (i := 4) (j := 5) (by rfl) sc_law_is_as.nd rfl rfl (by decide) rfl rfl (pa_cons (pe_ix ix_list (pe_dget (hu_of hr) (pv 1) pe_str (fun _ _ => rfl)) (pe_un un_neg pe_int) (fun _ _ => rfl)) (pa_cons (pe_meth0 (pv 0) PK.cl tKeeper_log OKeeper_log (hr.mono (by decide)) bKeeper_log .nil pass0) pa_nil)) (by rfl))
  (pss_cons (ps_if (PW.pt (pw_or (pt_cmpR (op_neD hr.units) (pe_meth0 (pe_meth0 (pv 0) PK.cl tKeeper_lot OKeeper_lot (hr.mono (by decide)) bKeeper_lot .nil pass0) WK.cl tLot_readings OLot_readings (hr.mono (by decide)) bLot_readings .nil pass0) (pe_callB (cr_sortItK rfl hr.units) (by rfl) B.sorted (by decide +kernel) (pa_cons (pe_bm0 PySem.F.plainAttrs_dict PySem.F.slot_dict_items PySem.F.type_dict_items mt_itemsK (pv 4)) pa_nil)) (nomark _)) (pw_or1 (pt_cmpR (op_neD hr.units) (pv 5) (pe_dget (hu_of hr) (pv 1) pe_str (fun _ _ => rfl)) (nomark _)))))
    (pss_one (ps_ret pe_bl)) pss_nil)
  (pss_cons (ps_expr (pe_bm PySem.F.plainAttrs_list PySem.F.slot_list_append PySem.F.type_list_append mt_append (pv 5) (pa_cons pe_non pa_nil)))
  (pss_cons (ps_if (PW.pt (pw_or (pt_cmpR (op_neD hr.units) (pe_meth0 (pv 0) PK.cl tKeeper_log OKeeper_log (hr.mono (by decide)) bKeeper_log .nil pass0) (pe_dget (hu_of hr) (pv 1) pe_str (fun _ _ => rfl)) (nomark _)) (pw_or1 (pt_cmpR (op_neD hr.units) (pe_meth0 (pv 0) PK.cl tKeeper_solid OKeeper_solid (hr.mono (by decide)) bKeeper_solid .nil pass0) (pe_call O_law_solid (hr.mono (by decide)) rfl m_law_solid k_law_solid b_law_solid .nil pass0 (pa_cons (pv 2) (pa_cons (pv 3) (pa_cons (pv 4) pa_nil)))) (nomark _)))))
    (pss_one (ps_ret pe_bl)) pss_nil)
  (pss_cons (ps_set (i := 6) sc_law_is_as.nd rfl (by first | exact Or.inl rfl | exact Or.inr rfl) (pe_cmpR (op_eqOwn OLot___eq__ (hr.mono (by decide)) tLot___eq__.at_ tLot___eq__.fn bLot___eq__ pass0) (pe_meth0 (pv 0) PK.cl tKeeper_lot OKeeper_lot (hr.mono (by decide)) bKeeper_lot .nil pass0) (pe_make MKLot OLot___init__ (hr.mono (by decide)) rfl WK.mgC bLot___init__ .nil pass0 (pa_cons (pv 2) (pa_cons (pe_lst pa_nil) pa_nil))) (nomark _)))
  (pss_one (ps_ret (pe_cmpR op_eq (pv 6) (pe_cmpR (op_eqT hr.units0) (pv 4) pe_dnewK (nomark _)) (nomark _))))))))), ?_⟩
  obtain ⟨dx, lp, dp, kp, las, das, h1, h2, h3, h4, h5, h6, h7⟩ := id hK
  obtain ⟨ll, lg, lu, es, us, o1, o2, o3, o4, o5, o6, o7, o8⟩ := id hO
  have hDd := okD_st ho d hd
  have hlen := ho.len
  have hl6 := st_l6 ho hd
  have okt := okK_t ho
  have okt2 : ∀ e ∈ Ds.take d, OkT e.2.1 := fun e he => okt e (List.mem_of_mem_take he)
  have ee := List.getElem?_eq_getElem (l := es) (i := d) (by omega)
  generalize es[d]'(by omega) = td at ee
  have htd := o4 d td ee
  have elast : (es.map V.ref)[(es.map V.ref).length - 1]? = some (.ref td) := by
    rw [List.length_map, o3, show d + 1 - 1 = d by omega, List.getElem?_map, ee]
    rfl
  have get1 : ∀ {H' : Hp}, H' o = some (.dK (ownD ll lg lu)) → DGet H' o (.str "lots") (some (.ref ll)) := fun h => by rw [← own_lots ll lg lu]; exact DGet.k (k := Sum.inr "lots") h
  have get2 : ∀ {H' : Hp}, H' o = some (.dK (ownD ll lg lu)) → DGet H' o (.str "log") (some (.ref lg)) := fun h => by rw [← own_log ll lg lu]; exact DGet.k (k := Sum.inr "log") h
  refine ⟨_, rfl, o, _, rfl, get1 o1, _, rfl, _, _, _, .ref td, rfl, rfl, SqL.of o2, atI_back elast, ?_⟩
  refine ⟨_, rfl, k, dx, _, rfl, h1, kf_no _ _ _ _ _ _ (by decide), k, s, m, Ds, d, rfl, hK, fun H1 lg1 nlg1 s1 hlg1 => ?_⟩
  refine ⟨_, _, rfl, ?_⟩
  -- the lot's readings
  refine ⟨_, rfl, k, dx, _, rfl, s1 _ _ h1, kf_no _ _ _ _ _ _ (by decide), k, s, m, Ds, d, rfl, hK.same s1, hd, fun a tl hL => ?_⟩
  obtain ⟨dl, l1, l2⟩ := id hL
  refine ⟨a, dl, _, rfl, l1, lf_none _ _ (by decide) (by decide), a, tl, s, _, rfl, hL, fun H2 p2 np2 s2 hp2 => ?_⟩
  have s12 := s1.trans s2
  refine ⟨_, rfl, .inr (.inr (.inl ⟨rfl, .inl ⟨_, s12 _ _ htd⟩⟩)), td, _, rfl, rfl, s12 _ _ htd, fun p0 np0 => ?_⟩
  refine ⟨p0, td, st Ds d, rfl, upd_same, same_new np0 _ _ _ (s12 _ _ htd), by have := hDd.len; omega, fun H3 l3 ts s3 nl3 hl3 hU => ?_⟩
  have s3' : Same H2 H3 := fun b u e => s3 _ _ (same_new np0 _ _ _ e)
  have s13 := s12.trans s3'
  have hr3 : RdAt H3 l3 (told (st Ds d)) := ⟨ts, hl3, hU⟩
  have okL : ∀ e ∈ told (st Ds d), OkT e.1 := fun e he => (hDd.told.ok e he).1.ok
  refine ⟨_, _, dp_rd (hp2.same s3'), dp_rd hr3, shaped_si okL, shaped_si okL, _, rfl, ?_⟩
  rw [eqv_si]
  refine iteNot' rfl ?_
  have hlg3 := hlg1.same (s2.trans s3')
  refine ⟨_, rfl, _, rfl, o, _, rfl, get2 (s13 _ _ o1), _, _, dp_deeds hlg3, dp_deeds (o5.same s13), shaped_deeds okt2, shaped_deeds okt2, _, rfl, ?_⟩
  rw [eqv_deeds okt2]
  refine iteF ?_
  -- the log is new
  obtain ⟨gas, g1, g2⟩ := id hlg3
  have gl := paired_len g2
  rw [List.length_take] at gl
  refine ⟨_, rfl, .inl ⟨rfl, _, SqL.of g1⟩, lg1, _, _, rfl, rfl, g1, by rw [List.length_map]; exact Nat.lt_of_le_of_lt (show gas.length ≤ 1000 by omega) (by decide), ?_⟩
  have s4 : Same H (upd H3 lg1 (.lst (gas.map V.ref ++ [V.non]))) := same_upd s13 nlg1
  generalize upd H3 lg1 (.lst (gas.map V.ref ++ [V.non])) = H4 at s4
  refine ⟨_, rfl, k, dx, _, rfl, s4 _ _ h1, kf_no _ _ _ _ _ _ (by decide), k, s, m, Ds, d, rfl, hK.same s4, fun H5 lg5 nlg5 s5 hlg5 => ?_⟩
  have s15 := s4.trans s5
  refine ⟨_, rfl, o, _, rfl, get2 (s15 _ _ o1), _, _, dp_deeds hlg5, dp_deeds (o5.same s15), shaped_deeds okt2, shaped_deeds okt2, _, rfl, ?_⟩
  rw [eqv_deeds okt2]
  refine iteF ?_
  -- the solid pieces
  refine ⟨_, rfl, k, dx, _, rfl, s15 _ _ h1, kf_no _ _ _ _ _ _ (by decide), k, s, m, Ds, d, rfl, hK.same s15, ho, hd, hm, hs2, fun H6 p6 np6 s6 hp6 => ?_⟩
  have s16 := s15.trans s6
  refine ⟨_, rfl, _, rfl, _, rfl, s, m, td, st Ds d, rfl, hs2, s16 _ _ htd, hDd.nd, by have := hDd.len; omega, hl6, fun H7 p7 np7 s7 hp7 => ?_⟩
  have s17 := s16.trans s7
  have okS : ∀ e ∈ (((told (sumT [] (pcsT s (told (st Ds d))))).filter fun e => decide (e.2 ≥ (m : Int))).map Prod.fst), OkT e := fun e he => by
    obtain ⟨f, hf, rfl⟩ := List.mem_map.mp he
    have hf := told_mem.mp (List.mem_filter.mp hf).1
    exact okT_sumT (okT_pcsT okL s) f hf
  refine ⟨_, _, dp_st (s7 _ _ hp6), dp_st hp7, shaped_st okS, shaped_st okS, _, rfl, ?_⟩
  rw [eqv_st okS]
  refine iteF ?_
  -- bare
  refine ⟨_, rfl, k, dx, _, rfl, s17 _ _ h1, kf_no _ _ _ _ _ _ (by decide), k, s, m, Ds, d, rfl, hK.same s17, hd, fun a2 tl2 hL2 => ?_⟩
  refine ⟨_, rfl, Nat.zero_le _, fun e0 ne0 => fun b db nb ndb nbd => ?_⟩
  have he0 : upd H7 e0 (.lst []) e0 = some (.lst []) := upd_same
  have s8 := same_new ne0 (.lst [])
  generalize upd H7 e0 (.lst []) = H8 at nb ndb he0 s8
  refine ⟨b, db, s, e0, [], rfl, hs1, hs2, ⟨[], by rw [upd_ne (ne_of_none he0 nb), upd_ne (ne_of_none he0 ndb)]; exact he0, .nil⟩, Nat.zero_le _, fun e h => (nomatch h), upd_same, fun H9 tl9 ntl9 k9 hL9 => ⟨rfl, ?_⟩⟩
  have s89 : Same H8 H9 := fun c u e => k9 c u (by rw [upd_ne (ne_of_none e nb), upd_ne (ne_of_none e ndb)]; exact e) (ne_of_none e nb)
  have s19 := s17.trans (s8.trans s89)
  obtain ⟨dy, y1, _⟩ := hL2.same (s8.trans s89)
  obtain ⟨dz, z1, _⟩ := id hL9
  refine ⟨a2, b, dy, dz, _, _, rfl, rfl, y1, z1, a2, tl2, s, _, b, rfl, hL2.same (s8.trans s89), .inl ⟨tl9, s, _, hL9, okL, fun e he => (nomatch (show e ∈ ([] : List (Str × Int)) from told_mem.mp he)), _, rfl, ?_⟩⟩
  refine ⟨_, rfl, _, rfl, fun e1 ne1 => ?_⟩
  refine ⟨td, e1, st Ds d, [], rfl, rfl, same_new ne1 _ _ _ (s19 _ _ htd), upd_same, ?_⟩
  rw [eqT_told hDd.nd (by simp)]
  refine ⟨rfl, ?_⟩
  have : decide (V.bl (decide (s = s ∧ told (st Ds d) = told (sumT [] []))) = V.bl (decide (told (st Ds d) = told []))) = true := by
    refine decide_eq_true ?_
    simp [sumT]
  rw [this]
  exact q _ (s19.trans (same_new ne1 _))
end
end My
set_option maxHeartbeats 4000000
namespace My
open PySem L2 PyProof.Rows
/-- all things but tuples -/
def nt (H : Hp) : Addr → Prop := fun b => ∃ u, H b = some u ∧ ∀ xs, u ≠ .tup xs
theorem nt_ok (H : Hp) : NOk (nt H) H := fun b c => c
theorem nt_of {N : Addr → Prop} {H : Hp} (h : NOk N H) : ∀ b, N b → nt H b := h
theorem KeepAt.less {C C2 k : Addr} {s m : Nat} {Ds : List Deed} {d : Nat} {N M : Addr → Prop} {H : Hp} (h : KeepAt C C2 k s m Ds d (wo N H)) (hs : ∀ b, M b → N b) : KeepAt C C2 k s m Ds d (wo M H) := h.same (wo_more fun b c => .inl (hs b c))
theorem okK_take {Ds : List Deed} (h : OkK Ds) (i : Nat) : OkK (Ds.take i) := by
  refine ⟨by rw [List.length_take]; have := h.len; omega, fun j e he => ?_, fun e he => h.l6 e (List.mem_of_mem_take he)⟩
  have hj := (List.getElem?_eq_some_iff.mp he).1
  rw [List.length_take] at hj
  rw [List.getElem?_take, if_pos (by omega)] at he
  rw [st_take (by omega)]
  exact h.ok j e he
theorem deeds_at {H : Hp} {das : List Addr} {Ds : List Deed} (hP : Paired (DeedAt H) das Ds) {i : Nat} {v : V} (h : (das.map V.ref)[i]? = some v) : ∃ p e, v = .ref p ∧ Ds[i]? = some e ∧ DeedAt H p e := by
  obtain ⟨p, hp, rfl⟩ := ref_at h
  obtain ⟨e, he, hpe⟩ := paired_get hP hp
  exact ⟨p, e, rfl, he, hpe⟩
section
variable {P : Program} {w : World} {K : PySem.W.Frag} {mg : Str → Option Value} {base : Heap} {C C2 : Addr}
def sp_law_anew (_ : PySem.W.Frag) (C C2 : Addr) : Sp := fun vs H Q _ => ∃ s m l Ds, vs = [.int ((s : Nat) : Int), .int ((m : Nat) : Int), .ref l] ∧ DeedsAt H l Ds ∧ OkK Ds ∧ 2 ≤ s ∧ s ≤ 8 ∧ 1 ≤ m ∧ m ≤ 20 ∧ ∀ H' k, H k = none → Same H H' → KeepAt C C2 k s m Ds Ds.length (wo (nt H) H') → Q (.ref k) H'
theorem ok_law_anew (D : Def K mg "_law_anew" s_law_anew ["_law_size", "_law_least", "_law_log"]) (B : Bs mg) (Glb : Glo mg) (WK : WebK K mg C) (PK : KeepK K mg C2)
    (hKeeper___init__ : GoodJ P w K mg base C2 "__init__" "Keeper.__init__" sKeeper___init__ ["self", "size", "least"] 7 (spKeeper___init__ K C C2))
    (hKeeper_added : GoodM P w K mg base C2 "added" "Keeper.added" sKeeper_added ["self", "text", "times"] 10 (spKeeper_added K C C2))
    (hKeeper_taken : GoodM P w K mg base C2 "taken" "Keeper.taken" sKeeper_taken ["self", "text", "times"] 9 (spKeeper_taken K C C2)) :
    Good P w K mg base "_law_anew" s_law_anew ["_law_size", "_law_least", "_law_log"] 12 (sp_law_anew K C C2) := by
  refine D.good fun f fd F => ?_
  obtain ⟨fKeeper___init__, dKeeper___init__, OKeeper___init__, MKKeeper, bKeeper___init__, FKeeper___init__⟩ := hKeeper___init__
  obtain ⟨fKeeper_added, dKeeper_added, OKeeper_added, tKeeper_added, bKeeper_added, FKeeper_added⟩ := hKeeper_added
  obtain ⟨fKeeper_taken, dKeeper_taken, OKeeper_taken, tKeeper_taken, bKeeper_taken, FKeeper_taken⟩ := hKeeper_taken
  refine F.ok sc_law_anew (fun vs H Q E h => ?_) (fun cdv A outer s H vs Q E hr h => ?_)
  · obtain ⟨s, m, l, Ds, rfl, hl, ho, hs1, hs2, hm1, hm2, q⟩ := h
    first | rfl | (rcases h with ⟨_, _, rfl, _⟩ | ⟨_, rfl, _⟩ <;> rfl)
  obtain ⟨s, m, l, Ds, rfl, hl, ho, hs1, hs2, hm1, hm2, q⟩ := h
  refine ⟨_, (pss_cons (ps_set (i := 3) sc_law_anew.nd rfl (by first | exact Or.inl rfl | exact Or.inr rfl) (pe_make MKKeeper OKeeper___init__ (hr.mono (by decide)) rfl PK.mgC bKeeper___init__ .nil pass0 (pa_cons (pv 0) (pa_cons (pv 1) pa_nil))))
  (pss_cons (ps_for PassesOwn.never rfl (pi_list (pv 2)) (pg_tup rfl (pgs_cons (pg_name (i := 4) sc_law_anew.nd rfl (by first | exact Or.inl rfl | exact Or.inr rfl)) (pgs_cons (pg_name (i := 5) sc_law_anew.nd rfl (by first | exact Or.inl rfl | exact Or.inr rfl)) (pgs_cons (pg_name (i := 6) sc_law_anew.nd rfl (by first | exact Or.inl rfl | exact Or.inr rfl)) pgs_nil))))
    (pss_one (ps_if (pt_cmpR op_eq (pv 4) pe_str (nomark _))
    (pss_one (ps_expr (pe_meth (pv 3) PK.cl tKeeper_added OKeeper_added (hr.mono (by decide)) bKeeper_added .nil pass0 (pa_cons (pv 5) (pa_cons (pv 6) pa_nil))))) (pss_one (ps_expr (pe_meth (pv 3) PK.cl tKeeper_taken OKeeper_taken (hr.mono (by decide)) bKeeper_taken .nil pass0 (pa_cons (pv 5) (pa_cons (pv 6) pa_nil))))))))
  (pss_one (ps_ret (pv 3))))), ?_⟩
  refine ⟨_, rfl, _, rfl, fun k dx nk nd ne => ?_⟩
  have N0 := nt_ok H
  have nNk := N0.new nk
  refine ⟨k, dx, s, m, rfl, hs1, hs2, hm1, hm2, upd_same, fun H1 k1 hK1 => ⟨rfl, ?_⟩⟩
  have S1 : Same H H1 := fun b u e => k1 b u (by rw [upd_ne (ne_of_none e nk), upd_ne (ne_of_none e nd)]; exact e) (ne_of_none e nk)
  have hN1 : NOk (nt H) (upd (upd H dx (.own k)) k (.ins C2 dx [])) := fun b c => by
    obtain ⟨u, e, h⟩ := c
    exact ⟨u, by rw [upd_ne (ne_of_none e nk), upd_ne (ne_of_none e nd)]; exact e, h⟩
  have hK1 := hK1 (nt H) hN1 nNk
  obtain ⟨das, g1, g2⟩ := id hl
  have gl := paired_len g2
  have hlen := ho.len
  refine ⟨_, rfl, l, rfl, ⟨_, SqL.of (S1 _ _ g1)⟩, ?_⟩
  refine for_list (K := K) (a := l) (xs := das.map V.ref) (fun i σ H' => ∃ v4 v5 v6 : Option V, σ = [some (.int (s : Int)), some (.int (m : Int)), some (.ref l), some (.ref k), v4, v5, v6] ∧ Same H H' ∧ KeepAt C C2 k s m (Ds.take i) i (wo (nt H) H')) ⟨none, none, none, rfl, S1, hK1⟩ (fun i σ H' _ ⟨_, _, _, _, hS', _⟩ => SqL.of (hS' _ _ g1)) ?_ ?_
  · rintro i x σ H2 hx ⟨v4, v5, v6, rfl, S2, hK2⟩
    obtain ⟨p, ⟨b, t, n⟩, rfl, he, hp⟩ := deeds_at g2 hx
    have hil := (List.getElem?_eq_some_iff.mp he).1
    obtain ⟨dy, lp, dp, kp, las, das2, h1, _⟩ := id hK2
    have hk2 := wo_same _ _ h1
    have hE := ho.ok i _ he
    have e1 : doneD (Ds.take i) i (b, t, n) = Ds.take (i + 1) := by
      unfold doneD
      rw [List.take_take, Nat.min_self, List.take_succ, he]
      rfl
    have l1 : (Ds.take i).length = i := by rw [List.length_take]; omega
    have hE2 : OkE (b, t, n) (st (Ds.take i) i) := by rw [st_take (Nat.le_refl _)]; exact hE
    refine ⟨p, _, rfl, SqT.of (S2 _ _ hp), rfl, _, _, rfl, _, _, rfl, _, _, rfl, rfl, ?_⟩
    refine ⟨_, rfl, rfl, _, rfl, ?_⟩
    cases b with
    | true =>
      refine iteYes rfl ?_
      refine ⟨_, rfl, k, dy, _, rfl, hk2, kf_no _ _ _ _ _ _ (by decide), _, rfl, _, rfl, nt H, k, s, m, Ds.take i, i, t, n, rfl, hK2, N0.same S2, nNk, hs1, hs2, okK_take ho i, by omega, by omega, hE2, fun H3 k3 hK3 => ?_⟩
      rw [e1] at hK3
      exact ⟨_, _, _, rfl, fun c u z => k3 _ _ (S2 _ _ z) (ne_of_none z nk), hK3⟩
    | false =>
      refine iteNo (fun z => absurd (V.str.inj z) (show ¬ Str.ofString "taken" = Str.ofString "added" by decide +kernel)) ?_
      refine ⟨_, rfl, k, dy, _, rfl, hk2, kf_no _ _ _ _ _ _ (by decide), _, rfl, _, rfl, nt H, k, s, m, Ds.take i, i, t, n, rfl, hK2, N0.same S2, nNk, hs1, hs2, okK_take ho i, by omega, by omega, hE2, fun H3 k3 hK3 => ?_⟩
      rw [e1] at hK3
      exact ⟨_, _, _, rfl, fun c u z => k3 _ _ (S2 _ _ z) (ne_of_none z nk), hK3⟩
  rintro σ H2 ⟨v4, v5, v6, rfl, S2, hK2⟩
  rw [List.length_map, gl, List.take_length] at hK2
  exact ⟨_, rfl, q H2 k nk S2 hK2⟩
end
end My
set_option maxHeartbeats 4000000
namespace My
open PySem L2 PyProof.Rows
theorem put_lots (ll lg lu x : Addr) : putK (ownD ll lg lu) (Sum.inr "lots" : Key) (.ref x) = ownD x lg lu := by
  unfold putK ownD
  simp
  exact ⟨fun z => absurd z (by decide +kernel), fun z => absurd z (by decide +kernel)⟩
theorem put_log (ll lg lu x : Addr) : putK (ownD ll lg lu) (Sum.inr "log" : Key) (.ref x) = ownD ll x lu := by
  unfold putK ownD
  simp
  exact ⟨fun z => absurd z (by decide +kernel), fun z => absurd z (by decide +kernel)⟩
theorem put_undone (ll lg lu x : Addr) : putK (ownD ll lg lu) (Sum.inr "undone" : Key) (.ref x) = ownD ll lg x := by
  unfold putK ownD
  simp
  exact ⟨fun z => absurd z (by decide +kernel), fun z => absurd z (by decide +kernel)⟩
theorem NOk.pot {N : Addr → Prop} {H H' : Hp} {a : Addr} (h : NOk N H) (hK : Kept a H H') (hp : PotAt H' a) : NOk N H' := fun b c => by
  by_cases e : b = a
  · obtain ⟨x, y, k, _⟩ := hp
    exact ⟨_, by rw [e]; exact k, fun xs z => by cases z⟩
  · obtain ⟨u, k, q⟩ := h b c
    exact ⟨u, hK _ _ k e, q⟩
theorem NOk.put {N : Addr → Prop} {H : Hp} {o : Addr} {v : HO} (h : NOk N H) (hv : ∀ xs, v ≠ .tup xs) : NOk N (upd H o v) := fun b c => by
  by_cases e : b = o
  · exact ⟨v, by rw [e, upd_same], hv⟩
  · obtain ⟨u, k, q⟩ := h b c
    exact ⟨u, by rw [upd_ne e]; exact k, q⟩
theorem wo_kept {N : Addr → Prop} {H H' : Hp} {a : Addr} (hK : Kept a H H') (hN : N a) : Same (wo N H) (wo N H') := wo_frame fun b u n e => hK _ _ e (fun z => n (z ▸ hN))
theorem wo_put {N : Addr → Prop} {H : Hp} {a : Addr} {v : HO} (hN : N a) : Same (wo N H) (wo N (upd H a v)) := wo_frame fun b u n e => by rw [upd_ne (show b ≠ a from fun z => n (by rw [z]; exact hN))]; exact e
theorem wo_sm {N : Addr → Prop} {H H' : Hp} (s : Same H H') : Same (wo N H) (wo N H') := wo_frame fun b u _ e => s _ _ e
theorem own_done {o : Addr} {No : Addr → Prop} {H H' : Hp} {Ds : List Deed} {d : Nat} {e : Deed} {es us gas : List Addr} {l2 g2 u2 ld p : Addr} (hd : d ≤ Ds.length) (nNo : ¬ No o)
    (h3 : es.length = d + 1) (h4 : ∀ (i : Nat) (p : Addr), es[i]? = some p → wo No H p = some (.dK (dT (st Ds i)))) (h5 : Paired (DeedAt (wo No H)) gas (Ds.take d)) (ho0 : ∃ ll lg lu, H o = some (.dK (ownD ll lg lu)))
    (s : ∀ b u, ¬ No b → b ≠ o → H b = some u → H' b = some u) (hN : NOk No H') (e1 : H' o = some (.dK (ownD l2 g2 u2))) (e2 : H' l2 = some (.lst ((es ++ [ld]).map V.ref))) (n2 : ¬ No l2) (e3 : H' ld = some (.dK (dT (stepD e (st Ds d))))) (n3 : ¬ No ld)
    (e4 : H' g2 = some (.lst ((gas ++ [p]).map V.ref))) (n4 : ¬ No g2) (e5 : DeedAt H' p e) (e6 : H' u2 = some (.lst [])) (n6 : ¬ No u2) : OwnAt o (doneD Ds d e) (d + 1) (wo No H') := by
  obtain ⟨ll, lg, lu, ho0⟩ := ho0
  have fr : ∀ c u, c ≠ o → wo No H c = some u → wo No H' c = some u := fun c u n z => by
    have nc := wo_get z
    rw [wo_of nc] at z ⊢
    exact s _ _ nc n z
  have nd : ∀ {q : Addr} {D : List (Str × Int)}, wo No H q = some (.dK (dT D)) → q ≠ o := fun {q D} h z => by
    have h := wo_same _ _ h
    rw [z, ho0] at h
    injection h with h
    injection h with h
    cases D with
    | nil => cases h
    | cons f r =>
      have := congrArg (fun l => l.head?.map Prod.snd) h
      simp [ownD] at this
  refine ⟨l2, g2, u2, es ++ [ld], [], by rw [wo_of nNo]; exact e1, by rw [wo_of n2]; exact e2, by rw [List.length_append, h3]; rfl, fun i q hi => ?_, ⟨gas ++ [p], by rw [wo_of n4]; exact e4, ?_⟩, by rw [wo_of n6]; exact e6, by rw [doneD_len hd, Nat.sub_self]; rfl, fun i q hi => by simp at hi⟩
  · by_cases c : i = d + 1
    · subst c
      rw [List.getElem?_append_right (by omega), h3, Nat.sub_self] at hi
      cases hi
      rw [wo_of n3, doneD_last hd]
      exact e3
    · have hlt := (List.getElem?_eq_some_iff.mp hi).1
      rw [List.length_append, h3] at hlt
      have hlt : i < d + 1 + 1 := hlt
      rw [List.getElem?_append_left (by omega)] at hi
      rw [doneD_st hd (by omega)]
      exact fr _ _ (nd (h4 i q hi)) (h4 i q hi)
  · have : (doneD Ds d e).take (d + 1) = Ds.take d ++ [e] := List.take_of_length_le (by rw [doneD_len hd]; exact Nat.le_refl _)
    rw [this]
    refine paired_snoc (paired_mono (fun q f hq => fr _ _ (fun z => ?_) hq) h5) ?_
    · have hq := wo_same _ _ hq
      rw [z, ho0] at hq
      cases hq
    · show wo No H' p = _
      rw [wo_of (hN.tup e5)]
      exact e5
theorem drop_add {D : List (Str × Int)} {x : Str} {n : Int} (hx : x ∈ D.map Prod.fst) : dropT (addT D x n) x = dropT D x := by
  induction D with
  | nil => cases hx
  | cons e r ih =>
    unfold addT
    by_cases c : e.1 = x
    · rw [if_pos c]
      show List.filter _ _ = List.filter _ _
      rw [List.filter_cons, List.filter_cons, if_neg (by simpa using c), if_neg (by simpa using c)]
    · rw [if_neg c]
      show List.filter _ _ = List.filter _ _
      rw [List.filter_cons, List.filter_cons, if_pos (by simpa using c), if_pos (by simpa using c)]
      have hx2 : x ∈ r.map Prod.fst := by
        rcases List.mem_cons.mp (show x ∈ e.1 :: r.map Prod.fst from hx) with z | z
        · exact absurd z.symm c
        · exact z
      rw [show (addT r x n).filter (fun e => decide (e.1 ≠ x)) = r.filter (fun e => decide (e.1 ≠ x)) from ih hx2]
end My
/-! xs == [] of a list of whatever items -/
namespace My
open PySem L2 PyProof.Rows
def rEqN (K : PySem.W.Frag) : R2 := fun x y H Q => ∃ a b xs, x = .ref a ∧ y = .ref b ∧ SqL K H a xs ∧ SqL K H b [] ∧ (xs = [] → Q (.bl true) H) ∧ (xs ≠ [] → Q (.bl false) H)
theorem op_eqN {X : Cx} (hu : X.A.units + 64 < cLine) : OpR X (compareOp .Eq) (rEqN X.K) := by
  intro pins s σ H x y v u Q I rx ry h
  obtain ⟨a, b, xs, rfl, rfl, ha, hb, q1, q2⟩ := h
  cases xs with
  | nil => exact op_eqD hu _ _ _ _ _ _ _ _ _ I rx ry ⟨_, _, .lst ha .nil, .lst hb .nil, by decide, by decide, q1 rfl⟩
  | cons z zs =>
    cases (show v = Value.ref a from rx)
    cases (show u = Value.ref b from ry)
    obtain ⟨us, r1, p1, _⟩ := I.list ha
    obtain ⟨ws, r2, p2, _⟩ := I.list hb
    refine SeqAt.eq_list_lengthsAt p1.isList p2.isList ?_ (by omega) ⟨.bl false, H, I, rfl, q2 (fun z => nomatch z)⟩
    cases r2
    cases r1
    simp
end My
set_option maxHeartbeats 4000000
namespace My
open PySem L2 PyProof.Rows
theorem cutV_most {xs : List V} (h : 0 < xs.length) : cutV xs none (some (-1)) = xs.take (xs.length - 1) := by
  unfold cutV HT.sIx
  simp only [List.drop_zero, Nat.sub_zero]
  congr 1
  simp
  omega
theorem own_fr {o : Addr} {No : Addr → Prop} {H H' : Hp} (ho0 : ∃ ll lg lu, H o = some (.dK (ownD ll lg lu))) (s : ∀ b u, ¬ No b → b ≠ o → H b = some u → H' b = some u) :
    (∀ c u, c ≠ o → wo No H c = some u → wo No H' c = some u) ∧ (∀ {q : Addr} {D : List (Str × Int)}, wo No H q = some (.dK (dT D)) → q ≠ o) ∧ ∀ {q : Addr} {xs : List V}, wo No H q = some (.tup xs) → q ≠ o := by
  obtain ⟨ll, lg, lu, ho0⟩ := ho0
  refine ⟨fun c u n z => ?_, fun {q D} h z => ?_, fun {q xs} h z => ?_⟩
  · have nc := wo_get z
    rw [wo_of nc] at z ⊢
    exact s _ _ nc n z
  · have h := wo_same _ _ h
    rw [z, ho0] at h
    injection h with h
    injection h with h
    cases D with
    | nil => cases h
    | cons f r =>
      have := congrArg (fun l => l.head?.map Prod.snd) h
      simp [ownD] at this
  · have h := wo_same _ _ h
    rw [z, ho0] at h
    cases h
theorem own_undo {o : Addr} {No : Addr → Prop} {H H' : Hp} {Ds : List Deed} {d : Nat} {es us gas : List Addr} {l2 g2 u2 t p td : Addr} (hd : d < Ds.length) (nNo : ¬ No o)
    (h3 : es.length = d + 2) (h4 : ∀ (i : Nat) (p : Addr), es[i]? = some p → wo No H p = some (.dK (dT (st Ds i)))) (h5 : Paired (DeedAt (wo No H)) gas (Ds.take (d + 1))) (h7 : us.length = Ds.length - (d + 1))
    (h8 : ∀ (i : Nat) (p : Addr), us[i]? = some p → ∃ q r e, Ds[Ds.length - 1 - i]? = some e ∧ wo No H p = some (.tup [.ref q, .ref r]) ∧ DeedAt (wo No H) q e ∧ wo No H r = some (.dK (dT (st Ds (Ds.length - i)))))
    (ho0 : ∃ ll lg lu, H o = some (.dK (ownD ll lg lu))) (s : ∀ b u, ¬ No b → b ≠ o → H b = some u → H' b = some u) (hN : NOk No H')
    (hp : gas[d]? = some p) (htd : es[d + 1]? = some td)
    (e1 : H' o = some (.dK (ownD l2 g2 u2))) (e2 : H' l2 = some (.lst ((es.take (d + 1)).map V.ref))) (n2 : ¬ No l2) (e4 : H' g2 = some (.lst ((gas.take d).map V.ref))) (n4 : ¬ No g2)
    (e6 : H' u2 = some (.lst ((us ++ [t]).map V.ref))) (n6 : ¬ No u2) (e7 : H' t = some (.tup [.ref p, .ref td])) : OwnAt o Ds d (wo No H') := by
  obtain ⟨fr, nd, nt⟩ := own_fr ho0 s
  refine ⟨l2, g2, u2, es.take (d + 1), us ++ [t], by rw [wo_of nNo]; exact e1, by rw [wo_of n2]; exact e2, by rw [List.length_take]; omega, fun i q hi => ?_, ⟨gas.take d, by rw [wo_of n4]; exact e4, ?_⟩, by rw [wo_of n6]; exact e6, by rw [List.length_append, h7]; show _ + 1 = _; omega, fun i q hi => ?_⟩
  · have hlt := (List.getElem?_eq_some_iff.mp hi).1
    rw [List.length_take] at hlt
    rw [List.getElem?_take, if_pos (by omega)] at hi
    exact fr _ _ (nd (h4 i q hi)) (h4 i q hi)
  · have : Ds.take d = (Ds.take (d + 1)).take d := by rw [List.take_take, Nat.min_eq_left (by omega)]
    rw [this]
    exact paired_take _ (paired_mono (fun q f hq => fr _ _ (nt hq) hq) h5)
  · by_cases c : i = us.length
    · subst c
      rw [List.getElem?_append_right (Nat.le_refl _), Nat.sub_self] at hi
      cases hi
      obtain ⟨e, he, hpe⟩ := paired_get h5 hp
      rw [List.getElem?_take, if_pos (by omega)] at he
      refine ⟨p, td, e, ?_, ?_, fr _ _ (nt hpe) hpe, ?_⟩
      · rw [h7, show Ds.length - 1 - (Ds.length - (d + 1)) = d by omega]
        exact he
      · rw [wo_of (hN.tup e7)]
        exact e7
      · rw [h7, show Ds.length - (Ds.length - (d + 1)) = d + 1 by omega]
        exact fr _ _ (nd (h4 _ _ htd)) (h4 _ _ htd)
    · have hlt := (List.getElem?_eq_some_iff.mp hi).1
      rw [List.length_append] at hlt
      have hlt : i < us.length + 1 := hlt
      rw [List.getElem?_append_left (by omega)] at hi
      obtain ⟨q2, r, e, g1, g2, g3, g4⟩ := h8 i q hi
      exact ⟨q2, r, e, g1, fr _ _ (nt g2) g2, fr _ _ (nt g3) g3, fr _ _ (nd g4) g4⟩
theorem own_redo {o : Addr} {No : Addr → Prop} {H H' : Hp} {Ds : List Deed} {d : Nat} {es us gas : List Addr} {l2 g2 u2 p r : Addr} {e : Deed} (hd : d < Ds.length) (nNo : ¬ No o)
    (h3 : es.length = d + 1) (h4 : ∀ (i : Nat) (p : Addr), es[i]? = some p → wo No H p = some (.dK (dT (st Ds i)))) (h5 : Paired (DeedAt (wo No H)) gas (Ds.take d)) (h7 : us.length = Ds.length - d)
    (h8 : ∀ (i : Nat) (p : Addr), us[i]? = some p → ∃ q r e, Ds[Ds.length - 1 - i]? = some e ∧ wo No H p = some (.tup [.ref q, .ref r]) ∧ DeedAt (wo No H) q e ∧ wo No H r = some (.dK (dT (st Ds (Ds.length - i)))))
    (ho0 : ∃ ll lg lu, H o = some (.dK (ownD ll lg lu))) (s : ∀ b u, ¬ No b → b ≠ o → H b = some u → H' b = some u) (hN : NOk No H')
    (he : Ds[d]? = some e) (hp : DeedAt (wo No H) p e) (hr : wo No H r = some (.dK (dT (st Ds (d + 1)))))
    (e1 : H' o = some (.dK (ownD l2 g2 u2))) (e2 : H' l2 = some (.lst ((es ++ [r]).map V.ref))) (n2 : ¬ No l2) (e4 : H' g2 = some (.lst ((gas ++ [p]).map V.ref))) (n4 : ¬ No g2)
    (e6 : H' u2 = some (.lst ((us.take (us.length - 1)).map V.ref))) (n6 : ¬ No u2) : OwnAt o Ds (d + 1) (wo No H') := by
  obtain ⟨fr, nd, nt⟩ := own_fr ho0 s
  refine ⟨l2, g2, u2, es ++ [r], us.take (us.length - 1), by rw [wo_of nNo]; exact e1, by rw [wo_of n2]; exact e2, by rw [List.length_append, h3]; rfl, fun i q hi => ?_, ⟨gas ++ [p], by rw [wo_of n4]; exact e4, ?_⟩, by rw [wo_of n6]; exact e6, by rw [List.length_take]; omega, fun i q hi => ?_⟩
  · by_cases c : i = d + 1
    · subst c
      rw [List.getElem?_append_right (by omega), h3, Nat.sub_self] at hi
      cases hi
      exact fr _ _ (nd hr) hr
    · have hlt := (List.getElem?_eq_some_iff.mp hi).1
      rw [List.length_append, h3] at hlt
      have hlt : i < d + 1 + 1 := hlt
      rw [List.getElem?_append_left (by omega)] at hi
      exact fr _ _ (nd (h4 i q hi)) (h4 i q hi)
  · rw [List.take_succ, he]
    refine paired_snoc (paired_mono (fun q f hq => fr _ _ (nt hq) hq) h5) ?_
    exact fr _ _ (nt hp) hp
  · have hlt := (List.getElem?_eq_some_iff.mp hi).1
    rw [List.length_take] at hlt
    rw [List.getElem?_take, if_pos (by omega)] at hi
    obtain ⟨q2, r2, f, g1, g2, g3, g4⟩ := h8 i q hi
    exact ⟨q2, r2, f, g1, fr _ _ (nt g2) g2, fr _ _ (nt g3) g3, fr _ _ (nd g4) g4⟩
theorem own_sz (ll lg lu : Addr) : (ownD ll lg lu).length < 1000 := by show 3 < 1000; decide
end My
set_option maxHeartbeats 4000000
namespace My
open PySem L2 PyProof.Rows
theorem own_lt (ll lg lu : Addr) : (ownD ll lg lu).length < sizeLine := by show 3 < sizeLine; decide
theorem get_lots {H : Hp} {o ll lg lu : Addr} (h : H o = some (.dK (ownD ll lg lu))) : DGet H o (.str "lots") (some (.ref ll)) := by rw [← own_lots ll lg lu]; exact DGet.k (k := Sum.inr "lots") h
theorem get_log {H : Hp} {o ll lg lu : Addr} (h : H o = some (.dK (ownD ll lg lu))) : DGet H o (.str "log") (some (.ref lg)) := by rw [← own_log ll lg lu]; exact DGet.k (k := Sum.inr "log") h
theorem get_undone {H : Hp} {o ll lg lu : Addr} (h : H o = some (.dK (ownD ll lg lu))) : DGet H o (.str "undone") (some (.ref lu)) := by rw [← own_undone ll lg lu]; exact DGet.k (k := Sum.inr "undone") h
theorem do_lots {H : Hp} {o ll lg lu x : Addr} (h : H o = some (.dK (ownD ll lg lu))) : DPut H o (.str "lots") (.ref x) (upd H o (.dK (ownD x lg lu))) := by
  rw [← put_lots ll lg lu x]; exact DPut.k (k := Sum.inr "lots") h (own_lt _ _ _)
theorem do_log {H : Hp} {o ll lg lu x : Addr} (h : H o = some (.dK (ownD ll lg lu))) : DPut H o (.str "log") (.ref x) (upd H o (.dK (ownD ll x lu))) := by
  rw [← put_log ll lg lu x]; exact DPut.k (k := Sum.inr "log") h (own_lt _ _ _)
theorem do_undone {H : Hp} {o ll lg lu x : Addr} (h : H o = some (.dK (ownD ll lg lu))) : DPut H o (.str "undone") (.ref x) (upd H o (.dK (ownD ll lg x))) := by
  rw [← put_undone ll lg lu x]; exact DPut.k (k := Sum.inr "undone") h (own_lt _ _ _)
theorem min20 {g : Int} (h : 1 ≤ g) : ∃ n : Nat, (if g < 20 then g else 20) = (n : Int) ∧ 1 ≤ n ∧ n ≤ 20 ∧ (n : Int) ≤ g := by
  by_cases c : g < 20
  · exact ⟨g.toNat, by rw [if_pos c]; omega, by omega, by omega, by omega⟩
  · exact ⟨20, by rw [if_neg c]; rfl, by omega, by omega, by omega⟩
theorem NOk.chg {N : Addr → Prop} {H H' : Hp} {o : Addr} {xs : List (Key × V)} (h : NOk N H) (f : ∀ b u, b ≠ o → H b = some u → H' b = some u) (e : H' o = some (.dK xs)) : NOk N H' := fun b c => by
  by_cases z : b = o
  · exact ⟨_, by rw [z]; exact e, fun xs y => by cases y⟩
  · obtain ⟨u, k, q⟩ := h b c
    exact ⟨u, f _ _ z k, q⟩
theorem PotAt.off {H H' : Hp} {a k : Addr} (h : PotAt H a) (hk : Kept k H H') (n : a ≠ k) : PotAt H' a := by
  obtain ⟨x, y, e, r⟩ := h
  exact ⟨x, y, hk _ _ e n, r⟩
theorem eqv_nil {L : List Deed} (h : L ≠ []) : PyData.eqv (.list (L.map encD)) (.list []) = false := by
  cases L with
  | nil => exact absurd rfl h
  | cons e r => rfl
theorem dp_deed {K : PySem.W.Frag} {H : Hp} {p : Addr} {e : Deed} (h : DeedAt H p e) : Dp K H (.ref p) (encD e) := .tup (SqT.of h) (.cons (.str _) (.cons (.str _) (.cons (.int _) .nil)))
section
variable {P : Program} {w : World} {K : PySem.W.Frag} {mg : Str → Option Value} {base : Heap} {C C2 : Addr}
def sp_law_deed_right (_ : PySem.W.Frag) (C C2 : Addr) : Sp := fun vs H Q _ => ∃ a k o s m Ds d Nk No, vs = [.ref a, .ref k, .ref o] ∧ PotAt H a ∧ KeepAt C C2 k s m Ds d (wo Nk H) ∧ OwnAt o Ds d (wo No H) ∧ NOk Nk H ∧ NOk No H ∧ ¬ Nk k ∧ ¬ No o ∧ Nk a ∧ Nk o ∧ No a ∧ No k ∧ OkK Ds ∧ d ≤ Ds.length ∧ d < 40 ∧ 2 ≤ s ∧ s ≤ 8 ∧
  ∀ H' Ds' d', (∀ b u, b ≠ a → b ≠ k → b ≠ o → H b = some u → H' b = some u) → PotAt H' a → KeepAt C C2 k s m Ds' d' (wo Nk H') → OwnAt o Ds' d' (wo No H') → OkK Ds' → d' ≤ Ds'.length → d' ≤ d + 1 → Q (.bl true) H'
theorem ok_law_deed_right (D : Def K mg "_law_deed_right" s_law_deed_right ["_law_pot_here", "_law_keeper", "_law_own"]) (B : Bs mg) (Glb : Glo mg) (WK : WebK K mg C) (PK : KeepK K mg C2)
    (h_law_draw : Good P w K mg base "_law_draw" s_law_draw ["_law_pot_here", "_law_size"] 1 (sp_law_draw K C C2))
    (h_law_text : Good P w K mg base "_law_text" s_law_text ["_law_pot_here"] 3 (sp_law_text K C C2))
    (h_law_pick : Good P w K mg base "_law_pick" s_law_pick ["_law_pot_here", "_law_some"] 2 (sp_law_pick K C C2))
    (hKeeper_redone : GoodM P w K mg base C2 "redone" "Keeper.redone" sKeeper_redone ["self"] 1 (spKeeper_redone K C C2))
    (hKeeper_added : GoodM P w K mg base C2 "added" "Keeper.added" sKeeper_added ["self", "text", "times"] 10 (spKeeper_added K C C2))
    (hKeeper_taken : GoodM P w K mg base C2 "taken" "Keeper.taken" sKeeper_taken ["self", "text", "times"] 9 (spKeeper_taken K C C2))
    (hKeeper_undone : GoodM P w K mg base C2 "undone" "Keeper.undone" sKeeper_undone ["self"] 1 (spKeeper_undone K C C2)) :
    Good P w K mg base "_law_deed_right" s_law_deed_right ["_law_pot_here", "_law_keeper", "_law_own"] 12 (sp_law_deed_right K C C2) := by
  refine D.good fun f fd F => ?_
  obtain ⟨f_law_draw, d_law_draw, O_law_draw, m_law_draw, k_law_draw, b_law_draw, F_law_draw⟩ := h_law_draw
  obtain ⟨f_law_text, d_law_text, O_law_text, m_law_text, k_law_text, b_law_text, F_law_text⟩ := h_law_text
  obtain ⟨f_law_pick, d_law_pick, O_law_pick, m_law_pick, k_law_pick, b_law_pick, F_law_pick⟩ := h_law_pick
  obtain ⟨fKeeper_redone, dKeeper_redone, OKeeper_redone, tKeeper_redone, bKeeper_redone, FKeeper_redone⟩ := hKeeper_redone
  obtain ⟨fKeeper_added, dKeeper_added, OKeeper_added, tKeeper_added, bKeeper_added, FKeeper_added⟩ := hKeeper_added
  obtain ⟨fKeeper_taken, dKeeper_taken, OKeeper_taken, tKeeper_taken, bKeeper_taken, FKeeper_taken⟩ := hKeeper_taken
  obtain ⟨fKeeper_undone, dKeeper_undone, OKeeper_undone, tKeeper_undone, bKeeper_undone, FKeeper_undone⟩ := hKeeper_undone
  have kb_Keeper_taken_times_text : KBinds K dKeeper_taken ["self", "text", "times"] ["times", "text"] gm21 gm21 := fun_kbinds FKeeper_taken gm21 gm21 relm21 (fun _ _ _ _ _ _ us ws hl => by
    obtain ⟨a0, a1, a2, rfl, rfl⟩ := gm21_inv hl
    rfl)
  refine F.ok sc_law_deed_right (fun vs H Q E h => ?_) (fun cdv A outer s H vs Q E hr h => ?_)
  · obtain ⟨a, k, o, s, m, Ds, d, Nk, No, rfl, hp0, hK0, hO0, hNk0, hNo0, nk, no, ka, ko, oa, ok_, hok, hd, h40, hs1, hs2, q0⟩ := h
    first | rfl | (rcases h with ⟨_, _, rfl, _⟩ | ⟨_, rfl, _⟩ <;> rfl)
  obtain ⟨a, k, o, s, m, Ds, d, Nk, No, rfl, hp0, hK0, hO0, hNk0, hNo0, nk, no, ka, ko, oa, ok_, hok, hd, h40, hs1, hs2, q0⟩ := h
  refine ⟨_, (pss_cons (ps_par3 (i := 3) (j := 4) (l := 5) (by rfl) sc_law_deed_right.nd rfl rfl rfl (by decide) (by decide) (by decide) rfl rfl rfl (pa_cons (pe_call O_law_draw (hr.mono (by decide)) rfl m_law_draw k_law_draw b_law_draw .nil pass0 (pa_cons (pv 0) (pa_cons pe_int pa_nil))) (pa_cons (pe_call O_law_text (hr.mono (by decide)) rfl m_law_text k_law_text b_law_text .nil pass0 (pa_cons (pv 0) pa_nil)) (pa_cons (pe_op op_add pe_int (pe_call O_law_draw (hr.mono (by decide)) rfl m_law_draw k_law_draw b_law_draw .nil pass0 (pa_cons (pv 0) (pa_cons pe_int pa_nil)))) pa_nil))) (by rfl))
  (pss_cons (ps_set (i := 6) sc_law_deed_right.nd rfl (by first | exact Or.inl rfl | exact Or.inr rfl) (pe_ix ix_list (pe_dget (hu_of hr) (pv 2) pe_str (fun _ _ => rfl)) (pe_un un_neg pe_int) (fun _ _ => rfl)))
  (pss_cons (ps_if (pt_cmpR op_lt (pv 3) pe_int (nomark _))
    (pss_cons (ps_set (i := 7) sc_law_deed_right.nd rfl (by first | exact Or.inl rfl | exact Or.inr rfl) (pe_callTy call_dictD (by rfl) B.dict (by decide +kernel) (pa_cons (pv 6) pa_nil)))
  (pss_cons (ps_dput (hu_of hr) (pv 7) (pv 4) (pe_op op_add (pe_dget2 (hu_of hr) (pv 7) (pv 4) pe_int ⟨rfl, rfl, rfl, rfl⟩) (pv 5)) rfl)
  (pss_cons (ps_asg (pe_tup (pa_cons (pe_op op_cat (pe_dget (hu_of hr) (pv 2) pe_str (fun _ _ => rfl)) (pe_lst (pa_cons (pv 7) pa_nil))) (pa_cons (pe_op op_cat (pe_dget (hu_of hr) (pv 2) pe_str (fun _ _ => rfl)) (pe_lst (pa_cons (pe_tup (pa_cons pe_str (pa_cons (pv 4) (pa_cons (pv 5) pa_nil)))) pa_nil))) pa_nil))) (pg_tup rfl (pgs_cons (pg_sub (pv 2) pe_str (set_dict (hu_of hr))) (pgs_cons (pg_sub (pv 2) pe_str (set_dict (hu_of hr))) pgs_nil))))
  (pss_cons (ps_dput (hu_of hr) (pv 2) pe_str (pe_lst pa_nil) rfl)
  (pss_one (ps_ret (pe_cmpR op_isN (pe_meth (pv 1) PK.cl tKeeper_added OKeeper_added (hr.mono (by decide)) bKeeper_added .nil pass0 (pa_cons (pv 4) (pa_cons (pv 5) pa_nil))) pe_non (nomark _)))))))) pss_nil)
  (pss_cons (ps_if (pt_cmpR op_eq (pv 3) pe_int (nomark _))
    (pss_cons (ps_if (pt_cmpR (op_eqT hr.units0) (pv 6) pe_dnewK (nomark _))
    (pss_one (ps_ret pe_bl)) pss_nil)
  (pss_cons (ps_set (i := 4) sc_law_deed_right.nd rfl (by first | exact Or.inl rfl | exact Or.inr rfl) (pe_call O_law_pick (hr.mono (by decide)) rfl m_law_pick k_law_pick b_law_pick .nil pass0 (pa_cons (pv 0) (pa_cons (pe_callB (call_sortedD rfl) (by rfl) B.sorted (by decide +kernel) (pa_cons (pv 6) pa_nil)) pa_nil))))
  (pss_cons (ps_set (i := 5) sc_law_deed_right.nd rfl (by first | exact Or.inl rfl | exact Or.inr rfl) (pe_op op_add pe_int (pe_call O_law_draw (hr.mono (by decide)) rfl m_law_draw k_law_draw b_law_draw .nil pass0 (pa_cons (pv 0) (pa_cons (pe_callB (call_min2 rfl) (by rfl) B.min (by decide +kernel) (pa_cons pe_int (pa_cons (pe_dget (hu_of hr) (pv 6) (pv 4) (fun _ _ => rfl)) pa_nil))) pa_nil)))))
  (pss_cons (ps_set (i := 7) sc_law_deed_right.nd rfl (by first | exact Or.inl rfl | exact Or.inr rfl) (pe_callTy call_dictD (by rfl) B.dict (by decide +kernel) (pa_cons (pv 6) pa_nil)))
  (pss_cons (ps_dput (hu_of hr) (pv 7) (pv 4) (pe_op op_sub (pe_dget (hu_of hr) (pv 7) (pv 4) (fun _ _ => rfl)) (pv 5)) rfl)
  (pss_cons (ps_if (pt_cmpR op_eq (pe_dget (hu_of hr) (pv 7) (pv 4) (fun _ _ => rfl)) pe_int (nomark _))
    (pss_one (ps_expr (pe_dpop1 (pv 7) (pv 4) ⟨rfl, rfl, rfl, rfl⟩))) pss_nil)
  (pss_cons (ps_asg (pe_tup (pa_cons (pe_op op_cat (pe_dget (hu_of hr) (pv 2) pe_str (fun _ _ => rfl)) (pe_lst (pa_cons (pv 7) pa_nil))) (pa_cons (pe_op op_cat (pe_dget (hu_of hr) (pv 2) pe_str (fun _ _ => rfl)) (pe_lst (pa_cons (pe_tup (pa_cons pe_str (pa_cons (pv 4) (pa_cons (pv 5) pa_nil)))) pa_nil))) pa_nil))) (pg_tup rfl (pgs_cons (pg_sub (pv 2) pe_str (set_dict (hu_of hr))) (pgs_cons (pg_sub (pv 2) pe_str (set_dict (hu_of hr))) pgs_nil))))
  (pss_cons (ps_dput (hu_of hr) (pv 2) pe_str (pe_lst pa_nil) rfl)
  (pss_one (ps_ret (pe_cmpR op_isN (pe_methKK (pv 1) PK.cl tKeeper_taken OKeeper_taken (hr.mono (by decide)) kb_Keeper_taken_times_text pass0 (pk_cons (pv 5) (pk_cons (pv 4) pk_nil))) pe_non (nomark _)))))))))))) pss_nil)
  (pss_cons (ps_if (pt_cmpR op_eq (pv 3) pe_int (nomark _))
    (pss_cons (ps_if (pt_cmpR (op_eqD hr.units) (pe_dget (hu_of hr) (pv 2) pe_str (fun _ _ => rfl)) (pe_lst pa_nil) (nomark _))
    (pss_one (ps_ret pe_bl)) pss_nil)
  (pss_cons (ps_dput (hu_of hr) (pv 2) pe_str (pe_op op_cat (pe_dget (hu_of hr) (pv 2) pe_str (fun _ _ => rfl)) (pe_lst (pa_cons (pe_tup (pa_cons (pe_ix ix_list (pe_dget (hu_of hr) (pv 2) pe_str (fun _ _ => rfl)) (pe_un un_neg pe_int) (fun _ _ => rfl)) (pa_cons (pe_ix ix_list (pe_dget (hu_of hr) (pv 2) pe_str (fun _ _ => rfl)) (pe_un un_neg pe_int) (fun _ _ => rfl)) pa_nil))) pa_nil))) rfl)
  (pss_cons (ps_asg (pe_tup (pa_cons (pe_slice sl_list (pe_dget (hu_of hr) (pv 2) pe_str (fun _ _ => rfl)) po_none (po_some (pe_un un_neg pe_int))) (pa_cons (pe_slice sl_list (pe_dget (hu_of hr) (pv 2) pe_str (fun _ _ => rfl)) po_none (po_some (pe_un un_neg pe_int))) pa_nil))) (pg_tup rfl (pgs_cons (pg_sub (pv 2) pe_str (set_dict (hu_of hr))) (pgs_cons (pg_sub (pv 2) pe_str (set_dict (hu_of hr))) pgs_nil))))
  (pss_one (ps_ret (pe_cmpR (op_eqD hr.units) (pe_meth0 (pv 1) PK.cl tKeeper_undone OKeeper_undone (hr.mono (by decide)) bKeeper_undone .nil pass0) (pe_ix ix_tup (pe_ix ix_list (pe_dget (hu_of hr) (pv 2) pe_str (fun _ _ => rfl)) (pe_un un_neg pe_int) (fun _ _ => rfl)) pe_int (fun _ _ => rfl)) (nomark _))))))) pss_nil)
  (pss_cons (ps_if (pt_cmpR (op_eqN hr.units) (pe_dget (hu_of hr) (pv 2) pe_str (fun _ _ => rfl)) (pe_lst pa_nil) (nomark _))
    (pss_one (ps_ret pe_bl)) pss_nil)
  (pss_cons (ps_asg (pe_ix ix_list (pe_dget (hu_of hr) (pv 2) pe_str (fun _ _ => rfl)) (pe_un un_neg pe_int) (fun _ _ => rfl)) (pg_tup rfl (pgs_cons (pg_name (i := 8) sc_law_deed_right.nd rfl (by first | exact Or.inl rfl | exact Or.inr rfl)) (pgs_cons (pg_name (i := 7) sc_law_deed_right.nd rfl (by first | exact Or.inl rfl | exact Or.inr rfl)) pgs_nil))))
  (pss_cons (ps_asg (pe_tup (pa_cons (pe_op op_cat (pe_dget (hu_of hr) (pv 2) pe_str (fun _ _ => rfl)) (pe_lst (pa_cons (pv 8) pa_nil))) (pa_cons (pe_op op_cat (pe_dget (hu_of hr) (pv 2) pe_str (fun _ _ => rfl)) (pe_lst (pa_cons (pv 7) pa_nil))) pa_nil))) (pg_tup rfl (pgs_cons (pg_sub (pv 2) pe_str (set_dict (hu_of hr))) (pgs_cons (pg_sub (pv 2) pe_str (set_dict (hu_of hr))) pgs_nil))))
  (pss_cons (ps_dput (hu_of hr) (pv 2) pe_str (pe_slice sl_list (pe_dget (hu_of hr) (pv 2) pe_str (fun _ _ => rfl)) po_none (po_some (pe_un un_neg pe_int))) rfl)
  (pss_one (ps_ret (pe_cmpR (op_eqD hr.units) (pe_meth0 (pv 1) PK.cl tKeeper_redone OKeeper_redone (hr.mono (by decide)) bKeeper_redone .nil pass0) (pv 8) (nomark _))))))))))))), ?_⟩
  refine ⟨_, rfl, a, 6, rfl, hp0, by decide, by decide, fun way H1 hway k1 hp1 => ?_⟩
  refine ⟨_, rfl, a, rfl, hp1, fun x H2 hx hx6 k2 hp2 => ?_⟩
  refine ⟨_, rfl, a, 3, rfl, hp2, by decide, by decide, fun tm H3 htm k3 hp => ⟨_, _, rfl, rfl, _, _, _, rfl, ?_⟩⟩
  have k03 := (k1.trans k2).trans k3
  have hNk := hNk0.pot k03 hp
  have hNo := hNo0.pot k03 hp
  have hK := hK0.same (wo_kept k03 ka)
  have hO := hO0.same (wo_kept k03 oa)
  have q : ∀ H' Ds' d', (∀ b u, b ≠ a → b ≠ k → b ≠ o → H3 b = some u → H' b = some u) → PotAt H' a → KeepAt C C2 k s m Ds' d' (wo Nk H') → OwnAt o Ds' d' (wo No H') → OkK Ds' → d' ≤ Ds'.length → d' ≤ d + 1 → Q (.bl true) H' := fun H' Ds' d' f => q0 H' Ds' d' (fun b u n1 n2 n3 e => f b u n1 n2 n3 (k03 b u e n1))
  clear hp0 hK0 hO0 hNk0 hNo0 q0 hp1 hp2 k1 k2 k3 k03
  have oa' : o ≠ a := fun z => no (z ▸ oa)
  have ok' : o ≠ k := fun z => no (z ▸ ok_)
  have ka' : k ≠ a := fun z => nk (z ▸ ka)
  have hDd := okD_st hok d hd
  have hlen := hok.len
  have hl6 := st_l6 hok hd
  have okt := okK_t hok
  obtain ⟨ll, lg, lu, es, us, o1, o2, o3, o4, o5, o6, o7, o8⟩ := id hO
  have r1 := wo_same _ _ o1
  have r2 := wo_same _ _ o2
  have ee := List.getElem?_eq_getElem (l := es) (i := d) (by omega)
  generalize es[d]'(by omega) = td at ee
  have htd := wo_same _ _ (o4 d td ee)
  have elast : (es.map V.ref)[(es.map V.ref).length - 1]? = some (.ref td) := by
    rw [List.length_map, o3, show d + 1 - 1 = d by omega, List.getElem?_map, ee]
    rfl
  obtain ⟨gas, o5', gP⟩ := id o5
  have g1 := wo_same _ _ o5'
  have glen := paired_len gP
  rw [List.length_take, Nat.min_eq_left hd] at glen
  refine ⟨_, rfl, o, _, rfl, get_lots r1, _, rfl, _, _, _, .ref td, rfl, rfl, SqL.of r2, atI_back elast, ?_⟩
  refine ⟨_, rfl, _, _, rfl, rfl, _, rfl, ite2 (fun c1 => ?_) (fun c1 => ?_)⟩
  · -- added
    refine ⟨_, rfl, td, _, rfl, .inl htd, fun ld nld => ?_⟩
    have hld0 : upd H3 ld (.dK (dT (st Ds d))) ld = some (.dK (dT (st Ds d))) := upd_same
    have s4 := same_new nld (.dK (dT (st Ds d)))
    have hp4 : PotAt (upd H3 ld (.dK (dT (st Ds d)))) a := hp.new nld
    generalize upd H3 ld (.dK (dT (st Ds d))) = H4 at hld0 s4 hp4
    refine ⟨_, rfl, ld, rfl, .inl ⟨_, .inl hld0⟩, _, rfl, _, DGet.k (k := Sum.inr x) hld0, _, rfl, ?_⟩
    rw [dT_getD]
    have hput : DPut H4 ld (.str x) (.int (getT (st Ds d) x + (1 + (tm : Int)))) (upd H4 ld (.dK (dT (addT (st Ds d) x (1 + (tm : Int)))))) := by
      have := DPut.k (k := Sum.inr x) (v := .int (getT (st Ds d) x + (1 + (tm : Int)))) hld0 (by rw [List.length_map]; exact small100 (by have := hDd.len; omega))
      rw [dT_put hDd.nd] at this
      exact this
    refine ⟨_, _, rfl, rfl, _, rfl, _, rfl, ld, _, rfl, hput, ?_⟩
    have s5 : Same H3 (upd H4 ld (.dK (dT (addT (st Ds d) x (1 + (tm : Int)))))) := fun b u e => by rw [upd_ne (ne_of_none e nld)]; exact s4 _ _ e
    have hp5 : PotAt (upd H4 ld (.dK (dT (addT (st Ds d) x (1 + (tm : Int)))))) a := hp4.put (hp.ne nld)
    have hld : upd H4 ld (.dK (dT (addT (st Ds d) x (1 + (tm : Int))))) ld = some (.dK (dT (stepD (true, x, 1 + (tm : Int)) (st Ds d)))) := upd_same
    generalize upd H4 ld (.dK (dT (addT (st Ds d) x (1 + (tm : Int))))) = H5 at s5 hp5 hld
    clear hput hld0 s4 hp4
    have hE : OkE (true, x, 1 + (tm : Int)) (st Ds d) := ⟨hx, by show (1 : Int) ≤ 1 + (tm : Int); omega, by show 1 + (tm : Int) ≤ 20; omega, fun z => by cases z⟩
    -- the law's own
    refine ⟨_, rfl, o, _, rfl, get_lots (s5 _ _ r1), _, rfl, (by show 1 ≤ sizeLine; decide), fun l1 nl1 => ?_⟩
    refine ⟨ll, l1, _, _, rfl, rfl, same_new nl1 _ _ _ (s5 _ _ r2), upd_same, ?_, fun l2 nl2 => ?_⟩
    · rw [List.length_map]
      exact small100 (show es.length + 1 ≤ 100 by omega)
    have hl2 : upd (upd H5 l1 (.lst [.ref ld])) l2 (.lst (es.map V.ref ++ [.ref ld])) l2 = some (.lst ((es ++ [ld]).map V.ref)) := by rw [upd_same, List.map_append]; rfl
    have s6 : Same H5 (upd (upd H5 l1 (.lst [.ref ld])) l2 (.lst (es.map V.ref ++ [.ref ld]))) := (same_new nl1 _).trans (same_new nl2 _)
    have nl2' : H3 l2 = none := s5.free ((same_new nl1 _).free nl2)
    generalize upd (upd H5 l1 (.lst [.ref ld])) l2 (.lst (es.map V.ref ++ [.ref ld])) = H6 at hl2 s6
    refine ⟨_, rfl, o, _, rfl, get_log (s6 _ _ (s5 _ _ r1)), _, rfl, _, rfl, (by show 3 ≤ sizeLine; decide), fun p np => ⟨(by show 1 ≤ sizeLine; decide), fun l3 nl3 => ?_⟩⟩
    have sp := same_new np (.tup [V.str (Str.ofString "added"), .str x, .int (1 + (tm : Int))])
    refine ⟨lg, l3, _, _, rfl, rfl, same_new nl3 _ _ _ (sp _ _ (s6 _ _ (s5 _ _ g1))), upd_same, ?_, fun gg ngg => ⟨(by show 2 ≤ sizeLine; decide), fun tp ntp => ?_⟩⟩
    · rw [List.length_map]
      exact small100 (show gas.length + 1 ≤ 100 by omega)
    have s7 : Same H6 (upd (upd (upd (upd H6 p (.tup [V.str (Str.ofString "added"), .str x, .int (1 + (tm : Int))])) l3 (.lst [.ref p])) gg (.lst (gas.map V.ref ++ [.ref p]))) tp (.tup [.ref l2, .ref gg])) := ((sp.trans (same_new nl3 _)).trans (same_new ngg _)).trans (same_new ntp _)
    have hpD : upd (upd (upd (upd H6 p (.tup [V.str (Str.ofString "added"), .str x, .int (1 + (tm : Int))])) l3 (.lst [.ref p])) gg (.lst (gas.map V.ref ++ [.ref p]))) tp (.tup [.ref l2, .ref gg]) p = some (.tup [V.str (Str.ofString "added"), .str x, .int (1 + (tm : Int))]) := same_new ntp _ _ _ (same_new ngg _ _ _ (same_new nl3 _ _ _ upd_same))
    have hgg : upd (upd (upd (upd H6 p (.tup [V.str (Str.ofString "added"), .str x, .int (1 + (tm : Int))])) l3 (.lst [.ref p])) gg (.lst (gas.map V.ref ++ [.ref p]))) tp (.tup [.ref l2, .ref gg]) gg = some (.lst ((gas ++ [p]).map V.ref)) := by rw [same_new ntp _ _ _ upd_same, List.map_append]; rfl
    have htp : upd (upd (upd (upd H6 p (.tup [V.str (Str.ofString "added"), .str x, .int (1 + (tm : Int))])) l3 (.lst [.ref p])) gg (.lst (gas.map V.ref ++ [.ref p]))) tp (.tup [.ref l2, .ref gg]) tp = some (.tup [.ref l2, .ref gg]) := upd_same
    have ngg' : H3 gg = none := s5.free (s6.free ((sp.trans (same_new nl3 _)).free ngg))
    generalize upd (upd (upd (upd H6 p (.tup [V.str (Str.ofString "added"), .str x, .int (1 + (tm : Int))])) l3 (.lst [.ref p])) gg (.lst (gas.map V.ref ++ [.ref p]))) tp (.tup [.ref l2, .ref gg]) = H7 at s7 hpD hgg htp
    have s37 : Same H3 H7 := (s5.trans s6).trans s7
    refine ⟨tp, _, rfl, SqT.of htp, rfl, _, _, rfl, _, rfl, o, _, rfl, do_lots (s37 _ _ r1), _, _, rfl, _, rfl, o, _, rfl, do_log upd_same, rfl, ?_⟩
    rw [upd_upd]
    refine ⟨Nat.zero_le _, fun u2 nu2 => ⟨_, rfl, o, _, rfl, do_undone (same_new nu2 _ _ _ upd_same), ?_⟩⟩
    have nu2o : u2 ≠ o := fun z => by rw [z, upd_same] at nu2; cases nu2
    have nu2' : H7 u2 = none := by rw [upd_ne nu2o] at nu2; exact nu2
    have F8 : ∀ b u, b ≠ o → H7 b = some u → upd (upd (upd H7 o (.dK (ownD l2 gg lu))) u2 (.lst [])) o (.dK (ownD l2 gg u2)) b = some u := fun b u n e => by
      rw [upd_ne n, upd_ne (ne_of_none e nu2'), upd_ne n]
      exact e
    have h8o : upd (upd (upd H7 o (.dK (ownD l2 gg lu))) u2 (.lst [])) o (.dK (ownD l2 gg u2)) o = some (.dK (ownD l2 gg u2)) := upd_same
    have h8u : upd (upd (upd H7 o (.dK (ownD l2 gg lu))) u2 (.lst [])) o (.dK (ownD l2 gg u2)) u2 = some (.lst []) := by rw [upd_ne nu2o]; exact upd_same
    have hp8 : PotAt (upd (upd (upd H7 o (.dK (ownD l2 gg lu))) u2 (.lst [])) o (.dK (ownD l2 gg u2))) a := ((((hp5.same s6).same s7).put oa').new nu2).put oa'
    generalize upd (upd (upd H7 o (.dK (ownD l2 gg lu))) u2 (.lst [])) o (.dK (ownD l2 gg u2)) = H8 at F8 h8o h8u hp8
    have F38 : ∀ b u, b ≠ o → H3 b = some u → H8 b = some u := fun b u n e => F8 b u n (s37 _ _ e)
    have hNk8 := hNk.chg F38 h8o
    have hNo8 := hNo.chg F38 h8o
    have hK8 : KeepAt C C2 k s m Ds d (wo Nk H8) := hK.same (wo_frame fun b u n e => F38 b u (fun z => n (z ▸ ko)) e)
    have no_ : ∀ {b : Addr}, H3 b = none → b ≠ o := fun h z => by rw [z, r1] at h; cases h
    have hO8 : OwnAt o (doneD Ds d (true, x, 1 + (tm : Int))) (d + 1) (wo No H8) := own_done (us := []) hd no o3 o4 gP ⟨_, _, _, r1⟩ (fun b u _ n e => F38 b u n e) hNo8 h8o (F8 _ _ (no_ nl2') (s7 _ _ hl2)) (hNo.new nl2') (F8 _ _ (no_ nld) (s7 _ _ (s6 _ _ hld))) (hNo.new nld)
      (F8 _ _ (no_ ngg') hgg) (hNo.new ngg') (F8 _ _ (fun z => by rw [z, s37 _ _ r1] at hpD; cases hpD) hpD) h8u (hNo.new (s37.free nu2'))
    obtain ⟨dx, lp, dp, kp, las, das, h1, _⟩ := id hK8
    have hk8 := wo_same _ _ h1
    refine ⟨_, rfl, k, dx, _, rfl, hk8, kf_no _ _ _ _ _ _ (by decide), _, rfl, _, rfl, Nk, k, s, m, Ds, d, x, 1 + (tm : Int), rfl, hK8, hNk8, nk, hs1, hs2, hok, hd, h40, hE, fun H' hk' hK' => ⟨rfl, ?_⟩⟩
    exact q H' _ _ (fun b u n1 n2 n3 e => hk' _ _ (F38 _ _ n3 e) n2) (hp8.off hk' ka'.symm) hK' (hO8.same (wo_kept hk' ok_)) (doneD_ok hok hd h40 hE hx6) (by rw [doneD_len hd]; exact Nat.le_refl _) (Nat.le_refl _)
  refine ⟨_, rfl, rfl, _, rfl, ite2 (fun c2 => ?_) (fun c2 => ?_)⟩
  · -- taken
    refine ⟨_, rfl, fun el nel => ⟨td, el, st Ds d, [], rfl, rfl, same_new nel _ _ _ htd, upd_same, _, rfl, ?_⟩⟩
    have sE := same_new nel (.dK [])
    cases hz : eqT (st Ds d) [] with
    | true => exact iteT (q _ Ds d (fun b u _ _ _ e => sE _ _ e) (hp.new nel) (hK.same (wo_sm sE)) (hO.same (wo_sm sE)) hok hd (Nat.le_succ d))
    | false =>
    refine iteF ?_
    have hne : st Ds d ≠ [] := fun z => by rw [z] at hz; cases hz
    have hDlen : (st Ds d).length ≤ 90000 := by have := hDd.len; omega
    have hpE : PotAt (upd H3 el (.dK [])) a := hp.new nel
    generalize upd H3 el (.dK []) = HE at sE hpE
    have htdE := sE _ _ htd
    refine ⟨_, rfl, _, rfl, td, dT (st Ds d), (st Ds d).map Prod.fst, rfl, .inl htdE, by simp [dT, Function.comp_def], by rw [List.length_map]; have := hDd.len; omega, fun ys kp hperm _ nkp => ?_⟩
    have s6 : Same HE (upd HE kp (.lst (ys.map V.str))) := same_new nkp _
    have hkp : upd HE kp (.lst (ys.map V.str)) kp = some (.lst (ys.map V.str)) := upd_same
    have hp6 := hpE.new nkp (o := .lst (ys.map V.str))
    have nkpp : kp ≠ a := hpE.ne nkp
    have ylen : ys.length = (st Ds d).length := by rw [hperm.length_eq, List.length_map]
    generalize upd HE kp (.lst (ys.map V.str)) = HF at s6 hkp hp6
    refine ⟨a, .inl ⟨kp, _, rfl, hkp, nkpp, ?_, by rw [List.length_map, ylen]; have := hDd.len; omega, hp6, fun y HG hy hk7 hp7 => ?_⟩⟩
    · rw [List.length_map, ylen]
      cases hst : st Ds d with
      | nil => exact absurd hst hne
      | cons f r => exact Nat.succ_pos _
    obtain ⟨x', hx', rfl⟩ := List.mem_map.mp hy
    have hxm : x' ∈ (st Ds d).map Prod.fst := hperm.mem_iff.mp hx'
    obtain ⟨hxL, hg1, hg2⟩ := getT_in hDd hxm
    obtain ⟨f6, hf6, ef6⟩ := List.mem_map.mp hxm
    have hx6' : x'.length ≤ 6 := ef6 ▸ hl6 f6 hf6
    have htda : td ≠ a := hp.ndk htd
    have kG : Kept a H3 HG := (Same.kept (sE.trans s6)).trans hk7
    have htdG := kG _ _ htd htda
    have hg : ∀ {H8 : Hp}, H8 td = some (.dK (dT (st Ds d))) → DGet H8 td (.str x') (some (.int (getT (st Ds d) x'))) := fun h => by
      rw [← dT_some hxm]
      exact DGet.k (k := Sum.inr x') h
    obtain ⟨nn, en, nn1, nn2, nn3⟩ := min20 hg1
    refine ⟨_, rfl, _, rfl, _, rfl, td, _, rfl, hg htdG, _, _, rfl, ?_⟩
    rw [en]
    refine ⟨a, nn, rfl, hp7, by omega, by omega, fun t2 HI ht2 k8 hpI => ⟨_, _, rfl, rfl, ?_⟩⟩
    have kI := kG.trans k8
    have ll_ : ll ≠ a := fun z => wo_get o2 (z ▸ oa)
    have lg_ : lg ≠ a := fun z => wo_get o5' (z ▸ oa)
    have r1 := kI _ _ r1 oa'
    have r2 := kI _ _ r2 ll_
    have g1 := kI _ _ g1 lg_
    have htd := kI _ _ htd htda
    have o4 : ∀ (i : Nat) (p : Addr), es[i]? = some p → wo No HI p = some (.dK (dT (st Ds i))) := fun i p e => wo_kept kI oa _ _ (o4 i p e)
    have gP : Paired (DeedAt (wo No HI)) gas (Ds.take d) := paired_mono (fun q f hq => wo_kept kI oa _ _ hq) gP
    have hNk := hNk.pot kI hpI
    have hNo := hNo.pot kI hpI
    have hK := hK.same (wo_kept kI ka)
    have q : ∀ H' Ds' d', (∀ b u, b ≠ a → b ≠ k → b ≠ o → HI b = some u → H' b = some u) → PotAt H' a → KeepAt C C2 k s m Ds' d' (wo Nk H') → OwnAt o Ds' d' (wo No H') → OkK Ds' → d' ≤ Ds'.length → d' ≤ d + 1 → Q (.bl true) H' := fun H' Ds' d' f => q H' Ds' d' (fun b u n1 n2 n3 e => f b u n1 n2 n3 (kI b u e n1))
    have hg : ∀ {H8 : Hp} {l8 : Addr}, H8 l8 = some (.dK (dT (st Ds d))) → DGet H8 l8 (.str x') (some (.int (getT (st Ds d) x'))) := fun h => by
      rw [← dT_some hxm]
      exact DGet.k (k := Sum.inr x') h
    refine ⟨_, rfl, td, _, rfl, .inl htd, fun ld nld => ?_⟩
    have hld0 : upd HI ld (.dK (dT (st Ds d))) ld = some (.dK (dT (st Ds d))) := upd_same
    have s4 := same_new nld (.dK (dT (st Ds d)))
    have hp4 : PotAt (upd HI ld (.dK (dT (st Ds d)))) a := hpI.new nld
    generalize upd HI ld (.dK (dT (st Ds d))) = H4 at hld0 s4 hp4
    have hput : DPut H4 ld (.str x') (.int (getT (st Ds d) x' - (1 + (t2 : Int)))) (upd H4 ld (.dK (dT (addT (st Ds d) x' (-(1 + (t2 : Int))))))) := by
      have := DPut.k (k := Sum.inr x') (v := .int (getT (st Ds d) x' + (-(1 + (t2 : Int))))) hld0 (by rw [List.length_map]; exact small100 (by have := hDd.len; omega))
      rw [dT_put hDd.nd] at this
      exact this
    refine ⟨_, rfl, _, rfl, ld, _, rfl, hg hld0, _, rfl, _, _, rfl, rfl, _, rfl, _, rfl, ld, _, rfl, hput, ?_⟩
    have hm2 : x' ∈ (addT (st Ds d) x' (-(1 + (t2 : Int)))).map Prod.fst := addT_mem.mpr (.inr rfl)
    have hgv : getT (st Ds d) x' - (1 + (t2 : Int)) = getT (addT (st Ds d) x' (-(1 + (t2 : Int)))) x' := by
      rw [addT_get, if_pos rfl]
      omega
    have hgx : DGet (upd H4 ld (.dK (dT (addT (st Ds d) x' (-(1 + (t2 : Int))))))) ld (.str x') (some (.int (getT (st Ds d) x' - (1 + (t2 : Int))))) := by
      rw [hgv, ← dT_some hm2]
      exact DGet.k (k := Sum.inr x') upd_same
    have hE : OkE (false, x', 1 + (t2 : Int)) (st Ds d) := ⟨hxL, by show (1 : Int) ≤ 1 + (t2 : Int); omega, by show 1 + (t2 : Int) ≤ 20; omega, fun _ => ⟨hxm, (by omega : 1 + (t2 : Int) ≤ getT (st Ds d) x')⟩⟩
    refine ⟨_, rfl, _, rfl, ld, _, rfl, hgx, rfl, _, rfl, ?_⟩
    by_cases c3 : getT (st Ds d) x' - (1 + (t2 : Int)) = 0
    case' pos =>
      refine iteYes (int_eq.mpr c3) ?_
      refine ⟨_, rfl, ld, rfl, .inl ⟨_, .inl upd_same⟩, _, rfl, _, Sum.inr x', _, upd_same, rfl, dT_some hm2, ?_⟩
      rw [drop_dT, upd_upd, show dropT (addT (st Ds d) x' (-(1 + (t2 : Int)))) x' = leftT (st Ds d) x' (1 + (t2 : Int)) by unfold leftT; rw [if_pos c3, drop_add hxm]]
    case' neg =>
      refine iteNo (fun z => c3 (int_eq.mp z)) ?_
      rw [show addT (st Ds d) x' (-(1 + (t2 : Int))) = leftT (st Ds d) x' (1 + (t2 : Int)) by unfold leftT; rw [if_neg c3]]
    all_goals
      have s5 : Same HI (upd H4 ld (.dK (dT (leftT (st Ds d) x' (1 + (t2 : Int)))))) := fun b u e => by rw [upd_ne (ne_of_none e nld)]; exact s4 _ _ e
      have hp5 : PotAt (upd H4 ld (.dK (dT (leftT (st Ds d) x' (1 + (t2 : Int)))))) a := hp4.put (hpI.ne nld)
      have hld : upd H4 ld (.dK (dT (leftT (st Ds d) x' (1 + (t2 : Int))))) ld = some (.dK (dT (stepD (false, x', 1 + (t2 : Int)) (st Ds d)))) := upd_same
      generalize upd H4 ld (.dK (dT (leftT (st Ds d) x' (1 + (t2 : Int))))) = H5 at s5 hp5 hld
      clear hput hld0 s4 hp4 hgx
      -- the law's own
      refine ⟨_, rfl, o, _, rfl, get_lots (s5 _ _ r1), _, rfl, (by show 1 ≤ sizeLine; decide), fun l1 nl1 => ?_⟩
      refine ⟨ll, l1, _, _, rfl, rfl, same_new nl1 _ _ _ (s5 _ _ r2), upd_same, ?_, fun l2 nl2 => ?_⟩
      · rw [List.length_map]
        exact small100 (show es.length + 1 ≤ 100 by omega)
      have hl2 : upd (upd H5 l1 (.lst [.ref ld])) l2 (.lst (es.map V.ref ++ [.ref ld])) l2 = some (.lst ((es ++ [ld]).map V.ref)) := by rw [upd_same, List.map_append]; rfl
      have s6 : Same H5 (upd (upd H5 l1 (.lst [.ref ld])) l2 (.lst (es.map V.ref ++ [.ref ld]))) := (same_new nl1 _).trans (same_new nl2 _)
      have nl2' : HI l2 = none := s5.free ((same_new nl1 _).free nl2)
      generalize upd (upd H5 l1 (.lst [.ref ld])) l2 (.lst (es.map V.ref ++ [.ref ld])) = H6 at hl2 s6
      refine ⟨_, rfl, o, _, rfl, get_log (s6 _ _ (s5 _ _ r1)), _, rfl, _, rfl, (by show 3 ≤ sizeLine; decide), fun p np => ⟨(by show 1 ≤ sizeLine; decide), fun l3 nl3 => ?_⟩⟩
      have sp := same_new np (.tup [V.str (Str.ofString "taken"), .str x', .int (1 + (t2 : Int))])
      refine ⟨lg, l3, _, _, rfl, rfl, same_new nl3 _ _ _ (sp _ _ (s6 _ _ (s5 _ _ g1))), upd_same, ?_, fun gg ngg => ⟨(by show 2 ≤ sizeLine; decide), fun tp ntp => ?_⟩⟩
      · rw [List.length_map]
        exact small100 (show gas.length + 1 ≤ 100 by omega)
      have s7 : Same H6 (upd (upd (upd (upd H6 p (.tup [V.str (Str.ofString "taken"), .str x', .int (1 + (t2 : Int))])) l3 (.lst [.ref p])) gg (.lst (gas.map V.ref ++ [.ref p]))) tp (.tup [.ref l2, .ref gg])) := ((sp.trans (same_new nl3 _)).trans (same_new ngg _)).trans (same_new ntp _)
      have hpD : upd (upd (upd (upd H6 p (.tup [V.str (Str.ofString "taken"), .str x', .int (1 + (t2 : Int))])) l3 (.lst [.ref p])) gg (.lst (gas.map V.ref ++ [.ref p]))) tp (.tup [.ref l2, .ref gg]) p = some (.tup [V.str (Str.ofString "taken"), .str x', .int (1 + (t2 : Int))]) := same_new ntp _ _ _ (same_new ngg _ _ _ (same_new nl3 _ _ _ upd_same))
      have hgg : upd (upd (upd (upd H6 p (.tup [V.str (Str.ofString "taken"), .str x', .int (1 + (t2 : Int))])) l3 (.lst [.ref p])) gg (.lst (gas.map V.ref ++ [.ref p]))) tp (.tup [.ref l2, .ref gg]) gg = some (.lst ((gas ++ [p]).map V.ref)) := by rw [same_new ntp _ _ _ upd_same, List.map_append]; rfl
      have htp : upd (upd (upd (upd H6 p (.tup [V.str (Str.ofString "taken"), .str x', .int (1 + (t2 : Int))])) l3 (.lst [.ref p])) gg (.lst (gas.map V.ref ++ [.ref p]))) tp (.tup [.ref l2, .ref gg]) tp = some (.tup [.ref l2, .ref gg]) := upd_same
      have ngg' : HI gg = none := s5.free (s6.free ((sp.trans (same_new nl3 _)).free ngg))
      generalize upd (upd (upd (upd H6 p (.tup [V.str (Str.ofString "taken"), .str x', .int (1 + (t2 : Int))])) l3 (.lst [.ref p])) gg (.lst (gas.map V.ref ++ [.ref p]))) tp (.tup [.ref l2, .ref gg]) = H7 at s7 hpD hgg htp
      have s37 : Same HI H7 := (s5.trans s6).trans s7
      refine ⟨tp, _, rfl, SqT.of htp, rfl, _, _, rfl, _, rfl, o, _, rfl, do_lots (s37 _ _ r1), _, _, rfl, _, rfl, o, _, rfl, do_log upd_same, rfl, ?_⟩
      rw [upd_upd]
      refine ⟨Nat.zero_le _, fun u2 nu2 => ⟨_, rfl, o, _, rfl, do_undone (same_new nu2 _ _ _ upd_same), ?_⟩⟩
      have nu2o : u2 ≠ o := fun z => by rw [z, upd_same] at nu2; cases nu2
      have nu2' : H7 u2 = none := by rw [upd_ne nu2o] at nu2; exact nu2
      have F8 : ∀ b u, b ≠ o → H7 b = some u → upd (upd (upd H7 o (.dK (ownD l2 gg lu))) u2 (.lst [])) o (.dK (ownD l2 gg u2)) b = some u := fun b u n e => by
        rw [upd_ne n, upd_ne (ne_of_none e nu2'), upd_ne n]
        exact e
      have h8o : upd (upd (upd H7 o (.dK (ownD l2 gg lu))) u2 (.lst [])) o (.dK (ownD l2 gg u2)) o = some (.dK (ownD l2 gg u2)) := upd_same
      have h8u : upd (upd (upd H7 o (.dK (ownD l2 gg lu))) u2 (.lst [])) o (.dK (ownD l2 gg u2)) u2 = some (.lst []) := by rw [upd_ne nu2o]; exact upd_same
      have hp8 : PotAt (upd (upd (upd H7 o (.dK (ownD l2 gg lu))) u2 (.lst [])) o (.dK (ownD l2 gg u2))) a := ((((hp5.same s6).same s7).put oa').new nu2).put oa'
      generalize upd (upd (upd H7 o (.dK (ownD l2 gg lu))) u2 (.lst [])) o (.dK (ownD l2 gg u2)) = H8 at F8 h8o h8u hp8
      have F38 : ∀ b u, b ≠ o → HI b = some u → H8 b = some u := fun b u n e => F8 b u n (s37 _ _ e)
      have hNk8 := hNk.chg F38 h8o
      have hNo8 := hNo.chg F38 h8o
      have hK8 : KeepAt C C2 k s m Ds d (wo Nk H8) := hK.same (wo_frame fun b u n e => F38 b u (fun z => n (z ▸ ko)) e)
      have no_ : ∀ {b : Addr}, HI b = none → b ≠ o := fun h z => by rw [z, r1] at h; cases h
      have hO8 : OwnAt o (doneD Ds d (false, x', 1 + (t2 : Int))) (d + 1) (wo No H8) := own_done (us := []) hd no o3 o4 gP ⟨_, _, _, r1⟩ (fun b u _ n e => F38 b u n e) hNo8 h8o (F8 _ _ (no_ nl2') (s7 _ _ hl2)) (hNo.new nl2') (F8 _ _ (no_ nld) (s7 _ _ (s6 _ _ hld))) (hNo.new nld)
        (F8 _ _ (no_ ngg') hgg) (hNo.new ngg') (F8 _ _ (fun z => by rw [z, s37 _ _ r1] at hpD; cases hpD) hpD) h8u (hNo.new (s37.free nu2'))
      obtain ⟨dx, lp, dp, kp, las, das, h1, _⟩ := id hK8
      have hk8 := wo_same _ _ h1
      refine ⟨_, rfl, k, dx, _, rfl, hk8, kf_no _ _ _ _ _ _ (by decide), _, rfl, _, rfl, Nk, k, s, m, Ds, d, x', 1 + (t2 : Int), rfl, hK8, hNk8, nk, hs1, hs2, hok, hd, h40, hE, fun H' hk' hK' => ⟨rfl, ?_⟩⟩
      exact q H' _ _ (fun b u n1 n2 n3 e => hk' _ _ (F38 _ _ n3 e) n2) (hp8.off hk' ka'.symm) hK' (hO8.same (wo_kept hk' ok_)) (doneD_ok hok hd h40 hE hx6') (by rw [doneD_len hd]; exact Nat.le_refl _) (Nat.le_refl _)
  refine ⟨_, rfl, rfl, _, rfl, ite2 (fun c3 => ?_) (fun c3 => ?_)⟩
  · -- undone
    refine ⟨_, rfl, o, _, rfl, get_log r1, Nat.zero_le _, fun el nel => ?_⟩
    have sE := same_new nel (.lst [])
    have hel : upd H3 el (.lst []) el = some (.lst []) := upd_same
    have hpE : PotAt (upd H3 el (.lst [])) a := hp.new nel
    generalize upd H3 el (.lst []) = HE at sE hel hpE
    have okt2 : ∀ e ∈ Ds.take d, OkT e.2.1 := fun e he => okt e (List.mem_of_mem_take he)
    refine ⟨_, _, dp_deeds ((o5.same wo_same).same sE), .lst (SqL.of hel) .nil, shaped_deeds okt2, by decide, _, rfl, ?_⟩
    by_cases c4 : d = 0
    · subst c4
      exact iteT (q _ Ds 0 (fun b u _ _ _ e => sE _ _ e) hpE (hK.same (wo_sm sE)) (hO.same (wo_sm sE)) hok hd (Nat.le_succ 0))
    obtain ⟨d1, rfl⟩ : ∃ j, d = j + 1 := ⟨d - 1, by omega⟩
    rw [eqv_nil (L := Ds.take (d1 + 1)) (fun z => by have := congrArg List.length z; rw [List.length_take, Nat.min_eq_left hd] at this; cases this)]
    refine iteF ?_
    have s3E := fun b u e => sE b u e
    have ep := List.getElem?_eq_getElem (l := gas) (i := d1) (by omega)
    generalize gas[d1]'(by omega) = p at ep
    have plast : (gas.map V.ref)[(gas.map V.ref).length - 1]? = some (.ref p) := by
      rw [List.length_map, glen, show d1 + 1 - 1 = d1 by omega, List.getElem?_map, ep]
      rfl
    refine ⟨_, rfl, o, _, rfl, get_undone (sE _ _ r1), _, rfl, o, _, rfl, get_log (sE _ _ r1), _, rfl, _, _, _, .ref p, rfl, rfl, SqL.of (sE _ _ g1), atI_back plast, ?_⟩
    refine ⟨_, rfl, o, _, rfl, get_lots (sE _ _ r1), _, rfl, _, _, _, .ref td, rfl, rfl, SqL.of (sE _ _ r2), atI_back elast, ?_⟩
    refine ⟨(by show 2 ≤ sizeLine; decide), fun t nt => ⟨(by show 1 ≤ sizeLine; decide), fun l1 nl1 => ?_⟩⟩
    have r6 := wo_same _ _ o6
    refine ⟨lu, l1, _, _, rfl, rfl, same_new nl1 _ _ _ (same_new nt _ _ _ (sE _ _ r6)), upd_same, ?_, fun u2 nu2 => ?_⟩
    · rw [List.length_map]
      exact small100 (show us.length + 1 ≤ 100 by omega)
    have s5 : Same HE (upd (upd (upd HE t (.tup [.ref p, .ref td])) l1 (.lst [.ref t])) u2 (.lst (us.map V.ref ++ [.ref t]))) := ((same_new nt _).trans (same_new nl1 _)).trans (same_new nu2 _)
    have ht : upd (upd (upd HE t (.tup [.ref p, .ref td])) l1 (.lst [.ref t])) u2 (.lst (us.map V.ref ++ [.ref t])) t = some (.tup [.ref p, .ref td]) := same_new nu2 _ _ _ (same_new nl1 _ _ _ upd_same)
    have hu2 : upd (upd (upd HE t (.tup [.ref p, .ref td])) l1 (.lst [.ref t])) u2 (.lst (us.map V.ref ++ [.ref t])) u2 = some (.lst ((us ++ [t]).map V.ref)) := by rw [upd_same, List.map_append]; rfl
    have nu2' : H3 u2 = none := sE.free (((same_new nt _).trans (same_new nl1 _)).free nu2)
    generalize upd (upd (upd HE t (.tup [.ref p, .ref td])) l1 (.lst [.ref t])) u2 (.lst (us.map V.ref ++ [.ref t])) = H5 at s5 ht hu2
    have s35 := sE.trans s5
    have ll_ : ll ≠ o := ne_of r2 r1 (by intro z; cases z)
    have lg_ : lg ≠ o := ne_of g1 r1 (by intro z; cases z)
    have no_ : ∀ {b : Addr}, H3 b = none → b ≠ o := fun h z => by rw [z, r1] at h; cases h
    refine ⟨_, rfl, o, _, rfl, do_undone (s35 _ _ r1), ?_⟩
    have F6 : ∀ b u, b ≠ o → H5 b = some u → upd H5 o (.dK (ownD ll lg u2)) b = some u := fun b u n e => by rw [upd_ne n]; exact e
    have h6o : upd H5 o (.dK (ownD ll lg u2)) o = some (.dK (ownD ll lg u2)) := upd_same
    have hp6 : PotAt (upd H5 o (.dK (ownD ll lg u2))) a := (hpE.same s5).put oa'
    generalize upd H5 o (.dK (ownD ll lg u2)) = H6 at F6 h6o hp6
    refine ⟨_, rfl, o, _, rfl, get_log h6o, _, rfl, _, rfl, lg, _, rfl, SqL.of (F6 _ _ lg_ (s35 _ _ g1)), fun g2 ng2 => ?_⟩
    rw [cutV_most (by rw [List.length_map]; omega), ← List.map_take, List.length_map, glen, show d1 + 1 - 1 = d1 by omega]
    have s7 := same_new ng2 (.lst ((gas.take d1).map V.ref))
    refine ⟨_, rfl, o, _, rfl, get_lots (s7 _ _ h6o), _, rfl, _, rfl, ll, _, rfl, SqL.of (s7 _ _ (F6 _ _ ll_ (s35 _ _ r2))), fun l2 nl2 => ?_⟩
    rw [cutV_most (by rw [List.length_map]; omega), ← List.map_take, List.length_map, o3, show d1 + 1 + 1 - 1 = d1 + 1 by omega]
    refine ⟨(by show 2 ≤ sizeLine; decide), fun tp ntp => ?_⟩
    have s8 := (s7.trans (same_new nl2 (.lst ((es.take (d1 + 1)).map V.ref)))).trans (same_new ntp (.tup [.ref g2, .ref l2]))
    have hg2 : upd (upd (upd H6 g2 (.lst ((gas.take d1).map V.ref))) l2 (.lst ((es.take (d1 + 1)).map V.ref))) tp (.tup [.ref g2, .ref l2]) g2 = some (.lst ((gas.take d1).map V.ref)) := same_new ntp _ _ _ (same_new nl2 _ _ _ upd_same)
    have hl2 : upd (upd (upd H6 g2 (.lst ((gas.take d1).map V.ref))) l2 (.lst ((es.take (d1 + 1)).map V.ref))) tp (.tup [.ref g2, .ref l2]) l2 = some (.lst ((es.take (d1 + 1)).map V.ref)) := same_new ntp _ _ _ upd_same
    have htp : upd (upd (upd H6 g2 (.lst ((gas.take d1).map V.ref))) l2 (.lst ((es.take (d1 + 1)).map V.ref))) tp (.tup [.ref g2, .ref l2]) tp = some (.tup [.ref g2, .ref l2]) := upd_same
    have back6 : ∀ {b : Addr}, H6 b = none → H3 b = none := fun {b} h => by
      cases e : H3 b with
      | none => rfl
      | some u =>
        by_cases c : b = o
        · rw [c, h6o] at h; cases h
        · rw [F6 _ _ c (s35 _ _ e)] at h; cases h
    have ng2' : H3 g2 = none := back6 ng2
    have nl2' : H3 l2 = none := back6 (s7.free nl2)
    generalize upd (upd (upd H6 g2 (.lst ((gas.take d1).map V.ref))) l2 (.lst ((es.take (d1 + 1)).map V.ref))) tp (.tup [.ref g2, .ref l2]) = H7 at s8 hg2 hl2 htp
    refine ⟨tp, _, rfl, SqT.of htp, rfl, _, _, rfl, _, rfl, o, _, rfl, do_log (s8 _ _ h6o), _, _, rfl, _, rfl, o, _, rfl, do_lots upd_same, rfl, ?_⟩
    rw [upd_upd]
    have F8 : ∀ b u, b ≠ o → H7 b = some u → upd H7 o (.dK (ownD l2 g2 u2)) b = some u := fun b u n e => by rw [upd_ne n]; exact e
    have h8o : upd H7 o (.dK (ownD l2 g2 u2)) o = some (.dK (ownD l2 g2 u2)) := upd_same
    have hp8 : PotAt (upd H7 o (.dK (ownD l2 g2 u2))) a := (hp6.same s8).put oa'
    generalize upd H7 o (.dK (ownD l2 g2 u2)) = H8 at F8 h8o hp8
    have F58 : ∀ b u, b ≠ o → H5 b = some u → H8 b = some u := fun b u n e => F8 b u n (s8 _ _ (F6 _ _ n e))
    have F38 : ∀ b u, b ≠ o → H3 b = some u → H8 b = some u := fun b u n e => F58 b u n (s35 _ _ e)
    have hNk8 := hNk.chg F38 h8o
    have hNo8 := hNo.chg F38 h8o
    have hK8 : KeepAt C C2 k s m Ds (d1 + 1) (wo Nk H8) := hK.same (wo_frame fun b u n e => F38 b u (fun z => n (z ▸ ko)) e)
    have nto : t ≠ o := fun z => by rw [z, s35 _ _ r1] at ht; cases ht
    have hO8 : OwnAt o Ds d1 (wo No H8) := own_undo (by omega) no o3 o4 gP o7 o8 ⟨_, _, _, r1⟩ (fun b u _ n e => F38 b u n e) hNo8 ep ee h8o (F8 _ _ (no_ nl2') hl2) (hNo.new nl2') (F8 _ _ (no_ ng2') hg2) (hNo.new ng2')
      (F58 _ _ (no_ nu2') hu2) (hNo.new nu2') (F58 _ _ nto ht)
    obtain ⟨dx, lp, dp, kp, las, das, h1, _⟩ := id hK8
    have hk8 := wo_same _ _ h1
    obtain ⟨e, he, hpe⟩ := paired_get gP ep
    rw [List.getElem?_take, if_pos (by omega)] at he
    have hpe8 := F38 _ _ (fun z => by have hpe := wo_same _ _ hpe; rw [z, r1] at hpe; cases hpe) (wo_same _ _ hpe)
    refine ⟨_, rfl, k, dx, _, rfl, hk8, kf_no _ _ _ _ _ _ (by decide), Nk, k, s, m, Ds, d1, rfl, hK8, hNk8, nk, by omega, fun H' p' e' he' hpe' hk' hK' => ?_⟩
    rw [he] at he'
    cases he'
    have hte := okt e (List.mem_of_getElem? he)
    have pk : ∀ {b : Addr} {xs : List V}, H8 b = some (.tup xs) → b ≠ k := fun h z => by rw [z, hk8] at h; cases h
    have h8u := F58 _ _ (no_ nu2') hu2
    refine ⟨_, rfl, o, _, rfl, get_undone (hk' _ _ h8o ok'), _, rfl, _, _, _, .ref t, rfl, rfl, SqL.of (hk' _ _ h8u (ne_of h8u hk8 (by intro z; cases z))), atI_back (by simp), ?_⟩
    refine ⟨_, _, _, .ref p, rfl, rfl, SqT.of (hk' _ _ (F58 _ _ nto ht) (pk (F58 _ _ nto ht))), rfl, ?_⟩
    refine ⟨_, _, dp_deed hpe', dp_deed (hk' _ _ hpe8 (pk hpe8)), shaped_deed hte, shaped_deed hte, ?_⟩
    rw [eqv_deed hte]
    exact q H' Ds d1 (fun b u n1 n2 n3 e => hk' _ _ (F38 _ _ n3 e) n2) (hp8.off hk' ka'.symm) hK' (hO8.same (wo_kept hk' ok_)) hok (by omega) (by omega)
  -- redone
  refine ⟨_, rfl, o, _, rfl, get_undone r1, Nat.zero_le _, fun el nel => ?_⟩
  have r6 := wo_same _ _ o6
  have sE := same_new nel (.lst [])
  have hel : upd H3 el (.lst []) el = some (.lst []) := upd_same
  have hpE : PotAt (upd H3 el (.lst [])) a := hp.new nel
  generalize upd H3 el (.lst []) = HE at sE hel hpE
  refine ⟨lu, el, _, rfl, rfl, SqL.of (sE _ _ r6), SqL.of hel, fun z => ⟨_, rfl, iteT ?_⟩, fun z => ⟨_, rfl, iteF ?_⟩⟩
  · exact q _ Ds d (fun b u _ _ _ e => sE _ _ e) hpE (hK.same (wo_sm sE)) (hO.same (wo_sm sE)) hok hd (Nat.le_succ d)
  have hlt : d < Ds.length := by
    rcases Nat.lt_or_ge d Ds.length with h | h
    · exact h
    · exact absurd (by rw [show us = [] from List.length_eq_zero_iff.mp (by omega)]; rfl) z
  have et := List.getElem?_eq_getElem (l := us) (i := us.length - 1) (by omega)
  generalize us[us.length - 1]'(by omega) = t at et
  obtain ⟨p, r, e, he, ht0, hpe, hr⟩ := o8 _ _ et
  rw [show Ds.length - 1 - (us.length - 1) = d by omega] at he
  rw [show Ds.length - (us.length - 1) = d + 1 by omega] at hr
  have tlast : (us.map V.ref)[(us.map V.ref).length - 1]? = some (.ref t) := by
    rw [List.length_map, List.getElem?_map, et]
    rfl
  refine ⟨_, rfl, o, _, rfl, get_undone (sE _ _ r1), _, rfl, _, _, _, .ref t, rfl, rfl, SqL.of (sE _ _ r6), atI_back tlast, ?_⟩
  refine ⟨t, _, rfl, SqT.of (sE _ _ (wo_same _ _ ht0)), rfl, _, _, rfl, _, _, rfl, rfl, ?_⟩
  refine ⟨_, rfl, o, _, rfl, get_log (sE _ _ r1), _, rfl, (by show 1 ≤ sizeLine; decide), fun l1 nl1 => ?_⟩
  refine ⟨lg, l1, _, _, rfl, rfl, same_new nl1 _ _ _ (sE _ _ g1), upd_same, ?_, fun g2 ng2 => ?_⟩
  · rw [List.length_map]
    exact small100 (show gas.length + 1 ≤ 100 by omega)
  have s5 : Same HE (upd (upd HE l1 (.lst [.ref p])) g2 (.lst (gas.map V.ref ++ [.ref p]))) := (same_new nl1 _).trans (same_new ng2 _)
  have hg2 : upd (upd HE l1 (.lst [.ref p])) g2 (.lst (gas.map V.ref ++ [.ref p])) g2 = some (.lst ((gas ++ [p]).map V.ref)) := by rw [upd_same, List.map_append]; rfl
  have ng2' : H3 g2 = none := sE.free ((same_new nl1 _).free ng2)
  generalize upd (upd HE l1 (.lst [.ref p])) g2 (.lst (gas.map V.ref ++ [.ref p])) = H5 at s5 hg2
  have s35 := sE.trans s5
  refine ⟨_, rfl, o, _, rfl, get_lots (s35 _ _ r1), _, rfl, (by show 1 ≤ sizeLine; decide), fun l3 nl3 => ?_⟩
  refine ⟨ll, l3, _, _, rfl, rfl, same_new nl3 _ _ _ (s35 _ _ r2), upd_same, ?_, fun l2 nl2 => ⟨(by show 2 ≤ sizeLine; decide), fun tp ntp => ?_⟩⟩
  · rw [List.length_map]
    exact small100 (show es.length + 1 ≤ 100 by omega)
  have s7 : Same H5 (upd (upd (upd H5 l3 (.lst [.ref r])) l2 (.lst (es.map V.ref ++ [.ref r]))) tp (.tup [.ref g2, .ref l2])) := ((same_new nl3 _).trans (same_new nl2 _)).trans (same_new ntp _)
  have hl2 : upd (upd (upd H5 l3 (.lst [.ref r])) l2 (.lst (es.map V.ref ++ [.ref r]))) tp (.tup [.ref g2, .ref l2]) l2 = some (.lst ((es ++ [r]).map V.ref)) := by rw [same_new ntp _ _ _ upd_same, List.map_append]; rfl
  have htp : upd (upd (upd H5 l3 (.lst [.ref r])) l2 (.lst (es.map V.ref ++ [.ref r]))) tp (.tup [.ref g2, .ref l2]) tp = some (.tup [.ref g2, .ref l2]) := upd_same
  have nl2' : H3 l2 = none := s35.free ((same_new nl3 _).free nl2)
  generalize upd (upd (upd H5 l3 (.lst [.ref r])) l2 (.lst (es.map V.ref ++ [.ref r]))) tp (.tup [.ref g2, .ref l2]) = H7 at s7 hl2 htp
  have s37 := s35.trans s7
  refine ⟨tp, _, rfl, SqT.of htp, rfl, _, _, rfl, _, rfl, o, _, rfl, do_log (s37 _ _ r1), _, _, rfl, _, rfl, o, _, rfl, do_lots upd_same, rfl, ?_⟩
  rw [upd_upd]
  have lu_ : lu ≠ o := ne_of r6 r1 (by intro z; cases z)
  have no_ : ∀ {b : Addr}, H3 b = none → b ≠ o := fun h z => by rw [z, r1] at h; cases h
  refine ⟨_, rfl, o, _, rfl, get_undone upd_same, _, rfl, _, rfl, lu, _, rfl, SqL.of ((upd_ne lu_).trans (s37 _ _ r6)), fun u2 nu2 => ?_⟩
  rw [cutV_most (by rw [List.length_map]; omega), ← List.map_take, List.length_map]
  have nu2o : u2 ≠ o := fun z => by rw [z, upd_same] at nu2; cases nu2
  have nu2' : H7 u2 = none := by rw [upd_ne nu2o] at nu2; exact nu2
  refine ⟨_, rfl, o, _, rfl, do_undone (same_new nu2 _ _ _ upd_same), ?_⟩
  have F8 : ∀ b u, b ≠ o → H7 b = some u → upd (upd (upd H7 o (.dK (ownD l2 g2 lu))) u2 (.lst ((us.take (us.length - 1)).map V.ref))) o (.dK (ownD l2 g2 u2)) b = some u := fun b u n e => by
    rw [upd_ne n, upd_ne (ne_of_none e nu2'), upd_ne n]
    exact e
  have h8o : upd (upd (upd H7 o (.dK (ownD l2 g2 lu))) u2 (.lst ((us.take (us.length - 1)).map V.ref))) o (.dK (ownD l2 g2 u2)) o = some (.dK (ownD l2 g2 u2)) := upd_same
  have h8u : upd (upd (upd H7 o (.dK (ownD l2 g2 lu))) u2 (.lst ((us.take (us.length - 1)).map V.ref))) o (.dK (ownD l2 g2 u2)) u2 = some (.lst ((us.take (us.length - 1)).map V.ref)) := by rw [upd_ne nu2o]; exact upd_same
  have hp8 : PotAt (upd (upd (upd H7 o (.dK (ownD l2 g2 lu))) u2 (.lst ((us.take (us.length - 1)).map V.ref))) o (.dK (ownD l2 g2 u2))) a := ((((hpE.same s5).same s7).put oa').new nu2).put oa'
  generalize upd (upd (upd H7 o (.dK (ownD l2 g2 lu))) u2 (.lst ((us.take (us.length - 1)).map V.ref))) o (.dK (ownD l2 g2 u2)) = H8 at F8 h8o h8u hp8
  have F38 : ∀ b u, b ≠ o → H3 b = some u → H8 b = some u := fun b u n e => F8 b u n (s37 _ _ e)
  have hNk8 := hNk.chg F38 h8o
  have hNo8 := hNo.chg F38 h8o
  have hK8 : KeepAt C C2 k s m Ds d (wo Nk H8) := hK.same (wo_frame fun b u n e => F38 b u (fun z => n (z ▸ ko)) e)
  have hO8 : OwnAt o Ds (d + 1) (wo No H8) := own_redo hlt no o3 o4 gP o7 o8 ⟨_, _, _, r1⟩ (fun b u _ n e => F38 b u n e) hNo8 he hpe hr h8o (F8 _ _ (no_ nl2') hl2) (hNo.new nl2') (F8 _ _ (no_ ng2') (s7 _ _ hg2)) (hNo.new ng2') h8u (hNo.new (s37.free nu2'))
  obtain ⟨dx, lp, dp, kp, las, das, h1, _⟩ := id hK8
  have hk8 := wo_same _ _ h1
  have hpe8 := F38 _ _ (fun z => by have hpe := wo_same _ _ hpe; rw [z, r1] at hpe; cases hpe) (wo_same _ _ hpe)
  refine ⟨_, rfl, k, dx, _, rfl, hk8, kf_no _ _ _ _ _ _ (by decide), Nk, k, s, m, Ds, d, rfl, hK8, hNk8, nk, hlt, hlen, fun H' p' e' he' hpe' hk' hK' => ?_⟩
  rw [he] at he'
  cases he'
  have hte := okt e (List.mem_of_getElem? he)
  refine ⟨_, rfl, _, _, dp_deed hpe', dp_deed (hk' _ _ hpe8 (fun z => by rw [z, hk8] at hpe8; cases hpe8)), shaped_deed hte, shaped_deed hte, ?_⟩
  rw [eqv_deed hte]
  exact q H' Ds (d + 1) (fun b u n1 n2 n3 e => hk' _ _ (F38 _ _ n3 e) n2) (hp8.off hk' ka'.symm) hK' (hO8.same (wo_kept hk' ok_)) hok hlt (Nat.le_refl _)
end
end My
set_option maxHeartbeats 4000000
namespace My
open PySem L2 PyProof.Rows
/-! ### a keeper and the law's own of it -/
structure PairAt (C C2 a k o : Addr) (s m : Nat) (Ds : List Deed) (d : Nat) (Nk No : Addr → Prop) (H : Hp) : Prop where
  K : KeepAt C C2 k s m Ds d (wo Nk H)
  O : OwnAt o Ds d (wo No H)
  nK : NOk Nk H
  nO : NOk No H
  k1 : ¬ Nk k
  o1 : ¬ No o
  ka : Nk a
  ko : Nk o
  oa : No a
  ok : No k
  hok : OkK Ds
  hd : d ≤ Ds.length
def Off3 (a k o : Addr) (H H' : Hp) : Prop := ∀ b u, b ≠ a → b ≠ k → b ≠ o → H b = some u → H' b = some u
theorem PairAt.same {C C2 a k o : Addr} {s m : Nat} {Ds : List Deed} {d : Nat} {Nk No : Addr → Prop} {H H' : Hp} (h : PairAt C C2 a k o s m Ds d Nk No H) (f : Same H H') : PairAt C C2 a k o s m Ds d Nk No H' :=
  { h with K := h.K.same (wo_sm f), O := h.O.same (wo_sm f), nK := h.nK.same f, nO := h.nO.same f }
theorem nok_move {a k o : Addr} {N : Addr → Prop} {H H' : Hp} (h : NOk N H) (f : Off3 a k o H H') (ea : ∃ u, H' a = some u ∧ ∀ xs, u ≠ .tup xs) (ek : ∃ u, H' k = some u ∧ ∀ xs, u ≠ .tup xs) (eo : ∃ u, H' o = some u ∧ ∀ xs, u ≠ .tup xs) : NOk N H' := fun b c => by
  by_cases h1 : b = a
  · rw [h1]; exact ea
  by_cases h2 : b = k
  · rw [h2]; exact ek
  by_cases h3 : b = o
  · rw [h3]; exact eo
  obtain ⟨u, e, q⟩ := h b c
  exact ⟨u, f _ _ h1 h2 h3 e, q⟩
theorem keep_ins {C C2 k : Addr} {s m : Nat} {Ds : List Deed} {d : Nat} {H : Hp} (h : KeepAt C C2 k s m Ds d H) : ∃ u, H k = some u ∧ ∀ xs, u ≠ .tup xs := by
  obtain ⟨dx, lp, dp, kp, las, das, h1, _⟩ := h
  exact ⟨_, h1, fun xs z => by cases z⟩
theorem own_dk {o : Addr} {Ds : List Deed} {d : Nat} {H : Hp} (h : OwnAt o Ds d H) : ∃ u, H o = some u ∧ ∀ xs, u ≠ .tup xs := by
  obtain ⟨ll, lg, lu, es, us, h1, _⟩ := h
  exact ⟨_, h1, fun xs z => by cases z⟩
theorem pot_l {a : Addr} {H : Hp} (h : PotAt H a) : ∃ u, H a = some u ∧ ∀ xs, u ≠ .tup xs := by
  obtain ⟨x, y, e, _⟩ := h
  exact ⟨_, e, fun xs z => by cases z⟩
theorem PairAt.move {C C2 a k o : Addr} {s m : Nat} {Ds Ds' : List Deed} {d d' : Nat} {Nk No : Addr → Prop} {H H' : Hp} (h : PairAt C C2 a k o s m Ds d Nk No H) (f : Off3 a k o H H') (hp : PotAt H' a) (K' : KeepAt C C2 k s m Ds' d' (wo Nk H')) (O' : OwnAt o Ds' d' (wo No H')) (hok : OkK Ds') (hd : d' ≤ Ds'.length) :
    PairAt C C2 a k o s m Ds' d' Nk No H' := by
  have ek := keep_ins (K'.same wo_same)
  have eo := own_dk (O'.same wo_same)
  exact { h with K := K', O := O', nK := nok_move h.nK f (pot_l hp) ek eo, nO := nok_move h.nO f (pot_l hp) ek eo, hok := hok, hd := hd }
theorem PairAt.stay {C C2 a k o k2 o2 : Addr} {s m : Nat} {Ds Ds2 : List Deed} {d d2 : Nat} {Nk No Nk2 No2 : Addr → Prop} {H H' : Hp} (h : PairAt C C2 a k2 o2 s m Ds2 d2 Nk2 No2 H) (f : Off3 a k o H H') (nk : Nk2 k) (no : Nk2 o) (mk : No2 k) (mo : No2 o) (p : PairAt C C2 a k o s m Ds d Nk No H') (hp : PotAt H' a) :
    PairAt C C2 a k2 o2 s m Ds2 d2 Nk2 No2 H' := by
  have ek := keep_ins (p.K.same wo_same)
  have eo := own_dk (p.O.same wo_same)
  exact { h with K := h.K.same (wo_frame fun b u n e => f b u (fun z => n (z ▸ h.ka)) (fun z => n (z ▸ nk)) (fun z => n (z ▸ no)) e), O := h.O.same (wo_frame fun b u n e => f b u (fun z => n (z ▸ h.oa)) (fun z => n (z ▸ mk)) (fun z => n (z ▸ mo)) e), nK := nok_move h.nK f (pot_l hp) ek eo, nO := nok_move h.nO f (pot_l hp) ek eo }
theorem PairAt.wide {C C2 a k o x y : Addr} {s m : Nat} {Ds : List Deed} {d : Nat} {Nk No : Addr → Prop} {H H' : Hp} (h : PairAt C C2 a k o s m Ds d Nk No H) (f : Same H H') (nx : H x = none) (ny : H y = none) (ex : ∃ u, H' x = some u ∧ ∀ xs, u ≠ .tup xs) (ey : ∃ u, H' y = some u ∧ ∀ xs, u ≠ .tup xs) :
    PairAt C C2 a k o s m Ds d (fun b => Nk b ∨ b = x ∨ b = y) (fun b => No b ∨ b = x ∨ b = y) H' := by
  have ek := keep_ins (h.K.same wo_same)
  have eo := own_dk (h.O.same wo_same)
  have ne : ∀ {b : Addr}, (∃ u, H b = some u ∧ ∀ xs, u ≠ .tup xs) → b ≠ x ∧ b ≠ y := fun ⟨u, e, _⟩ => ⟨fun z => (by rw [z, nx] at e; cases e), fun z => (by rw [z, ny] at e; cases e)⟩
  have mr : ∀ {N : Addr → Prop} (b : Addr), (N b ∨ b = x ∨ b = y) → N b ∨ H b = none := fun b c => by
    rcases c with c | c | c
    · exact .inl c
    · exact .inr (c ▸ nx)
    · exact .inr (c ▸ ny)
  have nk : ∀ {N : Addr → Prop}, NOk N H → NOk (fun b => N b ∨ b = x ∨ b = y) H' := fun hN b c => by
    rcases c with c | c | c
    · exact hN.same f b c
    · rw [c]; exact ex
    · rw [c]; exact ey
  exact ⟨(h.K.same (wo_more mr)).same (wo_sm f), (h.O.same (wo_more mr)).same (wo_sm f), nk h.nK, nk h.nO, fun c => by
    rcases c with c | c | c
    · exact h.k1 c
    · exact (ne ek).1 c
    · exact (ne ek).2 c, fun c => by
    rcases c with c | c | c
    · exact h.o1 c
    · exact (ne eo).1 c
    · exact (ne eo).2 c, .inl h.ka, .inl h.ko, .inl h.oa, .inl h.ok, h.hok, h.hd⟩
theorem own_copy {o o2 : Addr} {No No2 : Addr → Prop} {H H' : Hp} {Ds : List Deed} {d : Nat} {kvs : List (Key × V)} (h : OwnAt o Ds d (wo No H)) (ho : H o = some (.dK kvs)) (f : Same H H') (hN : ∀ b, No2 b → No b ∨ b = o ∨ H b = none) (e : H' o2 = some (.dK kvs)) (n2 : ¬ No2 o2) : OwnAt o2 Ds d (wo No2 H') := by
  obtain ⟨ll, lg, lu, es, us, o1, o2_, o3, o4, ⟨gas, o5, gP⟩, o6, o7, o8⟩ := h
  have r1 := wo_same _ _ o1
  rw [ho] at r1
  cases r1
  have fr : ∀ c u, c ≠ o → wo No H c = some u → wo No2 H' c = some u := fun c u n z => by
    have nc := wo_get z
    rw [wo_of nc] at z
    rw [wo_of (fun k => by
      rcases hN c k with y | y | y
      · exact nc y
      · exact n y
      · rw [y] at z; cases z)]
    exact f _ _ z
  obtain ⟨_, nd, nt⟩ := own_fr (H' := H) ⟨_, _, _, ho⟩ (fun b u _ _ e => e) (No := No)
  have nl : ∀ {q : Addr} {xs : List V}, wo No H q = some (.lst xs) → q ≠ o := fun h z => by
    have h := wo_same _ _ h
    rw [z, ho] at h
    cases h
  refine ⟨ll, lg, lu, es, us, by rw [wo_of n2]; exact e, fr _ _ (nl o2_) o2_, o3, fun i p hi => fr _ _ (nd (o4 i p hi)) (o4 i p hi), ⟨gas, fr _ _ (nl o5) o5, paired_mono (fun q g hq => fr _ _ (nt hq) hq) gP⟩, fr _ _ (nl o6) o6, o7, fun i p hi => ?_⟩
  obtain ⟨q, r, g, g1, g2, g3, g4⟩ := o8 i p hi
  exact ⟨q, r, g, g1, fr _ _ (nt g2) g2, fr _ _ (nt g3) g3, fr _ _ (nd g4) g4⟩
/-! ### how many in all -/
def tot (D : List (Str × Int)) : Int := (D.map Prod.snd).sum
theorem tot_cons (e : Str × Int) (D : List (Str × Int)) : tot (e :: D) = e.2 + tot D := by
  unfold tot
  rw [List.map_cons, List.sum_cons]
theorem tot_add (x : Str) (n : Int) : ∀ D : List (Str × Int), tot (addT D x n) = tot D + n
  | [] => by
    unfold addT
    rw [tot_cons]
    show n + tot [] = tot [] + n
    omega
  | e :: r => by
    unfold addT
    by_cases c : e.1 = x
    · rw [if_pos c, tot_cons, tot_cons]
      show e.2 + n + tot r = _
      omega
    · rw [if_neg c, tot_cons, tot_cons, tot_add x n r]
      omega
theorem tot_drop (x : Str) : ∀ D : List (Str × Int), (∀ e ∈ D, 0 ≤ e.2) → tot (dropT D x) ≤ tot D
  | [], _ => Int.le_refl _
  | e :: r, h => by
    have ih := tot_drop x r fun f hf => h f (List.mem_cons_of_mem _ hf)
    have := h e List.mem_cons_self
    show tot (List.filter _ _) ≤ _
    rw [List.filter_cons]
    split
    · rw [tot_cons, tot_cons]
      have ih : tot (r.filter fun e => decide (e.1 ≠ x)) ≤ tot r := ih
      omega
    · rw [tot_cons]
      have ih : tot (r.filter fun e => decide (e.1 ≠ x)) ≤ tot r := ih
      omega
theorem tot_step {D : List (Str × Int)} {n v : Nat} {e : Deed} (h : OkD D n v) (k : OkE e D) : tot (stepD e D) ≤ tot D + 20 := by
  have h0 : ∀ f ∈ D, 0 ≤ f.2 := fun f hf => by have := (h.ok f hf).2.1; omega
  have := k.n1
  have := k.n2
  unfold stepD leftT
  split
  · rw [tot_add]; omega
  · split
    · have := tot_drop e.2.1 D h0; omega
    · rw [tot_add]; omega
theorem tot_st {Ds : List Deed} (h : OkK Ds) : ∀ i, i ≤ Ds.length → tot (st Ds i) ≤ 20 * (i : Int)
  | 0, _ => by show tot [] ≤ _; decide
  | i + 1, hi => by
    have e := List.getElem?_eq_getElem (l := Ds) (i := i) (by omega)
    rw [st_succ e]
    have h1 := tot_step (okD_st h i (by omega)) (h.ok _ _ e)
    have h2 := tot_st h i (by omega)
    omega
theorem sum_perm {l1 l2 : List Str} (f : Str → Int) (h : l1.Perm l2) : (l1.map f).sum = (l2.map f).sum := by
  induction h with
  | nil => rfl
  | cons x _ ih => rw [List.map_cons, List.map_cons, List.sum_cons, List.sum_cons, ih]
  | swap x y l => simp only [List.map_cons, List.sum_cons]; omega
  | trans _ _ i1 i2 => rw [i1, i2]
theorem sum_keys {D : List (Str × Int)} (h : (D.map Prod.fst).Nodup) : ((D.map Prod.fst).map (getT D)).sum = tot D := by
  unfold tot
  rw [List.map_map]
  congr 1
  exact List.map_congr_left fun e he => getT_mem h he
/-! ### a lone keeper -/
structure Lon0 (D : List (Str × Int)) (ys : List Str) (i : Nat) (Es : List Deed) : Prop where
  ok : OkK Es
  keys : ∀ z, z ∈ (st Es Es.length).map Prod.fst ↔ z ∈ ys.take i
  get : ∀ z, z ∈ ys.take i → getT (st Es Es.length) z = getT D z
  sum : 20 * (Es.length : Int) + ((ys.drop i).map (getT D)).sum ≤ tot D + 20 * (i : Int)
structure Lone (D : List (Str × Int)) (ys : List Str) (i : Nat) (y : Str) (L : Int) (Es : List Deed) : Prop where
  ok : OkK Es
  keys : ∀ z, z ∈ (st Es Es.length).map Prod.fst ↔ z ∈ ys.take i ∨ (z = y ∧ L < getT D y)
  get : ∀ z, z ∈ ys.take i → getT (st Es Es.length) z = getT D z
  gety : getT (st Es Es.length) y = getT D y - L
  sum : 20 * (Es.length : Int) + L + ((ys.drop (i + 1)).map (getT D)).sum ≤ tot D + 20 * (i : Int) + (if L = 0 then 20 else 0)
  l0 : 0 ≤ L
theorem okK_nil : OkK [] := ⟨Nat.zero_le _, fun j e h => (by cases h), fun e h => (nomatch h)⟩
theorem lon_start {D : List (Str × Int)} {ys : List Str} (hp : ys.Perm (D.map Prod.fst)) (hn : (D.map Prod.fst).Nodup) : Lon0 D ys 0 [] := by
  refine ⟨okK_nil, fun z => by simp [runD], fun z h => by simp at h, ?_⟩
  rw [List.drop_zero, sum_perm _ hp, sum_keys hn]
  simp
theorem Lon0.into {D : List (Str × Int)} {ys : List Str} {i : Nat} {y : Str} {Es : List Deed} (h : Lon0 D ys i Es) (hy : ys[i]? = some y) (hn : ys.Nodup) (h1 : 1 ≤ getT D y) : Lone D ys i y (getT D y) Es := by
  have hi := (List.getElem?_eq_some_iff.mp hy).1
  have ey := (List.getElem?_eq_some_iff.mp hy).2
  have nin : y ∉ ys.take i := fun c => by
    rw [← List.take_append_drop i ys, List.nodup_append] at hn
    refine hn.2.2 y c y ?_ rfl
    rw [List.drop_eq_getElem_cons hi, ey]
    exact List.mem_cons_self
  refine ⟨h.ok, fun z => ?_, h.get, ?_, ?_, by omega⟩
  · rw [h.keys z]
    exact ⟨.inl, fun c => c.elim id fun ⟨_, l⟩ => absurd l (Int.lt_irrefl _)⟩
  · rw [getT_none fun c => nin ((h.keys y).mp c)]
    omega
  · have hs := h.sum
    rw [List.drop_eq_getElem_cons hi, ey, List.map_cons, List.sum_cons] at hs
    rw [if_neg (by omega)]
    omega
theorem sum_pos {D : List (Str × Int)} {n v : Nat} (h : OkD D n v) (l : List Str) : 0 ≤ (l.map (getT D)).sum := by
  induction l with
  | nil => exact Int.le_refl _
  | cons x r ih =>
    rw [List.map_cons, List.sum_cons]
    have : 0 ≤ getT D x := by
      by_cases c : x ∈ D.map Prod.fst
      · have := (getT_in h c).2.1; omega
      · rw [getT_none c]; exact Int.le_refl _
    omega
theorem Lone.small {D : List (Str × Int)} {ys : List Str} {i : Nat} {y : Str} {L : Int} {Es : List Deed} {n v : Nat} (h : Lone D ys i y L Es) (hD : OkD D n v) (ht : tot D ≤ 280) (hi : i ≤ 14) (hL : 0 < L) : Es.length < 40 := by
  have h1 := h.sum
  have h2 := sum_pos hD (ys.drop (i + 1))
  rw [if_neg (by omega)] at h1
  omega
theorem Lone.ok1 {D : List (Str × Int)} {ys : List Str} {i : Nat} {y : Str} {L k : Int} {Es : List Deed} (h : Lone D ys i y L Es) (hy : OkL y) (h1 : 1 ≤ k) (h2 : k ≤ 20) : OkE (true, y, k) (st Es Es.length) := ⟨hy, h1, h2, fun z => by cases z⟩
theorem doneD_all (Es : List Deed) (e : Deed) : doneD Es Es.length e = Es ++ [e] := by
  unfold doneD
  rw [List.take_length]
theorem Lone.step {D : List (Str × Int)} {ys : List Str} {i : Nat} {y : Str} {L k : Int} {Es : List Deed} (h : Lone D ys i y L Es) (hlt : Es.length < 40) (hy : OkL y) (h6 : y.length ≤ 6) (nin : y ∉ ys.take i) (h1 : 1 ≤ k) (h2 : k ≤ 20) (h3 : k ≤ L) (h4 : k = 20 ∨ k = L) (hle : L ≤ getT D y) :
    Lone D ys i y (L - k) (doneD Es Es.length (true, y, k)) := by
  have hE := h.ok1 hy h1 h2
  have el : (doneD Es Es.length (true, y, k)).length = Es.length + 1 := doneD_len (Nat.le_refl _)
  have es : st (doneD Es Es.length (true, y, k)) (doneD Es Es.length (true, y, k)).length = addT (st Es Es.length) y k := by
    rw [el, doneD_last (Nat.le_refl _)]
    rfl
  refine ⟨doneD_ok h.ok (Nat.le_refl _) hlt hE h6, fun z => ?_, fun z hz => ?_, ?_, ?_, by omega⟩
  · rw [es, addT_mem, h.keys z]
    constructor
    · rintro ((c | ⟨c, _⟩) | c)
      · exact .inl c
      · exact .inr ⟨c, by omega⟩
      · exact .inr ⟨c, by omega⟩
    · rintro (c | ⟨c, _⟩)
      · exact .inl (.inl c)
      · exact .inr c
  · rw [es, addT_get, if_neg (fun (c : z = y) => nin (c ▸ hz))]
    exact h.get z hz
  · rw [es, addT_get, if_pos rfl, h.gety]
    omega
  · have hs := h.sum
    rw [el]
    rw [if_neg (by omega)] at hs
    have e1 : ((Es.length + 1 : Nat) : Int) = (Es.length : Int) + 1 := rfl
    rw [e1]
    by_cases c : L - k = 0
    · rw [if_pos c]
      omega
    · rw [if_neg c]
      omega
theorem Lone.out {D : List (Str × Int)} {ys : List Str} {i : Nat} {y : Str} {Es : List Deed} (h : Lone D ys i y 0 Es) (hy : ys[i]? = some y) (h1 : 1 ≤ getT D y) : Lon0 D ys (i + 1) Es := by
  refine ⟨h.ok, fun z => ?_, fun z hz => ?_, ?_⟩
  · rw [h.keys z, List.take_succ, hy]
    simp
    constructor
    · rintro (c | ⟨c, _⟩)
      · exact .inl c
      · exact .inr c
    · rintro (c | c)
      · exact .inl c
      · exact .inr ⟨c, by omega⟩
  · rw [List.take_succ, hy, List.mem_append] at hz
    rcases hz with c | c
    · exact h.get z c
    · have : z = y := by simpa using c
      rw [this, h.gety]
      omega
  · have hs := h.sum
    rw [if_pos rfl] at hs
    have e1 : ((i + 1 : Nat) : Int) = (i : Int) + 1 := rfl
    rw [e1]
    omega
theorem Lon0.fin {D : List (Str × Int)} {ys : List Str} {Es : List Deed} (h : Lon0 D ys ys.length Es) (hp : ys.Perm (D.map Prod.fst)) (hn : (D.map Prod.fst).Nodup) : told (st Es Es.length) = told D := by
  have hnE := (okD_st h.ok Es.length (Nat.le_refl _)).nd
  have hk : ∀ x, x ∈ (st Es Es.length).map Prod.fst ↔ x ∈ D.map Prod.fst := fun x => by
    rw [h.keys x, List.take_length]
    exact hp.mem_iff
  refine told_get hnE hn hk fun x => ?_
  by_cases c : x ∈ ys
  · exact h.get x (by rw [List.take_length]; exact c)
  · rw [getT_none fun z => c (hp.mem_iff.mpr z), getT_none fun z => c (hp.mem_iff.mpr ((hk x).mp z))]
end My
set_option maxHeartbeats 4000000
namespace My
open PySem L2 PyProof.Rows
theorem merge_own (ll lg lu : Addr) : mergeK [] [((Sum.inr "lots" : Key), V.ref ll), (Sum.inr "log", .ref lg), (Sum.inr "undone", .ref lu)] = ownD ll lg lu := by
  have key : ∀ (x y : Str), ¬ x = y → (decide ((Sum.inr x : Key) = Sum.inr y)) = false := fun x y h => decide_eq_false fun z => h (Sum.inr.inj z)
  show putK (putK [((Sum.inr "lots" : Key), V.ref ll)] (Sum.inr "log" : Key) (.ref lg)) (Sum.inr "undone" : Key) (.ref lu) = _
  unfold putK ownD
  simp only [List.any, key "lots" "log" (by decide +kernel), key "lots" "undone" (by decide +kernel), key "log" "undone" (by decide +kernel), Bool.or_false, List.cons_append, List.nil_append, Bool.false_eq_true, if_false]
section
variable {P : Program} {w : World} {K : PySem.W.Frag} {mg : Str → Option Value} {base : Heap} {C C2 : Addr}
def sp_law_right (_ : PySem.W.Frag) (C C2 : Addr) : Sp := fun vs H Q _ => ∃ a, vs = [.ref a] ∧ PotAt H a ∧ ∀ H', Q (.bl true) H'
theorem ok_law_right (D : Def K mg "_law_right" s_law_right ["_law_pot_here"]) (B : Bs mg) (Glb : Glo mg) (WK : WebK K mg C) (PK : KeepK K mg C2)
    (h_law_anew : Good P w K mg base "_law_anew" s_law_anew ["_law_size", "_law_least", "_law_log"] 12 (sp_law_anew K C C2))
    (h_law_pick : Good P w K mg base "_law_pick" s_law_pick ["_law_pot_here", "_law_some"] 2 (sp_law_pick K C C2))
    (h_law_draw : Good P w K mg base "_law_draw" s_law_draw ["_law_pot_here", "_law_size"] 1 (sp_law_draw K C C2))
    (h_law_is_as : Good P w K mg base "_law_is_as" s_law_is_as ["_law_keeper", "_law_own", "_law_size", "_law_least"] 9 (sp_law_is_as K C C2))
    (h_law_deed_right : Good P w K mg base "_law_deed_right" s_law_deed_right ["_law_pot_here", "_law_keeper", "_law_own"] 12 (sp_law_deed_right K C C2))
    (hLot___eq__ : GoodM P w K mg base C "__eq__" "Lot.__eq__" sLot___eq__ ["self", "other"] 1 (spLot___eq__ K C C2))
    (hKeeper___init__ : GoodJ P w K mg base C2 "__init__" "Keeper.__init__" sKeeper___init__ ["self", "size", "least"] 7 (spKeeper___init__ K C C2))
    (hKeeper_size : GoodP P w K mg base C2 "size" "Keeper.size" sKeeper_size ["self"] 1 (spKeeper_size K C C2))
    (hKeeper_added : GoodM P w K mg base C2 "added" "Keeper.added" sKeeper_added ["self", "text", "times"] 10 (spKeeper_added K C C2))
    (hKeeper_lot : GoodM P w K mg base C2 "lot" "Keeper.lot" sKeeper_lot ["self"] 3 (spKeeper_lot K C C2))
    (hKeeper_solid : GoodM P w K mg base C2 "solid" "Keeper.solid" sKeeper_solid ["self"] 7 (spKeeper_solid K C C2))
    (hKeeper_log : GoodM P w K mg base C2 "log" "Keeper.log" sKeeper_log ["self"] 1 (spKeeper_log K C C2))
    (hKeeper_least : GoodM P w K mg base C2 "least" "Keeper.least" sKeeper_least ["self"] 1 (spKeeper_least K C C2))
    (hKeeper_copy : GoodM P w K mg base C2 "copy" "Keeper.copy" sKeeper_copy ["self"] 9 (spKeeper_copy K C C2)) :
    Good P w K mg base "_law_right" s_law_right ["_law_pot_here"] 13 (sp_law_right K C C2) := by
  refine D.good fun f fd F => ?_
  obtain ⟨f_law_anew, d_law_anew, O_law_anew, m_law_anew, k_law_anew, b_law_anew, F_law_anew⟩ := h_law_anew
  obtain ⟨f_law_pick, d_law_pick, O_law_pick, m_law_pick, k_law_pick, b_law_pick, F_law_pick⟩ := h_law_pick
  obtain ⟨f_law_draw, d_law_draw, O_law_draw, m_law_draw, k_law_draw, b_law_draw, F_law_draw⟩ := h_law_draw
  obtain ⟨f_law_is_as, d_law_is_as, O_law_is_as, m_law_is_as, k_law_is_as, b_law_is_as, F_law_is_as⟩ := h_law_is_as
  obtain ⟨f_law_deed_right, d_law_deed_right, O_law_deed_right, m_law_deed_right, k_law_deed_right, b_law_deed_right, F_law_deed_right⟩ := h_law_deed_right
  obtain ⟨fLot___eq__, dLot___eq__, OLot___eq__, tLot___eq__, bLot___eq__, FLot___eq__⟩ := hLot___eq__
  obtain ⟨fKeeper___init__, dKeeper___init__, OKeeper___init__, MKKeeper, bKeeper___init__, FKeeper___init__⟩ := hKeeper___init__
  obtain ⟨qKeeper_size, fKeeper_size, dKeeper_size, OKeeper_size, pKeeper_size, bKeeper_size⟩ := hKeeper_size
  obtain ⟨fKeeper_added, dKeeper_added, OKeeper_added, tKeeper_added, bKeeper_added, FKeeper_added⟩ := hKeeper_added
  obtain ⟨fKeeper_lot, dKeeper_lot, OKeeper_lot, tKeeper_lot, bKeeper_lot, FKeeper_lot⟩ := hKeeper_lot
  obtain ⟨fKeeper_solid, dKeeper_solid, OKeeper_solid, tKeeper_solid, bKeeper_solid, FKeeper_solid⟩ := hKeeper_solid
  obtain ⟨fKeeper_log, dKeeper_log, OKeeper_log, tKeeper_log, bKeeper_log, FKeeper_log⟩ := hKeeper_log
  obtain ⟨fKeeper_least, dKeeper_least, OKeeper_least, tKeeper_least, bKeeper_least, FKeeper_least⟩ := hKeeper_least
  obtain ⟨fKeeper_copy, dKeeper_copy, OKeeper_copy, tKeeper_copy, bKeeper_copy, FKeeper_copy⟩ := hKeeper_copy
  have kn_Keeper_least_size : KBn K dKeeper___init__ ["self", "size", "least"] 1 ["least", "size"] gm21 gm21 := fun_kbn2r FKeeper___init__ (fun _ _ _ _ _ _ _ _ _ => rfl)
  refine F.ok sc_law_right (fun vs H Q E h => ?_) (fun cdv A outer s H vs Q E hr h => ?_)
  · obtain ⟨a, rfl, hp0, q⟩ := h
    first | rfl | (rcases h with ⟨_, _, rfl, _⟩ | ⟨_, rfl, _⟩ <;> rfl)
  obtain ⟨a, rfl, hp0, q⟩ := h
  refine ⟨_, (pss_cons (ps_par (i := 1) (j := 2) (by rfl) sc_law_right.nd rfl rfl (by decide) rfl rfl (pa_cons (pe_call O_law_pick (hr.mono (by decide)) rfl m_law_pick k_law_pick b_law_pick .nil pass0 (pa_cons (pv 0) (pa_cons (pe_lst (pa_cons pe_int (pa_cons pe_int (pa_cons pe_int pa_nil)))) pa_nil))) (pa_cons (pe_op op_add pe_int (pe_call O_law_draw (hr.mono (by decide)) rfl m_law_draw k_law_draw b_law_draw .nil pass0 (pa_cons (pv 0) (pa_cons pe_int pa_nil)))) pa_nil)) (by rfl))
  (pss_cons (ps_par (i := 3) (j := 4) (by rfl) sc_law_right.nd rfl rfl (by decide) rfl rfl (pa_cons (pe_make MKKeeper OKeeper___init__ (hr.mono (by decide)) rfl PK.mgC bKeeper___init__ .nil pass0 (pa_cons (pv 1) (pa_cons (pv 2) pa_nil))) (pa_cons (pe_disp (pps_cons pe_str (pe_lst (pa_cons pe_dnewK pa_nil)) (pps_cons pe_str (pe_lst pa_nil) (pps_cons pe_str (pe_lst pa_nil) pps_nil))) (by rfl) (by rfl) (fun z => by cases z) (by decide)) pa_nil)) (by rfl))
  (pss_cons (ps_if (PW.pt (pw_or (pt_cmpR (op_neD hr.units) (pe_lst (pa_cons (pe_prop (pv 3) PK.cl pKeeper_size OKeeper_size (hr.mono (by decide)) bKeeper_size .nil pass0 (by rfl)) (pa_cons (pe_meth0 (pv 3) PK.cl tKeeper_least OKeeper_least (hr.mono (by decide)) bKeeper_least .nil pass0) pa_nil))) (pe_lst (pa_cons (pv 1) (pa_cons (pv 2) pa_nil))) (nomark _)) (pw_or1 (pt_not (pt_val (pe_call O_law_is_as (hr.mono (by decide)) rfl m_law_is_as k_law_is_as b_law_is_as .nil pass0 (pa_cons (pv 3) (pa_cons (pv 4) (pa_cons (pv 1) (pa_cons (pv 2) pa_nil))))))))))
    (pss_one (ps_ret pe_bl)) pss_nil)
  (pss_cons (ps_asg (pe_tup (pa_cons pe_non (pa_cons pe_non pa_nil))) (pg_tup rfl (pgs_cons (pg_name (i := 5) sc_law_right.nd rfl (by first | exact Or.inl rfl | exact Or.inr rfl)) (pgs_cons (pg_name (i := 6) sc_law_right.nd rfl (by first | exact Or.inl rfl | exact Or.inr rfl)) pgs_nil))))
  (pss_cons (ps_for PassesOwn.never rfl (pi_range1 (by rfl) B.range (pa_cons (pe_op op_add pe_int (pe_call O_law_draw (hr.mono (by decide)) rfl m_law_draw k_law_draw b_law_draw .nil pass0 (pa_cons (pv 0) (pa_cons pe_int pa_nil)))) pa_nil)) (pg_name (i := 7) sc_law_right.nd rfl (by first | exact Or.inl rfl | exact Or.inr rfl))
    (pss_cons (ps_if (PW.pt (pw_or (pt_not (pt_val (pe_call O_law_deed_right hr rfl m_law_deed_right k_law_deed_right b_law_deed_right .nil pass0 (pa_cons (pv 0) (pa_cons (pv 3) (pa_cons (pv 4) pa_nil)))))) (pw_or1 (pt_not (pt_val (pe_call O_law_is_as (hr.mono (by decide)) rfl m_law_is_as k_law_is_as b_law_is_as .nil pass0 (pa_cons (pv 3) (pa_cons (pv 4) (pa_cons (pv 1) (pa_cons (pv 2) pa_nil))))))))))
    (pss_one (ps_ret pe_bl)) pss_nil)
  (pss_one (ps_if (pt_cmpR op_eq (pv 7) pe_int (nomark _))
    (pss_one (ps_par (i := 5) (j := 6) (by rfl) sc_law_right.nd rfl rfl (by decide) rfl rfl (pa_cons (pe_meth0 (pv 3) PK.cl tKeeper_copy OKeeper_copy (hr.mono (by decide)) bKeeper_copy .nil pass0) (pa_cons (pe_callTy call_dictD (by rfl) B.dict (by decide +kernel) (pa_cons (pv 4) pa_nil)) pa_nil)) (by rfl))) pss_nil))))
  (pss_cons (ps_if (PW.pt (pw_or (pt_not (pt_val (pe_call O_law_is_as (hr.mono (by decide)) rfl m_law_is_as k_law_is_as b_law_is_as .nil pass0 (pa_cons (pv 5) (pa_cons (pv 6) (pa_cons (pv 1) (pa_cons (pv 2) pa_nil))))))) (pw_or1 (pt_not (pt_val (pe_call O_law_deed_right hr rfl m_law_deed_right k_law_deed_right b_law_deed_right .nil pass0 (pa_cons (pv 0) (pa_cons (pv 5) (pa_cons (pv 6) pa_nil)))))))))
    (pss_one (ps_ret pe_bl)) pss_nil)
  (pss_cons (ps_if (PW.pt (pw_or (pt_not (pt_val (pe_call O_law_is_as (hr.mono (by decide)) rfl m_law_is_as k_law_is_as b_law_is_as .nil pass0 (pa_cons (pv 5) (pa_cons (pv 6) (pa_cons (pv 1) (pa_cons (pv 2) pa_nil))))))) (pw_or1 (pt_not (pt_val (pe_call O_law_is_as (hr.mono (by decide)) rfl m_law_is_as k_law_is_as b_law_is_as .nil pass0 (pa_cons (pv 3) (pa_cons (pv 4) (pa_cons (pv 1) (pa_cons (pv 2) pa_nil))))))))))
    (pss_one (ps_ret pe_bl)) pss_nil)
  (pss_cons (ps_par (i := 8) (j := 9) (by rfl) sc_law_right.nd rfl rfl (by decide) rfl rfl (pa_cons (pe_ix ix_list (pe_dget (hu_of hr) (pv 4) pe_str (fun _ _ => rfl)) (pe_un un_neg pe_int) (fun _ _ => rfl)) (pa_cons (pe_makeK0 MKKeeper OKeeper___init__ (hr.mono (by decide)) rfl PK.mgC kn_Keeper_least_size pass0 (pk_cons (pv 2) (pk_cons (pv 1) pk_nil))) pa_nil)) (by rfl))
  (pss_cons (ps_for PassesOwn.never rfl (pi_list (pe_revL (pe_callB (call_sortedD rfl) (by rfl) B.sorted (by decide +kernel) (pa_cons (pv 8) pa_nil)))) (pg_name (i := 10) sc_law_right.nd rfl (by first | exact Or.inl rfl | exact Or.inr rfl))
    (pss_cons (ps_set (i := 11) sc_law_right.nd rfl (by first | exact Or.inl rfl | exact Or.inr rfl) (pe_dget (hu_of hr) (pv 8) (pv 10) (fun _ _ => rfl)))
  (pss_one (ps_while PassesOwn.never (pt_cmpR op_gt (pv 11) pe_int (nomark _))
    (pss_cons (ps_expr (pe_meth (pv 9) PK.cl tKeeper_added OKeeper_added (hr.mono (by decide)) bKeeper_added .nil pass0 (pa_cons (pv 10) (pa_cons (pe_callB (call_min2 rfl) (by rfl) B.min (by decide +kernel) (pa_cons pe_int (pa_cons (pv 11) pa_nil))) pa_nil))))
  (pss_one (ps_set (i := 11) sc_law_right.nd rfl (by first | exact Or.inl rfl | exact Or.inr rfl) (pe_op op_sub (pv 11) (pe_callB (call_min2 rfl) (by rfl) B.min (by decide +kernel) (pa_cons pe_int (pa_cons (pv 11) pa_nil)))))))))))
  (pss_cons (ps_if (PW.pt (pw_or (pt_cmpR (op_neOwn OLot___eq__ (hr.mono (by decide)) WK.i4 WK.ne tLot___eq__.at_ tLot___eq__.fn bLot___eq__ pass0) (pe_meth0 (pv 9) PK.cl tKeeper_lot OKeeper_lot (hr.mono (by decide)) bKeeper_lot .nil pass0) (pe_meth0 (pv 3) PK.cl tKeeper_lot OKeeper_lot (hr.mono (by decide)) bKeeper_lot .nil pass0) (nomark _)) (pw_or1 (pt_cmpR (op_neD hr.units) (pe_meth0 (pv 9) PK.cl tKeeper_solid OKeeper_solid (hr.mono (by decide)) bKeeper_solid .nil pass0) (pe_meth0 (pv 3) PK.cl tKeeper_solid OKeeper_solid (hr.mono (by decide)) bKeeper_solid .nil pass0) (nomark _)))))
    (pss_one (ps_ret pe_bl)) pss_nil)
  (pss_cons (ps_set (i := 12) sc_law_right.nd rfl (by first | exact Or.inl rfl | exact Or.inr rfl) (pe_call O_law_anew hr rfl m_law_anew k_law_anew b_law_anew .nil pass0 (pa_cons (pv 1) (pa_cons (pv 2) (pa_cons (pe_dget (hu_of hr) (pv 4) pe_str (fun _ _ => rfl)) pa_nil)))))
  (pss_one (ps_ret (pe_and (pe_cmpR (op_eqOwn OLot___eq__ (hr.mono (by decide)) tLot___eq__.at_ tLot___eq__.fn bLot___eq__ pass0) (pe_meth0 (pv 12) PK.cl tKeeper_lot OKeeper_lot (hr.mono (by decide)) bKeeper_lot .nil pass0) (pe_meth0 (pv 3) PK.cl tKeeper_lot OKeeper_lot (hr.mono (by decide)) bKeeper_lot .nil pass0) (nomark _)) (pe_one (pe_cmpR (op_eqD hr.units) (pe_meth0 (pv 12) PK.cl tKeeper_log OKeeper_log (hr.mono (by decide)) bKeeper_log .nil pass0) (pe_meth0 (pv 3) PK.cl tKeeper_log OKeeper_log (hr.mono (by decide)) bKeeper_log .nil pass0) (nomark _))))))))))))))))), ?_⟩
  refine ⟨_, rfl, (by show 3 ≤ sizeLine; decide), fun l0 nl0 => ⟨a, .inl ⟨l0, _, rfl, upd_same, hp0.ne nl0, by decide, by decide, hp0.new nl0, fun v H1 hv k1 hp1 => ?_⟩⟩⟩
  obtain ⟨s, rfl, hs1, hs2⟩ : ∃ s : Nat, v = .int (s : Int) ∧ 2 ≤ s ∧ s ≤ 3 := by
    have hv2 : v = .int 2 ∨ v = .int 2 ∨ v = .int 3 := by simpa using hv
    rcases hv2 with rfl | rfl | rfl
    · exact ⟨2, rfl, by decide, by decide⟩
    · exact ⟨2, rfl, by decide, by decide⟩
    · exact ⟨3, rfl, by decide, by decide⟩
  refine ⟨_, rfl, a, 4, rfl, hp1, by decide, by decide, fun m0 H2 hm0 k2 hp => ⟨_, _, rfl, rfl, _, _, rfl, ?_⟩⟩
  rw [show (fun i j : Int => V.int (i + j)) 1 (m0 : Int) = V.int ((m0 + 1 : Nat) : Int) from congrArg V.int (by omega)]
  obtain ⟨m, em⟩ : ∃ m, m = m0 + 1 := ⟨_, rfl⟩
  rw [← em]
  have hm1 : 1 ≤ m := by omega
  have hm2 : m ≤ 20 := by omega
  clear hp0 hp1 em hm0 k1 k2 hv nl0
  refine ⟨_, rfl, _, rfl, fun k dx nk nd ne => ⟨k, dx, s, m, rfl, hs1, by omega, hm1, hm2, upd_same, fun H3 k3 hK3 => ⟨rfl, ?_⟩⟩⟩
  have N0 := nt_ok H2
  have S3 : Same H2 H3 := fun b u e => k3 b u (by rw [upd_ne (ne_of_none e nk), upd_ne (ne_of_none e nd)]; exact e) (ne_of_none e nk)
  refine fun o no => fun e0 ne0 => ⟨(by show 1 ≤ sizeLine; decide), fun ll nll => ⟨Nat.zero_le _, fun lg nlg => ⟨Nat.zero_le _, fun lu nlu => ⟨same_new nlu _ _ _ (same_new nlg _ _ _ (same_new nll _ _ _ (same_new ne0 _ _ _ upd_same))), [(Sum.inr "lots", .ref ll), (Sum.inr "log", .ref lg), (Sum.inr "undone", .ref lu)], rfl, (by show 3 ≤ 15; decide), ?_⟩⟩⟩⟩
  rw [merge_own]
  refine ⟨_, _, rfl, ?_⟩
  have n3 : ∀ {b : Addr}, H3 b = none → b ≠ a ∧ b ≠ k := fun {b} h => by
    constructor
    · intro z
      obtain ⟨_, _, e, _⟩ := hp.same S3
      rw [z, e] at h
      cases h
    · intro z
      obtain ⟨_, e, _⟩ := keep_ins ((hK3 (fun _ => False) (fun b c => c.elim) (fun c => c)).same wo_same)
      rw [z, e] at h
      cases h
  have hKa : KeepAt C C2 k s m [] 0 (wo (fun b => b = a) H3) := hK3 _ (fun b c => by
    obtain ⟨u, e, y⟩ := pot_l hp
    rw [show b = a from c]
    exact ⟨u, by rw [upd_ne (ne_of_none e nk), upd_ne (ne_of_none e nd)]; exact e, y⟩) (hp.ne nk)
  have Se0 := same_new no (.dK [])
  have Se1 := Se0.trans (same_new ne0 (.dK []))
  have Se2 := Se1.trans (same_new nll (.lst [.ref e0]))
  have Se3 := Se2.trans (same_new nlg (.lst []))
  have Se4 := Se3.trans (same_new nlu (.lst []))
  have q1 := n3 no
  have q2 := n3 (Se0.free ne0)
  have q3 := n3 (Se1.free nll)
  have q4 := n3 (Se2.free nlg)
  have q5 := n3 (Se3.free nlu)
  have p3 : upd (upd (upd (upd (upd H3 o (.dK [])) e0 (.dK [])) ll (.lst [.ref e0])) lg (.lst [])) lu (.lst []) o = some (.dK []) := same_new nlu _ _ _ (same_new nlg _ _ _ (same_new nll _ _ _ (same_new ne0 _ _ _ upd_same)))
  have p4 : upd (upd (upd (upd (upd H3 o (.dK [])) e0 (.dK [])) ll (.lst [.ref e0])) lg (.lst [])) lu (.lst []) e0 = some (.dK []) := same_new nlu _ _ _ (same_new nlg _ _ _ (same_new nll _ _ _ upd_same))
  have p5 : upd (upd (upd (upd (upd H3 o (.dK [])) e0 (.dK [])) ll (.lst [.ref e0])) lg (.lst [])) lu (.lst []) ll = some (.lst [.ref e0]) := same_new nlu _ _ _ (same_new nlg _ _ _ upd_same)
  have p6 : upd (upd (upd (upd (upd H3 o (.dK [])) e0 (.dK [])) ll (.lst [.ref e0])) lg (.lst [])) lu (.lst []) lg = some (.lst []) := same_new nlu _ _ _ upd_same
  have p7 : upd (upd (upd (upd (upd H3 o (.dK [])) e0 (.dK [])) ll (.lst [.ref e0])) lg (.lst [])) lu (.lst []) lu = some (.lst []) := upd_same
  have oe0 : e0 ≠ o := fun z => by rw [z, upd_same] at ne0; cases ne0
  generalize upd (upd (upd (upd (upd H3 o (.dK [])) e0 (.dK [])) ll (.lst [.ref e0])) lg (.lst [])) lu (.lst []) = H4 at Se4 p3 p4 p5 p6 p7
  have S35 : Same H3 (upd H4 o (.dK (ownD ll lg lu))) := fun b u e => by rw [upd_ne (ne_of_none e no)]; exact Se4 _ _ e
  have p8 : upd H4 o (.dK (ownD ll lg lu)) o = some (.dK (ownD ll lg lu)) := upd_same
  have p4 : upd H4 o (.dK (ownD ll lg lu)) e0 = some (.dK []) := (upd_ne oe0).trans p4
  have p5 : upd H4 o (.dK (ownD ll lg lu)) ll = some (.lst [.ref e0]) := (upd_ne (ne_of p5 p3 (by intro z; cases z))).trans p5
  have p6 : upd H4 o (.dK (ownD ll lg lu)) lg = some (.lst []) := (upd_ne (ne_of p6 p3 (by intro z; cases z))).trans p6
  have p7 : upd H4 o (.dK (ownD ll lg lu)) lu = some (.lst []) := (upd_ne (ne_of p7 p3 (by intro z; cases z))).trans p7
  generalize upd H4 o (.dK (ownD ll lg lu)) = H5 at S35 p4 p5 p6 p7 p8
  have hp5 := (hp.same S3).same S35
  have ek5 : ∃ u, H5 k = some u ∧ ∀ xs, u ≠ .tup xs := by
    obtain ⟨u, e, y⟩ := keep_ins (hKa.same wo_same)
    exact ⟨u, S35 _ _ e, y⟩
  have pr : PairAt C C2 a k o s m [] 0 (fun b => b = a ∨ b = o) (fun b => b = a ∨ b = k) H5 := by
    have w1 : ∀ {b : Addr}, b ≠ a ∧ b ≠ k → wo (fun b => b = a ∨ b = k) H5 b = H5 b := fun h => wo_of fun c => c.elim h.1 h.2
    refine ⟨(hKa.same (wo_more fun b c => c.elim .inl fun z => .inr (z ▸ no))).same (wo_sm S35), ⟨ll, lg, lu, [e0], [], by rw [w1 q1]; exact p8, by rw [w1 q3]; exact p5, rfl, fun i p hi => ?_, ⟨[], by rw [w1 q4]; exact p6, .nil⟩, by rw [w1 q5]; exact p7, rfl, fun i p hi => by cases hi⟩, fun b c => ?_, fun b c => ?_, fun c => c.elim (hp.ne nk) fun z => q1.2 z.symm, fun c => c.elim q1.1 q1.2, .inl rfl, .inr rfl, .inl rfl, .inr rfl, okK_nil, Nat.le_refl _⟩
    · cases i with
      | zero =>
        cases hi
        rw [w1 q2]
        exact p4
      | succ i => cases hi
    · rcases c with rfl | rfl
      · exact pot_l hp5
      · exact ⟨_, p8, fun xs z => by cases z⟩
    · rcases c with rfl | rfl
      · exact pot_l hp5
      · exact ek5
  clear S3 S35 Se4 p4 p5 p6 p7 p8 q1 q2 q3 q4 q5 n3 hKa hK3 k3 oe0 p3
  obtain ⟨dx5, lp5, dp5, kp5, las5, das5, g5, _⟩ := id pr.K.in_
  refine ⟨_, rfl, k, _, _, rfl, g5, k, s, m, [], 0, rfl, pr.K.in_, ?_⟩
  refine ⟨_, rfl, k, _, _, rfl, g5, kf_no _ _ _ _ _ _ (by decide), k, s, m, [], 0, rfl, pr.K.in_, ?_⟩
  refine ⟨(by show 2 ≤ sizeLine; decide), fun l1 nl1 => ⟨_, rfl, _, rfl, (by show 2 ≤ sizeLine; decide), fun l2 nl2 => ?_⟩⟩
  have shp : SeqAt.shaped (.list [.int (s : Int), .int (m : Int)]) = true := rfl
  refine ⟨_, _, .lst (SqL.of (same_new nl2 _ _ _ upd_same)) (.cons (.int _) (.cons (.int _) .nil)), .lst (SqL.of upd_same) (.cons (.int _) (.cons (.int _) .nil)), shp, shp, _, rfl, ?_⟩
  rw [SeqAt.eqv_refl _ (SeqAt.canLay_of_shaped shp)]
  refine iteNb rfl ?_
  have pr := pr.same ((same_new nl1 (.lst [V.int (s : Int), .int (m : Int)])).trans (same_new nl2 (.lst [V.int (s : Int), .int (m : Int)])))
  have hp5 := (hp5.new nl1 (o := .lst [V.int (s : Int), .int (m : Int)])).new nl2 (o := .lst [V.int (s : Int), .int (m : Int)])
  generalize upd (upd H5 l1 (.lst [V.int (s : Int), .int (m : Int)])) l2 (.lst [V.int (s : Int), .int (m : Int)]) = H6 at pr hp5
  have hs8 : s ≤ 8 := by omega
  refine ⟨_, rfl, _, rfl, _, rfl, _, rfl, k, o, s, m, [], 0, rfl, pr.K.in_, pr.O.same wo_same, pr.hok, pr.hd, hs1, hs8, hm1, fun H7 S7 => ⟨_, rfl, iteF ?_⟩⟩
  have pr := pr.same S7
  have hp7 := hp5.same S7
  refine ⟨(by show 2 ≤ sizeLine; decide), fun tp ntp => ⟨tp, _, rfl, SqT.of upd_same, rfl, _, _, rfl, _, _, rfl, rfl, ?_⟩⟩
  have pr := pr.same (same_new ntp (.tup [V.non, .non]))
  have hp8 := hp7.new ntp (o := .tup [V.non, .non])
  generalize upd H7 tp (.tup [V.non, .non]) = H8 at pr hp8
  refine ⟨_, rfl, a, 9, rfl, hp8, by decide, by decide, fun t H9 ht k9 hp9 => ⟨_, _, rfl, rfl, ?_⟩⟩
  rw [show (fun i j : Int => V.int (i + j)) 4 (t : Int) = V.int ((t + 4 : Nat) : Int) from congrArg V.int (by omega)]
  refine ⟨_, rfl, by omega, by omega, ?_⟩
  have f9 : Off3 a a a H8 H9 := fun b u n1 _ _ e => k9 _ _ e n1
  have pr : PairAt C C2 a k o s m [] 0 (fun b => b = a ∨ b = o) (fun b => b = a ∨ b = k) H9 := pr.move (fun b u n1 _ _ e => k9 _ _ e n1) hp9 (pr.K.same (wo_kept k9 pr.ka)) (pr.O.same (wo_kept k9 pr.oa)) pr.hok pr.hd
  refine for_range (lo := 0) (n := t + 4) (fun i σ H' => ∃ (Ds : List Deed) (d : Nat) (Nk No : Addr → Prop) (v5 v6 v7 : Option V), σ = [some (.ref a), some (.int (s : Int)), some (.int (m : Int)), some (.ref k), some (.ref o), v5, v6, v7, none, none, none, none, none] ∧ d ≤ i ∧ PotAt H' a ∧ PairAt C C2 a k o s m Ds d Nk No H' ∧
    (i < 4 ∨ ∃ k2 o2 Ds2 d2 Nk2 No2, v5 = some (.ref k2) ∧ v6 = some (.ref o2) ∧ PairAt C C2 a k2 o2 s m Ds2 d2 Nk2 No2 H' ∧ d2 ≤ 4 ∧ Nk k2 ∧ Nk o2 ∧ No k2 ∧ No o2 ∧ Nk2 k ∧ Nk2 o ∧ No2 k ∧ No2 o)) ⟨[], 0, _, _, _, _, _, rfl, Nat.le_refl _, hp9, pr, .inl (by decide)⟩ ?_ ?_
  · rintro i σ H10 hi ⟨Ds, d, Nk, No, v5, v6, v7, rfl, hdi, hpA, prA, hrest⟩
    refine ⟨_, rfl, _, rfl, _, rfl, a, k, o, s, m, Ds, d, Nk, No, rfl, hpA, prA.K, prA.O, prA.nK, prA.nO, prA.k1, prA.o1, prA.ka, prA.ko, prA.oa, prA.ok, prA.hok, prA.hd, by omega, hs1, hs8, fun H11 Ds' d' fB hpB KB OB okB hdB hle => ⟨_, rfl, iteF ?_⟩⟩
    have prB := prA.move fB hpB KB OB okB hdB
    refine ⟨_, rfl, _, rfl, _, rfl, _, rfl, k, o, s, m, Ds', d', rfl, prB.K.in_, prB.O.same wo_same, prB.hok, prB.hd, hs1, hs8, hm1, fun H12 S12 => ⟨_, rfl, iteF ?_⟩⟩
    have prC := prB.same S12
    have hpC := hpB.same S12
    refine ⟨_, rfl, rfl, _, rfl, ?_⟩
    have ek : ∃ u, H12 k = some u ∧ ∀ xs, u ≠ .tup xs := keep_ins prC.K.in_
    by_cases c : i = 3
    · refine iteYes (int_eq.mpr (by omega)) ?_
      obtain ⟨dxk, lpk, dpk, kpk, lask, dask, gk, _⟩ := id prC.K.in_
      obtain ⟨ll, lg, lu, es, us, o1, _⟩ := id (prC.O.same wo_same)
      refine ⟨_, rfl, k, _, _, rfl, gk, kf_no _ _ _ _ _ _ (by decide), Nk, k, s, m, Ds', d', rfl, prC.K, hs1, hs8, hm1, hm2, hdB, fun H13 k2 nk2 S13 hK2 => ⟨_, rfl, o, _, rfl, .inl (S13 _ _ o1), fun o2 no2 => ⟨_, _, rfl, ?_⟩⟩⟩
      have nok2 : NOk (fun b => Nk b ∨ b = k) H12 := fun b c => c.elim (prC.nK b) fun z => z ▸ ek
      have nof2 : NOk (fun b => No b ∨ b = o) H12 := fun b c => c.elim (prC.nO b) fun z => z ▸ ⟨_, o1, fun xs z => by cases z⟩
      have K2 := hK2 _ nok2 fun b c => c
      have S14 := S13.trans (same_new no2 (.dK (ownD ll lg lu)))
      have s2 := same_new no2 (.dK (ownD ll lg lu))
      have ho2 : upd H13 o2 (.dK (ownD ll lg lu)) o2 = some (.dK (ownD ll lg lu)) := upd_same
      have no2' : H12 o2 = none := S13.free no2
      have ek2' := keep_ins (K2.same wo_same)
      have k2o2 : k2 ≠ o2 := fun z => by
        obtain ⟨u, e, _⟩ := ek2'
        rw [z, no2] at e
        cases e
      generalize upd H13 o2 (.dK (ownD ll lg lu)) = H14 at S14 s2 ho2
      have ek2 : ∃ u, H14 k2 = some u ∧ ∀ xs, u ≠ .tup xs := by
        obtain ⟨u, e, y⟩ := ek2'
        exact ⟨u, s2 _ _ e, y⟩
      have eo2 : ∃ u, H14 o2 = some u ∧ ∀ xs, u ≠ .tup xs := ⟨_, ho2, fun xs z => by cases z⟩
      have n_ : ∀ {b p : Addr}, (∃ u, H12 b = some u ∧ ∀ xs, u ≠ .tup xs) → H12 p = none → p ≠ b := fun ⟨u, e, _⟩ h z => by
        rw [z, e] at h
        cases h
      have pair2 : PairAt C C2 a k2 o2 s m Ds' d' (fun b => (Nk b ∨ b = k) ∨ b = o2) (fun b => (No b ∨ b = o) ∨ b = k2) H14 := by
        refine ⟨(K2.same (wo_more fun b c => c.elim .inl fun z => .inr (z ▸ no2))).same (wo_sm s2), own_copy prC.O o1 S14 (fun b c => ?_) ho2 (fun c => ?_), fun b c => ?_, fun b c => ?_, fun c => ?_, fun c => ?_, .inl (.inl prC.ka), .inr rfl, .inl (.inl prC.oa), .inr rfl, prC.hok, prC.hd⟩
        · rcases c with (c | c) | c
          · exact .inl c
          · exact .inr (.inl c)
          · exact .inr (.inr (c ▸ nk2))
        · rcases c with c | c
          · exact nof2.new no2' c
          · exact k2o2 c.symm
        · rcases c with c | c
          · exact nok2.same S14 b c
          · exact c ▸ eo2
        · rcases c with c | c
          · exact nof2.same S14 b c
          · exact c ▸ ek2
        · rcases c with c | c
          · exact nok2.new nk2 c
          · exact k2o2 c
        · rcases c with c | c
          · exact nof2.new no2' c
          · exact k2o2 c.symm
      exact ⟨Ds', d', fun b => Nk b ∨ b = k2 ∨ b = o2, fun b => No b ∨ b = k2 ∨ b = o2, _, _, _, rfl, by omega, hpC.same S14, prC.wide S14 nk2 no2' ek2 eo2, .inr ⟨k2, o2, Ds', d', _, _, rfl, rfl, pair2, by omega, .inr (.inl rfl), .inr (.inr rfl), .inr (.inl rfl), .inr (.inr rfl), .inl (.inr rfl), .inl (.inl prC.ko), .inl (.inl prC.ok), .inl (.inr rfl)⟩⟩
    · refine iteNo (fun z => c (by have := int_eq.mp z; omega)) ?_
      refine ⟨Ds', d', Nk, No, _, _, _, rfl, by omega, hpC, prC, ?_⟩
      rcases hrest with h | ⟨k2, o2, Ds2, d2, Nk2, No2, e5, e6, prD, hd2, x1, x2, x3, x4, x5, x6, x7, x8⟩
      · exact .inl (by omega)
      · exact .inr ⟨k2, o2, Ds2, d2, Nk2, No2, e5, e6, (prD.stay fB x5 x6 x7 x8 prB hpB).same S12, hd2, x1, x2, x3, x4, x5, x6, x7, x8⟩
  · rintro σ H10 ⟨Ds, d, Nk, No, v5, v6, v7, rfl, hdi, hpA, prA, hrest⟩
    obtain ⟨k2, o2, Ds2, d2, Nk2, No2, rfl, rfl, prD, hd2, x1, x2, x3, x4, x5, x6, x7, x8⟩ := hrest.resolve_left (by omega)
    refine ⟨_, rfl, _, rfl, _, rfl, _, rfl, k2, o2, s, m, Ds2, d2, rfl, prD.K.in_, prD.O.same wo_same, prD.hok, prD.hd, hs1, hs8, hm1, fun H11 S11 => ⟨_, rfl, iteF ?_⟩⟩
    have prD := prD.same S11
    have prA := prA.same S11
    have hpA := hpA.same S11
    refine ⟨_, rfl, _, rfl, _, rfl, a, k2, o2, s, m, Ds2, d2, Nk2, No2, rfl, hpA, prD.K, prD.O, prD.nK, prD.nO, prD.k1, prD.o1, prD.ka, prD.ko, prD.oa, prD.ok, prD.hok, prD.hd, by omega, hs1, hs8, fun H12 Ds' d' fB hpB KB OB okB hdB hle => ⟨_, rfl, iteF ?_⟩⟩
    have prE := prD.move fB hpB KB OB okB hdB
    have prA := prA.stay fB x1 x2 x3 x4 prE hpB
    refine ⟨_, rfl, _, rfl, _, rfl, _, rfl, k2, o2, s, m, Ds', d', rfl, prE.K.in_, prE.O.same wo_same, prE.hok, prE.hd, hs1, hs8, hm1, fun H13 S13 => ⟨_, rfl, iteF ?_⟩⟩
    have prA := prA.same S13
    refine ⟨_, rfl, _, rfl, _, rfl, _, rfl, k, o, s, m, Ds, d, rfl, prA.K.in_, prA.O.same wo_same, prA.hok, prA.hd, hs1, hs8, hm1, fun H14 S14 => ⟨_, rfl, iteF ?_⟩⟩
    have prA := prA.same S14
    clear prE prD S13 S14 fB hpB KB OB okB hdB S11 hpA
    have hd13 : d ≤ 12 := by omega
    obtain ⟨ll, lg, lu, es, us, o1, o2_, o3, o4, o5, o6, o7, o8⟩ := id (prA.O.same wo_same)
    have hok := prA.hok
    have hdl := prA.hd
    have hDd := okD_st hok d hdl
    have hl6 := st_l6 hok hdl
    have ee := List.getElem?_eq_getElem (l := es) (i := d) (by omega)
    generalize es[d]'(by omega) = td at ee
    have htd := o4 d td ee
    have elast : (es.map V.ref)[(es.map V.ref).length - 1]? = some (.ref td) := by
      rw [List.length_map, o3, show d + 1 - 1 = d by omega, List.getElem?_map, ee]
      rfl
    refine ⟨_, rfl, o, _, rfl, get_lots o1, _, rfl, _, _, _, .ref td, rfl, rfl, SqL.of o2_, atI_back elast, ?_⟩
    refine ⟨_, rfl, _, rfl, rfl, rfl, fun n dn nn nd ne => ⟨n, dn, s, m, rfl, hs1, hs8, hm1, hm2, upd_same, fun H15 k15 hK15 => ⟨rfl, _, _, rfl, ?_⟩⟩⟩
    have N0 := nt_ok H14
    have S15 : Same H14 H15 := fun b u e => k15 b u (by rw [upd_ne (ne_of_none e nn), upd_ne (ne_of_none e nd)]; exact e) (ne_of_none e nn)
    have hKn : KeepAt C C2 n s m [] 0 (wo (nt H14) H15) := hK15 _ (fun b c => by
      obtain ⟨u, e, y⟩ := c
      exact ⟨u, by rw [upd_ne (ne_of_none e nn), upd_ne (ne_of_none e nd)]; exact e, y⟩) (N0.new nn)
    clear hK15 k15
    have htd15 := S15 _ _ htd
    refine ⟨_, rfl, td, _, (st Ds d).map Prod.fst, rfl, .inl htd15, by simp [dT, Function.comp_def], by rw [List.length_map]; have := hDd.len; omega, fun ys kp hperm _ nkp => ?_⟩
    have hkp : upd H15 kp (.lst (ys.map V.str)) kp = some (.lst (ys.map V.str)) := upd_same
    have S16 := same_new nkp (.lst (ys.map V.str))
    generalize upd H15 kp (.lst (ys.map V.str)) = H16 at hkp S16
    refine ⟨kp, _, rfl, SqL.of hkp, fun rv nrv => ?_⟩
    rw [← List.map_reverse]
    have hzp : ys.reverse.Perm ((st Ds d).map Prod.fst) := (List.reverse_perm ys).trans hperm
    generalize ys.reverse = zs at hzp
    have znd : zs.Nodup := hzp.nodup_iff.mpr hDd.nd
    have zlen : zs.length ≤ 12 := by
      rw [hzp.length_eq, List.length_map]
      have := hDd.len
      omega
    have htot : tot (st Ds d) ≤ 280 := by
      have := tot_st hok d hdl
      omega
    have hrv : upd H16 rv (.lst (zs.map V.str)) rv = some (.lst (zs.map V.str)) := upd_same
    have S17 := S16.trans (same_new nrv (.lst (zs.map V.str)))
    generalize upd H16 rv (.lst (zs.map V.str)) = H17 at hrv S17
    have hKn := hKn.same (wo_sm S17)
    have S1417 := S15.trans S17
    obtain ⟨un, en, _⟩ := keep_ins (hKn.same wo_same)
    have nrvn : rv ≠ n := fun z => by
      obtain ⟨dy, _, _, _, _, _, y1, _⟩ := hKn.same (wo_same (N := nt H14))
      rw [← z, hrv] at y1
      cases y1
    clear en S16 hkp nrv nkp
    refine ⟨rv, rfl, ⟨_, SqL.of hrv⟩, ?_⟩
    refine for_list (K := K) (a := rv) (xs := zs.map V.str) (fun i σ H' => ∃ (v10 v11 : Option V) (Es : List Deed), σ = [some (.ref a), some (.int (s : Int)), some (.int (m : Int)), some (.ref k), some (.ref o), some (.ref k2), some (.ref o2), v7, some (.ref td), some (.ref n), v10, v11, none] ∧ Kept n H17 H' ∧ KeepAt C C2 n s m Es Es.length (wo (nt H14) H') ∧ Lon0 (st Ds d) zs i Es) ⟨none, none, [], rfl, fun b u e _ => e, hKn, lon_start hzp hDd.nd⟩ (fun i σ H' _ ⟨_, _, _, _, hk, _⟩ => SqL.of (hk _ _ hrv nrvn)) ?_ ?_
    · rintro i v σ H18 hv ⟨v10, v11, Es, rfl, hk18, hK18, hL⟩
      obtain ⟨y, hy, rfl⟩ := str_at hv
      have hym : y ∈ (st Ds d).map Prod.fst := hzp.mem_iff.mp (List.mem_of_getElem? hy)
      obtain ⟨hyL, hg1, hg2⟩ := getT_in hDd hym
      obtain ⟨f6, hf6, ef6⟩ := List.mem_map.mp hym
      have hy6 : y.length ≤ 6 := ef6 ▸ hl6 f6 hf6
      have htdn : td ≠ n := fun z => by rw [z, nn] at htd; cases htd
      have htd18 := hk18 _ _ (S17 _ _ htd15) htdn
      have hg : DGet H18 td (.str y) (some (.int (getT (st Ds d) y))) := by
        rw [← dT_some hym]
        exact DGet.k (k := Sum.inr y) htd18
      have nin : y ∉ zs.take i := fun c => by
        have hi := (List.getElem?_eq_some_iff.mp hy).1
        have znd := znd
        rw [← List.take_append_drop i zs, List.nodup_append] at znd
        refine znd.2.2 y c y ?_ rfl
        rw [List.drop_eq_getElem_cons hi, (List.getElem?_eq_some_iff.mp hy).2]
        exact List.mem_cons_self
      have hi12 : i ≤ 12 := by
        have hi := (List.getElem?_eq_some_iff.mp hy).1
        omega
      refine ⟨_, rfl, _, rfl, td, _, rfl, hg, ?_⟩
      refine ⟨fun mm σ H' => ∃ (L : Int) (Es : List Deed), mm = L.toNat ∧ L ≤ getT (st Ds d) y ∧ σ = [some (.ref a), some (.int (s : Int)), some (.int (m : Int)), some (.ref k), some (.ref o), some (.ref k2), some (.ref o2), v7, some (.ref td), some (.ref n), some (.str y), some (.int L), none] ∧ Kept n H17 H' ∧ KeepAt C C2 n s m Es Es.length (wo (nt H14) H') ∧ Lone (st Ds d) zs i y L Es, ⟨_, _, Es, rfl, Int.le_refl _, rfl, hk18, hK18, hL.into hy znd hg1⟩, ?_⟩
      rintro mm σ H19 ⟨L, Fs, rfl, hle, rfl, hk19, hK19, hLn⟩
      refine ⟨_, rfl, _, _, rfl, rfl, _, rfl, ite2 (fun c => ?_) (fun c => ?_)⟩
      · have c : 0 < L := of_decide_eq_true c
        refine ⟨_, fun σ' H' h => h, ?_⟩
        have hlt := hLn.small hDd htot (by omega) (by omega)
        obtain ⟨kk, ekk, kk1, kk2, kk3⟩ := min20 (g := L) (by omega)
        obtain ⟨dyn, _, _, _, _, _, gn, _⟩ := id hK19.in_
        have hyE := hLn.ok1 hyL (k := (kk : Int)) (by omega) (by omega)
        refine ⟨_, rfl, n, dyn, _, rfl, gn, kf_no _ _ _ _ _ _ (by decide), _, rfl, _, rfl, _, _, rfl, ?_⟩
        rw [ekk]
        have kk4 : (kk : Int) = 20 ∨ (kk : Int) = L := by
          split at ekk
          · exact .inr ekk.symm
          · exact .inl ekk.symm
        refine ⟨nt H14, n, s, m, Fs, Fs.length, y, (kk : Int), rfl, hK19, (N0.same S1417).kept hk19 (N0.new nn), N0.new nn, hs1, hs8, hLn.ok, Nat.le_refl _, hlt, hyE, fun H20 k20 hK20 => ?_⟩
        refine ⟨_, rfl, _, rfl, _, _, rfl, ?_⟩
        rw [ekk]
        refine ⟨_, _, rfl, rfl, ?_⟩
        have el : (doneD Fs Fs.length (true, y, (kk : Int))).length = Fs.length + 1 := doneD_len (Nat.le_refl _)
        refine ⟨(L - (kk : Int)).toNat, by omega, L - (kk : Int), _, rfl, by omega, rfl, hk19.trans k20, by rw [el]; exact hK20, hLn.step hlt hyL hy6 nin (by omega) (by omega) (by omega) kk4 hle⟩
      · have c : ¬ 0 < L := fun z => c (decide_eq_true z)
        have hL0 : L = 0 := by have := hLn.l0; omega
        subst hL0
        exact ⟨_, _, Fs, rfl, hk19, hK19, hLn.out hy hg1⟩
    rintro σ H18 ⟨v10, v11, Es, rfl, hk18, hKn, hL⟩
    rw [List.length_map] at hL
    have etold := hL.fin hzp hDd.nd
    have S18 : Same H14 H18 := fun b u e => hk18 _ _ (S1417 _ _ e) (ne_of_none e nn)
    have prA := prA.same S18
    obtain ⟨dyn, _, _, _, _, _, gn, _⟩ := id hKn.in_
    obtain ⟨dyk, _, _, _, _, _, gk, _⟩ := id prA.K.in_
    have okL : ∀ e ∈ told (st Ds d), OkT e.1 := fun e he => (hDd.told.ok e he).1.ok
    refine ⟨_, rfl, n, dyn, _, rfl, gn, kf_no _ _ _ _ _ _ (by decide), n, s, m, Es, Es.length, rfl, hKn.in_, Nat.le_refl _, fun a1 tl1 hL1 => ⟨_, rfl, k, dyk, _, rfl, gk, kf_no _ _ _ _ _ _ (by decide), k, s, m, Ds, d, rfl, prA.K.in_, hdl, fun a2 tl2 hL2 => ?_⟩⟩
    rw [etold] at hL1
    obtain ⟨d1, y1, _⟩ := id hL1
    obtain ⟨d2, y2, _⟩ := id hL2
    refine ⟨a1, a2, _, _, _, _, rfl, rfl, y1, y2, a1, tl1, s, told (st Ds d), a2, rfl, hL1, .inl ⟨tl2, s, told (st Ds d), hL2, okL, okL, _, rfl, _, rfl, iteNb (by simp) ?_⟩⟩
    refine ⟨_, rfl, n, dyn, _, rfl, gn, kf_no _ _ _ _ _ _ (by decide), n, s, m, Es, Es.length, rfl, hKn.in_, hL.ok, Nat.le_refl _, hm1, hs8, fun H19 p1 np1 S19 hp1 => ?_⟩
    refine ⟨_, rfl, k, dyk, _, rfl, S19 _ _ gk, kf_no _ _ _ _ _ _ (by decide), k, s, m, Ds, d, rfl, prA.K.in_.same S19, hok, hdl, hm1, hs8, fun H20 p2 np2 S20 hp2 => ?_⟩
    rw [etold] at hp1
    have okS : ∀ e ∈ (((told (sumT [] (pcsT s (told (st Ds d))))).filter fun e => decide (e.2 ≥ (m : Int))).map Prod.fst), OkT e := fun e he => by
      obtain ⟨f, hf, rfl⟩ := List.mem_map.mp he
      have hf := told_mem.mp (List.mem_filter.mp hf).1
      exact okT_sumT (okT_pcsT okL s) f hf
    refine ⟨_, _, dp_st (S20 _ _ hp1), dp_st hp2, shaped_st okS, shaped_st okS, _, rfl, ?_⟩
    rw [eqv_st okS]
    refine iteNb rfl ?_
    have S1820 := S19.trans S20
    have prA := prA.same S1820
    obtain ⟨ll', lg', lu', _, _, p1', _, _, _, p5', _⟩ := id (prA.O.same wo_same)
    refine ⟨_, rfl, _, rfl, _, rfl, o, _, rfl, get_log p1', s, m, lg', Ds.take d, rfl, p5', okK_take hok d, hs1, hs8, hm1, hm2, fun H21 g ng S21 hKg => ?_⟩
    have prA := prA.same S21
    have lt : (Ds.take d).length = d := by rw [List.length_take]; omega
    obtain ⟨dyg, _, _, _, _, _, gg, _⟩ := id hKg.in_
    obtain ⟨dyk2, _, _, _, _, _, gk2, _⟩ := id prA.K.in_
    refine ⟨_, rfl, g, dyg, _, rfl, gg, kf_no _ _ _ _ _ _ (by decide), g, s, m, Ds.take d, (Ds.take d).length, rfl, hKg.in_, Nat.le_refl _, fun a3 tl3 hL3 => ⟨_, rfl, k, dyk2, _, rfl, gk2, kf_no _ _ _ _ _ _ (by decide), k, s, m, Ds, d, rfl, prA.K.in_, hdl, fun a4 tl4 hL4 => ?_⟩⟩
    rw [lt, st_take (Nat.le_refl _)] at hL3
    obtain ⟨d3, y3, _⟩ := id hL3
    obtain ⟨d4, y4, _⟩ := id hL4
    refine ⟨a3, a4, _, _, _, _, rfl, rfl, y3, y4, a3, tl3, s, told (st Ds d), a4, rfl, hL3, .inl ⟨tl4, s, told (st Ds d), hL4, okL, okL, _, rfl, ?_⟩⟩
    rw [show decide (s = s ∧ told (st Ds d) = told (st Ds d)) = true from decide_eq_true ⟨rfl, rfl⟩]
    refine ⟨_, rfl, iteT ?_⟩
    refine ⟨_, rfl, g, dyg, _, rfl, gg, kf_no _ _ _ _ _ _ (by decide), g, s, m, Ds.take d, (Ds.take d).length, rfl, hKg.in_, fun H22 q1 nq1 S22 hq1 => ?_⟩
    refine ⟨_, rfl, k, dyk2, _, rfl, S22 _ _ gk2, kf_no _ _ _ _ _ _ (by decide), k, s, m, Ds, d, rfl, prA.K.in_.same S22, fun H23 q2 nq2 S23 hq2 => ?_⟩
    rw [List.take_length] at hq1
    have okt2 : ∀ e ∈ Ds.take d, OkT e.2.1 := fun e he => okK_t hok e (List.mem_of_mem_take he)
    refine ⟨_, _, dp_deeds (hq1.same S23), dp_deeds hq2, shaped_deeds okt2, shaped_deeds okt2, ?_⟩
    rw [eqv_deeds okt2]
    exact q _
def splaw (K : PySem.W.Frag) (_ _ : Addr) : Sp := fun vs H Q _ => ∃ a, ∃ ns : List Int, vs = [.ref a] ∧ SqL K H a (ns.map V.int) ∧ ns.length ≤ 63 ∧ ∀ H', Q (.bl true) H'
theorem oklaw (D : Def K mg "law" slaw ["_law_script"]) (B : Bs mg) (Glb : Glo mg) (WK : WebK K mg C) (PK : KeepK K mg C2)
    (h_law_right : Good P w K mg base "_law_right" s_law_right ["_law_pot_here"] 13 (sp_law_right K C C2))
    (h_law_pot : Good P w K mg base "_law_pot" s_law_pot ["_law_script", "_law_k"] 1 (sp_law_pot K C C2)) :
    Good P w K mg base "law" slaw ["_law_script"] 14 (splaw K C C2) := by
  refine D.good fun f fd F => ?_
  obtain ⟨f_law_right, d_law_right, O_law_right, m_law_right, k_law_right, b_law_right, F_law_right⟩ := h_law_right
  obtain ⟨f_law_pot, d_law_pot, O_law_pot, m_law_pot, k_law_pot, b_law_pot, F_law_pot⟩ := h_law_pot
  refine F.ok sclaw (fun vs H Q E h => ?_) (fun cdv A outer s H vs Q E hr h => ?_)
  · obtain ⟨a, ns, rfl, ha, _, q⟩ := h
    first | rfl | (rcases h with ⟨_, _, rfl, _⟩ | ⟨_, rfl, _⟩ <;> rfl)
  obtain ⟨a, ns, rfl, ha, _, q⟩ := h
  refine ⟨_, (pss_one (ps_ret (pe_call O_law_right hr rfl m_law_right k_law_right b_law_right .nil pass0 (pa_cons (pe_call O_law_pot (hr.mono (by decide)) rfl m_law_pot k_law_pot b_law_pot .nil pass0 (pa_cons (pv 0) (pa_cons pe_int pa_nil))) pa_nil)))), ?_⟩
  exact ⟨_, rfl, a, ns, rfl, ha, fun p H' hp _ _ => ⟨p, rfl, hp, q⟩⟩
end
end My
namespace My
open PySem L2 PyProof.Rows
/-! ### the end -/
theorem kit_no {K : PySem.W.Frag} {C : Addr} (h1 : PySem.W.isClsIn K C = true) (h2 : PySem.W.typeIn K (.ref C) = some (.type "type")) (h3 : PySem.W.subIn K (.type "dict") (.ref C) = some false) : PySem.W.kitOne K (.type "dict") (.ref C) = some false := by
  unfold PySem.W.kitOne
  rw [if_neg (by simp)]
  show (if ((PySem.W.clsIn K C).isSome && PySem.W.typeIn K (.ref C) == some (.type "type")) = true then PySem.W.subIn K (.type "dict") (.ref C) else none) = some false
  have h1' : (PySem.W.clsIn K C).isSome = true := h1
  rw [h1', h2, if_pos (by simp)]
  exact h3
theorem fd_is {K : PySem.W.Frag} {x : Str} {st : Stmt} {f : Addr} {fd fe : FuncData} {oc : Value} {od : Option Addr} {sl : Array (Option Value)} (F : Fun K x x st f fd) (l : K.lookup f = some ⟨oc, od, .func fe, sl⟩) : fd = fe := by
  obtain ⟨oc2, od2, kV, doc, pm, an, cdv, ct, osl, e, lk, c⟩ := F.ex
  rw [lk] at l
  have := Option.some.inj l
  injection this with _ _ h3 _
  injection h3
set_option maxHeartbeats 4000000 in
theorem all_mk {l : PySem.W.OpenLaw} {w : World} {K : PySem.W.Frag} {h : Heap} {mg : Str → Option Value} {fa C C2 : Addr} (X : K.In h) (G : h.Ns mainGlobals mg) (hfa : mg "law" = some (.ref fa))
    {fM0 : Addr} {odM0 anM0 : Option Addr} {slM0 : Array (Option Value)} {ocM0 kVM0 dcM0 pmM0 cdM0 ctM0 : Value} {fM1 : Addr} {odM1 anM1 : Option Addr} {slM1 : Array (Option Value)} {ocM1 kVM1 dcM1 pmM1 cdM1 ctM1 : Value} {fM2 : Addr} {odM2 anM2 : Option Addr} {slM2 : Array (Option Value)} {ocM2 kVM2 dcM2 pmM2 cdM2 ctM2 : Value} {pM2 : Addr} {rsM2 : List Value} {fM3 : Addr} {odM3 anM3 : Option Addr} {slM3 : Array (Option Value)} {ocM3 kVM3 dcM3 pmM3 cdM3 ctM3 : Value} {fM4 : Addr} {odM4 anM4 : Option Addr} {slM4 : Array (Option Value)} {ocM4 kVM4 dcM4 pmM4 cdM4 ctM4 : Value} {fM5 : Addr} {odM5 anM5 : Option Addr} {slM5 : Array (Option Value)} {ocM5 kVM5 dcM5 pmM5 cdM5 ctM5 : Value} {fM6 : Addr} {odM6 anM6 : Option Addr} {slM6 : Array (Option Value)} {ocM6 kVM6 dcM6 pmM6 cdM6 ctM6 : Value} {fM7 : Addr} {odM7 anM7 : Option Addr} {slM7 : Array (Option Value)} {ocM7 kVM7 dcM7 pmM7 cdM7 ctM7 : Value} {fM8 : Addr} {odM8 anM8 : Option Addr} {slM8 : Array (Option Value)} {ocM8 kVM8 dcM8 pmM8 cdM8 ctM8 : Value} {pM8 : Addr} {rsM8 : List Value} {fM9 : Addr} {odM9 anM9 : Option Addr} {slM9 : Array (Option Value)} {ocM9 kVM9 dcM9 pmM9 cdM9 ctM9 : Value} {fM10 : Addr} {odM10 anM10 : Option Addr} {slM10 : Array (Option Value)} {ocM10 kVM10 dcM10 pmM10 cdM10 ctM10 : Value} {fM11 : Addr} {odM11 anM11 : Option Addr} {slM11 : Array (Option Value)} {ocM11 kVM11 dcM11 pmM11 cdM11 ctM11 : Value} {fM12 : Addr} {odM12 anM12 : Option Addr} {slM12 : Array (Option Value)} {ocM12 kVM12 dcM12 pmM12 cdM12 ctM12 : Value} {fM13 : Addr} {odM13 anM13 : Option Addr} {slM13 : Array (Option Value)} {ocM13 kVM13 dcM13 pmM13 cdM13 ctM13 : Value} {fM14 : Addr} {odM14 anM14 : Option Addr} {slM14 : Array (Option Value)} {ocM14 kVM14 dcM14 pmM14 cdM14 ctM14 : Value} {fM15 : Addr} {odM15 anM15 : Option Addr} {slM15 : Array (Option Value)} {ocM15 kVM15 dcM15 pmM15 cdM15 ctM15 : Value} {fM16 : Addr} {odM16 anM16 : Option Addr} {slM16 : Array (Option Value)} {ocM16 kVM16 dcM16 pmM16 cdM16 ctM16 : Value} {fM17 : Addr} {odM17 anM17 : Option Addr} {slM17 : Array (Option Value)} {ocM17 kVM17 dcM17 pmM17 cdM17 ctM17 : Value} {fM18 : Addr} {odM18 anM18 : Option Addr} {slM18 : Array (Option Value)} {ocM18 kVM18 dcM18 pmM18 cdM18 ctM18 : Value} {fM19 : Addr} {odM19 anM19 : Option Addr} {slM19 : Array (Option Value)} {ocM19 kVM19 dcM19 pmM19 cdM19 ctM19 : Value} {f0 : Addr} {od0 an0 : Option Addr} {sl0 : Array (Option Value)} {oc0 kV0 dc0 pm0 cd0 ct0 : Value} {f1 : Addr} {od1 an1 : Option Addr} {sl1 : Array (Option Value)} {oc1 kV1 dc1 pm1 cd1 ct1 : Value} {f2 : Addr} {od2 an2 : Option Addr} {sl2 : Array (Option Value)} {oc2 kV2 dc2 pm2 cd2 ct2 : Value} {f3 : Addr} {od3 an3 : Option Addr} {sl3 : Array (Option Value)} {oc3 kV3 dc3 pm3 cd3 ct3 : Value} {f4 : Addr} {od4 an4 : Option Addr} {sl4 : Array (Option Value)} {oc4 kV4 dc4 pm4 cd4 ct4 : Value} {f5 : Addr} {od5 an5 : Option Addr} {sl5 : Array (Option Value)} {oc5 kV5 dc5 pm5 cd5 ct5 : Value} {f6 : Addr} {od6 an6 : Option Addr} {sl6 : Array (Option Value)} {oc6 kV6 dc6 pm6 cd6 ct6 : Value} {f7 : Addr} {od7 an7 : Option Addr} {sl7 : Array (Option Value)} {oc7 kV7 dc7 pm7 cd7 ct7 : Value} {f8 : Addr} {od8 an8 : Option Addr} {sl8 : Array (Option Value)} {oc8 kV8 dc8 pm8 cd8 ct8 : Value} {f9 : Addr} {od9 an9 : Option Addr} {sl9 : Array (Option Value)} {oc9 kV9 dc9 pm9 cd9 ct9 : Value} {f10 : Addr} {od10 an10 : Option Addr} {sl10 : Array (Option Value)} {oc10 kV10 dc10 pm10 cd10 ct10 : Value} {f11 : Addr} {od11 an11 : Option Addr} {sl11 : Array (Option Value)} {oc11 kV11 dc11 pm11 cd11 ct11 : Value} {f12 : Addr} {od12 an12 : Option Addr} {sl12 : Array (Option Value)} {oc12 kV12 dc12 pm12 cd12 ct12 : Value} {f13 : Addr} {od13 an13 : Option Addr} {sl13 : Array (Option Value)} {oc13 kV13 dc13 pm13 cd13 ct13 : Value} {f14 : Addr} {od14 an14 : Option Addr} {sl14 : Array (Option Value)} {oc14 kV14 dc14 pm14 cd14 ct14 : Value} {f15 : Addr} {od15 an15 : Option Addr} {sl15 : Array (Option Value)} {oc15 kV15 dc15 pm15 cd15 ct15 : Value} {f16 : Addr} {od16 an16 : Option Addr} {sl16 : Array (Option Value)} {oc16 kV16 dc16 pm16 cd16 ct16 : Value} {f17 : Addr} {od17 an17 : Option Addr} {sl17 : Array (Option Value)} {oc17 kV17 dc17 pm17 cd17 ct17 : Value} {f18 : Addr} {od18 an18 : Option Addr} {sl18 : Array (Option Value)} {oc18 kV18 dc18 pm18 cd18 ct18 : Value} {f19 : Addr} {od19 an19 : Option Addr} {sl19 : Array (Option Value)} {oc19 kV19 dc19 pm19 cd19 ct19 : Value} {f20 : Addr} {od20 an20 : Option Addr} {sl20 : Array (Option Value)} {oc20 kV20 dc20 pm20 cd20 ct20 : Value} {f21 : Addr} {od21 an21 : Option Addr} {sl21 : Array (Option Value)} {oc21 kV21 dc21 pm21 cd21 ct21 : Value} {f22 : Addr} {od22 an22 : Option Addr} {sl22 : Array (Option Value)} {oc22 kV22 dc22 pm22 cd22 ct22 : Value} {f23 : Addr} {od23 an23 : Option Addr} {sl23 : Array (Option Value)} {oc23 kV23 dc23 pm23 cd23 ct23 : Value} {f24 : Addr} {od24 an24 : Option Addr} {sl24 : Array (Option Value)} {oc24 kV24 dc24 pm24 cd24 ct24 : Value} {f25 : Addr} {od25 an25 : Option Addr} {sl25 : Array (Option Value)} {oc25 kV25 dc25 pm25 cd25 ct25 : Value} {f26 : Addr} {od26 an26 : Option Addr} {sl26 : Array (Option Value)} {oc26 kV26 dc26 pm26 cd26 ct26 : Value} {f27 : Addr} {od27 an27 : Option Addr} {sl27 : Array (Option Value)} {oc27 kV27 dc27 pm27 cd27 ct27 : Value} {f28 : Addr} {od28 an28 : Option Addr} {sl28 : Array (Option Value)} {oc28 kV28 dc28 pm28 cd28 ct28 : Value} {f29 : Addr} {od29 an29 : Option Addr} {sl29 : Array (Option Value)} {oc29 kV29 dc29 pm29 cd29 ct29 : Value} {f30 : Addr} {od30 an30 : Option Addr} {sl30 : Array (Option Value)} {oc30 kV30 dc30 pm30 cd30 ct30 : Value} {t0 : Tok} {t1 : Tok} {t2 : Tok} {t3 : Tok}
    (aC : PySem.W.nsIn K mainGlobals "Lot" = some (some (.ref C)))
    (aC2 : PySem.W.nsIn K mainGlobals "Keeper" = some (some (.ref C2)))
    (aM0 : PySem.W.findIn K (.ref C) "__init__" = some (some (.ref fM0))) (iM0 : PySem.W.isFn K (.ref fM0) = true) (lM0 : K.lookup fM0 = some ⟨ocM0, odM0, .func (PySem.W.fnOf "__init__" "Lot.__init__" (defArgs sLot___init__) (defBody sLot___init__) (defScope sLot___init__) .none kVM0 dcM0 pmM0 anM0 cdM0 ctM0), slM0⟩) (cM0 : PySem.W.codeIn K cdM0 "Lot.__init__" = true) (kM0 : PySem.W.keepIn K (.ref fM0) = true)
    (aM1 : PySem.W.findIn K (.ref C) "__eq__" = some (some (.ref fM1))) (iM1 : PySem.W.isFn K (.ref fM1) = true) (lM1 : K.lookup fM1 = some ⟨ocM1, odM1, .func (PySem.W.fnOf "__eq__" "Lot.__eq__" (defArgs sLot___eq__) (defBody sLot___eq__) (defScope sLot___eq__) .none kVM1 dcM1 pmM1 anM1 cdM1 ctM1), slM1⟩) (cM1 : PySem.W.codeIn K cdM1 "Lot.__eq__" = true) (kM1 : PySem.W.keepIn K (.ref fM1) = true)
    (aM2 : PySem.W.findIn K (.ref C) "size" = some (some (.ref pM2))) (gM2 : PySem.W.specialIn K (.ref pM2) "__get__" = some (some (.builtin "property.__get__"))) (tM2 : PySem.W.takesIn K (.ref pM2) = some true) (rM2 : PySem.W.recIn K pM2 "property" = some (.ref fM2 :: rsM2)) (lM2 : K.lookup fM2 = some ⟨ocM2, odM2, .func (PySem.W.fnOf "size" "Lot.size" (defArgs sLot_size) (defBody sLot_size) (defScope sLot_size) .none kVM2 dcM2 pmM2 anM2 cdM2 ctM2), slM2⟩) (cM2 : PySem.W.codeIn K cdM2 "Lot.size" = true) (kM2 : PySem.W.keepIn K (.ref fM2) = true)
    (aM3 : PySem.W.findIn K (.ref C) "readings" = some (some (.ref fM3))) (iM3 : PySem.W.isFn K (.ref fM3) = true) (lM3 : K.lookup fM3 = some ⟨ocM3, odM3, .func (PySem.W.fnOf "readings" "Lot.readings" (defArgs sLot_readings) (defBody sLot_readings) (defScope sLot_readings) .none kVM3 dcM3 pmM3 anM3 cdM3 ctM3), slM3⟩) (cM3 : PySem.W.codeIn K cdM3 "Lot.readings" = true) (kM3 : PySem.W.keepIn K (.ref fM3) = true)
    (aM4 : PySem.W.findIn K (.ref C) "times_of" = some (some (.ref fM4))) (iM4 : PySem.W.isFn K (.ref fM4) = true) (lM4 : K.lookup fM4 = some ⟨ocM4, odM4, .func (PySem.W.fnOf "times_of" "Lot.times_of" (defArgs sLot_times_of) (defBody sLot_times_of) (defScope sLot_times_of) .none kVM4 dcM4 pmM4 anM4 cdM4 ctM4), slM4⟩) (cM4 : PySem.W.codeIn K cdM4 "Lot.times_of" = true) (kM4 : PySem.W.keepIn K (.ref fM4) = true)
    (aM5 : PySem.W.findIn K (.ref C) "pieces" = some (some (.ref fM5))) (iM5 : PySem.W.isFn K (.ref fM5) = true) (lM5 : K.lookup fM5 = some ⟨ocM5, odM5, .func (PySem.W.fnOf "pieces" "Lot.pieces" (defArgs sLot_pieces) (defBody sLot_pieces) (defScope sLot_pieces) .none kVM5 dcM5 pmM5 anM5 cdM5 ctM5), slM5⟩) (cM5 : PySem.W.codeIn K cdM5 "Lot.pieces" = true) (kM5 : PySem.W.keepIn K (.ref fM5) = true)
    (aM6 : PySem.W.findIn K (.ref C) "solid" = some (some (.ref fM6))) (iM6 : PySem.W.isFn K (.ref fM6) = true) (lM6 : K.lookup fM6 = some ⟨ocM6, odM6, .func (PySem.W.fnOf "solid" "Lot.solid" (defArgs sLot_solid) (defBody sLot_solid) (defScope sLot_solid) .none kVM6 dcM6 pmM6 anM6 cdM6 ctM6), slM6⟩) (cM6 : PySem.W.codeIn K cdM6 "Lot.solid" = true) (kM6 : PySem.W.keepIn K (.ref fM6) = true)
    (aM7 : PySem.W.findIn K (.ref C2) "__init__" = some (some (.ref fM7))) (iM7 : PySem.W.isFn K (.ref fM7) = true) (lM7 : K.lookup fM7 = some ⟨ocM7, odM7, .func (PySem.W.fnOf "__init__" "Keeper.__init__" (defArgs sKeeper___init__) (defBody sKeeper___init__) (defScope sKeeper___init__) .none kVM7 dcM7 pmM7 anM7 cdM7 ctM7), slM7⟩) (cM7 : PySem.W.codeIn K cdM7 "Keeper.__init__" = true) (kM7 : PySem.W.keepIn K (.ref fM7) = true)
    (aM8 : PySem.W.findIn K (.ref C2) "size" = some (some (.ref pM8))) (gM8 : PySem.W.specialIn K (.ref pM8) "__get__" = some (some (.builtin "property.__get__"))) (tM8 : PySem.W.takesIn K (.ref pM8) = some true) (rM8 : PySem.W.recIn K pM8 "property" = some (.ref fM8 :: rsM8)) (lM8 : K.lookup fM8 = some ⟨ocM8, odM8, .func (PySem.W.fnOf "size" "Keeper.size" (defArgs sKeeper_size) (defBody sKeeper_size) (defScope sKeeper_size) .none kVM8 dcM8 pmM8 anM8 cdM8 ctM8), slM8⟩) (cM8 : PySem.W.codeIn K cdM8 "Keeper.size" = true) (kM8 : PySem.W.keepIn K (.ref fM8) = true)
    (aM9 : PySem.W.findIn K (.ref C2) "least" = some (some (.ref fM9))) (iM9 : PySem.W.isFn K (.ref fM9) = true) (lM9 : K.lookup fM9 = some ⟨ocM9, odM9, .func (PySem.W.fnOf "least" "Keeper.least" (defArgs sKeeper_least) (defBody sKeeper_least) (defScope sKeeper_least) .none kVM9 dcM9 pmM9 anM9 cdM9 ctM9), slM9⟩) (cM9 : PySem.W.codeIn K cdM9 "Keeper.least" = true) (kM9 : PySem.W.keepIn K (.ref fM9) = true)
    (aM10 : PySem.W.findIn K (.ref C2) "_now" = some (some (.ref fM10))) (iM10 : PySem.W.isFn K (.ref fM10) = true) (lM10 : K.lookup fM10 = some ⟨ocM10, odM10, .func (PySem.W.fnOf "_now" "Keeper._now" (defArgs sKeeper__now) (defBody sKeeper__now) (defScope sKeeper__now) .none kVM10 dcM10 pmM10 anM10 cdM10 ctM10), slM10⟩) (cM10 : PySem.W.codeIn K cdM10 "Keeper._now" = true) (kM10 : PySem.W.keepIn K (.ref fM10) = true)
    (aM11 : PySem.W.findIn K (.ref C2) "_do" = some (some (.ref fM11))) (iM11 : PySem.W.isFn K (.ref fM11) = true) (lM11 : K.lookup fM11 = some ⟨ocM11, odM11, .func (PySem.W.fnOf "_do" "Keeper._do" (defArgs sKeeper__do) (defBody sKeeper__do) (defScope sKeeper__do) .none kVM11 dcM11 pmM11 anM11 cdM11 ctM11), slM11⟩) (cM11 : PySem.W.codeIn K cdM11 "Keeper._do" = true) (kM11 : PySem.W.keepIn K (.ref fM11) = true)
    (aM12 : PySem.W.findIn K (.ref C2) "added" = some (some (.ref fM12))) (iM12 : PySem.W.isFn K (.ref fM12) = true) (lM12 : K.lookup fM12 = some ⟨ocM12, odM12, .func (PySem.W.fnOf "added" "Keeper.added" (defArgs sKeeper_added) (defBody sKeeper_added) (defScope sKeeper_added) .none kVM12 dcM12 pmM12 anM12 cdM12 ctM12), slM12⟩) (cM12 : PySem.W.codeIn K cdM12 "Keeper.added" = true) (kM12 : PySem.W.keepIn K (.ref fM12) = true)
    (aM13 : PySem.W.findIn K (.ref C2) "taken" = some (some (.ref fM13))) (iM13 : PySem.W.isFn K (.ref fM13) = true) (lM13 : K.lookup fM13 = some ⟨ocM13, odM13, .func (PySem.W.fnOf "taken" "Keeper.taken" (defArgs sKeeper_taken) (defBody sKeeper_taken) (defScope sKeeper_taken) .none kVM13 dcM13 pmM13 anM13 cdM13 ctM13), slM13⟩) (cM13 : PySem.W.codeIn K cdM13 "Keeper.taken" = true) (kM13 : PySem.W.keepIn K (.ref fM13) = true)
    (aM14 : PySem.W.findIn K (.ref C2) "undone" = some (some (.ref fM14))) (iM14 : PySem.W.isFn K (.ref fM14) = true) (lM14 : K.lookup fM14 = some ⟨ocM14, odM14, .func (PySem.W.fnOf "undone" "Keeper.undone" (defArgs sKeeper_undone) (defBody sKeeper_undone) (defScope sKeeper_undone) .none kVM14 dcM14 pmM14 anM14 cdM14 ctM14), slM14⟩) (cM14 : PySem.W.codeIn K cdM14 "Keeper.undone" = true) (kM14 : PySem.W.keepIn K (.ref fM14) = true)
    (aM15 : PySem.W.findIn K (.ref C2) "redone" = some (some (.ref fM15))) (iM15 : PySem.W.isFn K (.ref fM15) = true) (lM15 : K.lookup fM15 = some ⟨ocM15, odM15, .func (PySem.W.fnOf "redone" "Keeper.redone" (defArgs sKeeper_redone) (defBody sKeeper_redone) (defScope sKeeper_redone) .none kVM15 dcM15 pmM15 anM15 cdM15 ctM15), slM15⟩) (cM15 : PySem.W.codeIn K cdM15 "Keeper.redone" = true) (kM15 : PySem.W.keepIn K (.ref fM15) = true)
    (aM16 : PySem.W.findIn K (.ref C2) "lot" = some (some (.ref fM16))) (iM16 : PySem.W.isFn K (.ref fM16) = true) (lM16 : K.lookup fM16 = some ⟨ocM16, odM16, .func (PySem.W.fnOf "lot" "Keeper.lot" (defArgs sKeeper_lot) (defBody sKeeper_lot) (defScope sKeeper_lot) .none kVM16 dcM16 pmM16 anM16 cdM16 ctM16), slM16⟩) (cM16 : PySem.W.codeIn K cdM16 "Keeper.lot" = true) (kM16 : PySem.W.keepIn K (.ref fM16) = true)
    (aM17 : PySem.W.findIn K (.ref C2) "solid" = some (some (.ref fM17))) (iM17 : PySem.W.isFn K (.ref fM17) = true) (lM17 : K.lookup fM17 = some ⟨ocM17, odM17, .func (PySem.W.fnOf "solid" "Keeper.solid" (defArgs sKeeper_solid) (defBody sKeeper_solid) (defScope sKeeper_solid) .none kVM17 dcM17 pmM17 anM17 cdM17 ctM17), slM17⟩) (cM17 : PySem.W.codeIn K cdM17 "Keeper.solid" = true) (kM17 : PySem.W.keepIn K (.ref fM17) = true)
    (aM18 : PySem.W.findIn K (.ref C2) "log" = some (some (.ref fM18))) (iM18 : PySem.W.isFn K (.ref fM18) = true) (lM18 : K.lookup fM18 = some ⟨ocM18, odM18, .func (PySem.W.fnOf "log" "Keeper.log" (defArgs sKeeper_log) (defBody sKeeper_log) (defScope sKeeper_log) .none kVM18 dcM18 pmM18 anM18 cdM18 ctM18), slM18⟩) (cM18 : PySem.W.codeIn K cdM18 "Keeper.log" = true) (kM18 : PySem.W.keepIn K (.ref fM18) = true)
    (aM19 : PySem.W.findIn K (.ref C2) "copy" = some (some (.ref fM19))) (iM19 : PySem.W.isFn K (.ref fM19) = true) (lM19 : K.lookup fM19 = some ⟨ocM19, odM19, .func (PySem.W.fnOf "copy" "Keeper.copy" (defArgs sKeeper_copy) (defBody sKeeper_copy) (defScope sKeeper_copy) .none kVM19 dcM19 pmM19 anM19 cdM19 ctM19), slM19⟩) (cM19 : PySem.W.codeIn K cdM19 "Keeper.copy" = true) (kM19 : PySem.W.keepIn K (.ref fM19) = true)
    (a0 : PySem.W.nsIn K mainGlobals "is_integer" = some (some (.ref f0))) (l0 : K.lookup f0 = some ⟨oc0, od0, .func (PySem.W.fnOf "is_integer" "is_integer" (defArgs sis_integer) (defBody sis_integer) (defScope sis_integer) .none kV0 dc0 pm0 an0 cd0 ct0), sl0⟩) (c0 : PySem.W.codeIn K cd0 "is_integer" = true) (k0 : PySem.W.keepIn K (.ref f0) = true)
    (a1 : PySem.W.nsIn K mainGlobals "is_count" = some (some (.ref f1))) (l1 : K.lookup f1 = some ⟨oc1, od1, .func (PySem.W.fnOf "is_count" "is_count" (defArgs sis_count) (defBody sis_count) (defScope sis_count) .none kV1 dc1 pm1 an1 cd1 ct1), sl1⟩) (c1 : PySem.W.codeIn K cd1 "is_count" = true) (k1 : PySem.W.keepIn K (.ref f1) = true)
    (a2 : PySem.W.nsIn K mainGlobals "is_between" = some (some (.ref f2))) (l2 : K.lookup f2 = some ⟨oc2, od2, .func (PySem.W.fnOf "is_between" "is_between" (defArgs sis_between) (defBody sis_between) (defScope sis_between) .none kV2 dc2 pm2 an2 cd2 ct2), sl2⟩) (c2 : PySem.W.codeIn K cd2 "is_between" = true) (k2 : PySem.W.keepIn K (.ref f2) = true)
    (a3 : PySem.W.nsIn K mainGlobals "is_size" = some (some (.ref f3))) (l3 : K.lookup f3 = some ⟨oc3, od3, .func (PySem.W.fnOf "is_size" "is_size" (defArgs sis_size) (defBody sis_size) (defScope sis_size) .none kV3 dc3 pm3 an3 cd3 ct3), sl3⟩) (c3 : PySem.W.codeIn K cd3 "is_size" = true) (k3 : PySem.W.keepIn K (.ref f3) = true)
    (a4 : PySem.W.nsIn K mainGlobals "is_listed" = some (some (.ref f4))) (l4 : K.lookup f4 = some ⟨oc4, od4, .func (PySem.W.fnOf "is_listed" "is_listed" (defArgs sis_listed) (defBody sis_listed) (defScope sis_listed) .none kV4 dc4 pm4 an4 cd4 ct4), sl4⟩) (c4 : PySem.W.codeIn K cd4 "is_listed" = true) (k4 : PySem.W.keepIn K (.ref f4) = true)
    (a5 : PySem.W.nsIn K mainGlobals "is_letter" = some (some (.ref f5))) (l5 : K.lookup f5 = some ⟨oc5, od5, .func (PySem.W.fnOf "is_letter" "is_letter" (defArgs sis_letter) (defBody sis_letter) (defScope sis_letter) .none kV5 dc5 pm5 an5 cd5 ct5), sl5⟩) (c5 : PySem.W.codeIn K cd5 "is_letter" = true) (k5 : PySem.W.keepIn K (.ref f5) = true)
    (a6 : PySem.W.nsIn K mainGlobals "need_size" = some (some (.ref f6))) (l6 : K.lookup f6 = some ⟨oc6, od6, .func (PySem.W.fnOf "need_size" "need_size" (defArgs sneed_size) (defBody sneed_size) (defScope sneed_size) .none kV6 dc6 pm6 an6 cd6 ct6), sl6⟩) (c6 : PySem.W.codeIn K cd6 "need_size" = true) (k6 : PySem.W.keepIn K (.ref f6) = true)
    (a7 : PySem.W.nsIn K mainGlobals "is_text" = some (some (.ref f7))) (l7 : K.lookup f7 = some ⟨oc7, od7, .func (PySem.W.fnOf "is_text" "is_text" (defArgs sis_text) (defBody sis_text) (defScope sis_text) .none kV7 dc7 pm7 an7 cd7 ct7), sl7⟩) (c7 : PySem.W.codeIn K cd7 "is_text" = true) (k7 : PySem.W.keepIn K (.ref f7) = true)
    (a8 : PySem.W.nsIn K mainGlobals "need_text" = some (some (.ref f8))) (l8 : K.lookup f8 = some ⟨oc8, od8, .func (PySem.W.fnOf "need_text" "need_text" (defArgs sneed_text) (defBody sneed_text) (defScope sneed_text) .none kV8 dc8 pm8 an8 cd8 ct8), sl8⟩) (c8 : PySem.W.codeIn K cd8 "need_text" = true) (k8 : PySem.W.keepIn K (.ref f8) = true)
    (a9 : PySem.W.nsIn K mainGlobals "pieces_along" = some (some (.ref f9))) (l9 : K.lookup f9 = some ⟨oc9, od9, .func (PySem.W.fnOf "pieces_along" "pieces_along" (defArgs spieces_along) (defBody spieces_along) (defScope spieces_along) .none kV9 dc9 pm9 an9 cd9 ct9), sl9⟩) (c9 : PySem.W.codeIn K cd9 "pieces_along" = true) (k9 : PySem.W.keepIn K (.ref f9) = true)
    (a10 : PySem.W.nsIn K mainGlobals "pieces_often" = some (some (.ref f10))) (l10 : K.lookup f10 = some ⟨oc10, od10, .func (PySem.W.fnOf "pieces_often" "pieces_often" (defArgs spieces_often) (defBody spieces_often) (defScope spieces_often) .none kV10 dc10 pm10 an10 cd10 ct10), sl10⟩) (c10 : PySem.W.codeIn K cd10 "pieces_often" = true) (k10 : PySem.W.keepIn K (.ref f10) = true)
    (a11 : PySem.W.nsIn K mainGlobals "is_times" = some (some (.ref f11))) (l11 : K.lookup f11 = some ⟨oc11, od11, .func (PySem.W.fnOf "is_times" "is_times" (defArgs sis_times) (defBody sis_times) (defScope sis_times) .none kV11 dc11 pm11 an11 cd11 ct11), sl11⟩) (c11 : PySem.W.codeIn K cd11 "is_times" = true) (k11 : PySem.W.keepIn K (.ref f11) = true)
    (a12 : PySem.W.nsIn K mainGlobals "are_readings" = some (some (.ref f12))) (l12 : K.lookup f12 = some ⟨oc12, od12, .func (PySem.W.fnOf "are_readings" "are_readings" (defArgs sare_readings) (defBody sare_readings) (defScope sare_readings) .none kV12 dc12 pm12 an12 cd12 ct12), sl12⟩) (c12 : PySem.W.codeIn K cd12 "are_readings" = true) (k12 : PySem.W.keepIn K (.ref f12) = true)
    (a13 : PySem.W.nsIn K mainGlobals "need_lot" = some (some (.ref f13))) (l13 : K.lookup f13 = some ⟨oc13, od13, .func (PySem.W.fnOf "need_lot" "need_lot" (defArgs sneed_lot) (defBody sneed_lot) (defScope sneed_lot) .none kV13 dc13 pm13 an13 cd13 ct13), sl13⟩) (c13 : PySem.W.codeIn K cd13 "need_lot" = true) (k13 : PySem.W.keepIn K (.ref f13) = true)
    (a14 : PySem.W.nsIn K mainGlobals "need_times" = some (some (.ref f14))) (l14 : K.lookup f14 = some ⟨oc14, od14, .func (PySem.W.fnOf "need_times" "need_times" (defArgs sneed_times) (defBody sneed_times) (defScope sneed_times) .none kV14 dc14 pm14 an14 cd14 ct14), sl14⟩) (c14 : PySem.W.codeIn K cd14 "need_times" = true) (k14 : PySem.W.keepIn K (.ref f14) = true)
    (a15 : PySem.W.nsIn K mainGlobals "_times_together" = some (some (.ref f15))) (l15 : K.lookup f15 = some ⟨oc15, od15, .func (PySem.W.fnOf "_times_together" "_times_together" (defArgs s_times_together) (defBody s_times_together) (defScope s_times_together) .none kV15 dc15 pm15 an15 cd15 ct15), sl15⟩) (c15 : PySem.W.codeIn K cd15 "_times_together" = true) (k15 : PySem.W.keepIn K (.ref f15) = true)
    (a16 : PySem.W.nsIn K mainGlobals "lot_told" = some (some (.ref f16))) (l16 : K.lookup f16 = some ⟨oc16, od16, .func (PySem.W.fnOf "lot_told" "lot_told" (defArgs slot_told) (defBody slot_told) (defScope slot_told) .none kV16 dc16 pm16 an16 cd16 ct16), sl16⟩) (c16 : PySem.W.codeIn K cd16 "lot_told" = true) (k16 : PySem.W.keepIn K (.ref f16) = true)
    (a17 : PySem.W.nsIn K mainGlobals "_lot_with" = some (some (.ref f17))) (l17 : K.lookup f17 = some ⟨oc17, od17, .func (PySem.W.fnOf "_lot_with" "_lot_with" (defArgs s_lot_with) (defBody s_lot_with) (defScope s_lot_with) .none kV17 dc17 pm17 an17 cd17 ct17), sl17⟩) (c17 : PySem.W.codeIn K cd17 "_lot_with" = true) (k17 : PySem.W.keepIn K (.ref f17) = true)
    (a18 : PySem.W.nsIn K mainGlobals "with_reading" = some (some (.ref f18))) (l18 : K.lookup f18 = some ⟨oc18, od18, .func (PySem.W.fnOf "with_reading" "with_reading" (defArgs swith_reading) (defBody swith_reading) (defScope swith_reading) .none kV18 dc18 pm18 an18 cd18 ct18), sl18⟩) (c18 : PySem.W.codeIn K cd18 "with_reading" = true) (k18 : PySem.W.keepIn K (.ref f18) = true)
    (a19 : PySem.W.nsIn K mainGlobals "without_reading" = some (some (.ref f19))) (l19 : K.lookup f19 = some ⟨oc19, od19, .func (PySem.W.fnOf "without_reading" "without_reading" (defArgs swithout_reading) (defBody swithout_reading) (defScope swithout_reading) .none kV19 dc19 pm19 an19 cd19 ct19), sl19⟩) (c19 : PySem.W.codeIn K cd19 "without_reading" = true) (k19 : PySem.W.keepIn K (.ref f19) = true)
    (a20 : PySem.W.nsIn K mainGlobals "_law_pot" = some (some (.ref f20))) (l20 : K.lookup f20 = some ⟨oc20, od20, .func (PySem.W.fnOf "_law_pot" "_law_pot" (defArgs s_law_pot) (defBody s_law_pot) (defScope s_law_pot) .none kV20 dc20 pm20 an20 cd20 ct20), sl20⟩) (c20 : PySem.W.codeIn K cd20 "_law_pot" = true) (k20 : PySem.W.keepIn K (.ref f20) = true)
    (a21 : PySem.W.nsIn K mainGlobals "_law_draw" = some (some (.ref f21))) (l21 : K.lookup f21 = some ⟨oc21, od21, .func (PySem.W.fnOf "_law_draw" "_law_draw" (defArgs s_law_draw) (defBody s_law_draw) (defScope s_law_draw) .none kV21 dc21 pm21 an21 cd21 ct21), sl21⟩) (c21 : PySem.W.codeIn K cd21 "_law_draw" = true) (k21 : PySem.W.keepIn K (.ref f21) = true)
    (a22 : PySem.W.nsIn K mainGlobals "_law_pick" = some (some (.ref f22))) (l22 : K.lookup f22 = some ⟨oc22, od22, .func (PySem.W.fnOf "_law_pick" "_law_pick" (defArgs s_law_pick) (defBody s_law_pick) (defScope s_law_pick) .none kV22 dc22 pm22 an22 cd22 ct22), sl22⟩) (c22 : PySem.W.codeIn K cd22 "_law_pick" = true) (k22 : PySem.W.keepIn K (.ref f22) = true)
    (a23 : PySem.W.nsIn K mainGlobals "_law_pieces" = some (some (.ref f23))) (l23 : K.lookup f23 = some ⟨oc23, od23, .func (PySem.W.fnOf "_law_pieces" "_law_pieces" (defArgs s_law_pieces) (defBody s_law_pieces) (defScope s_law_pieces) .none kV23 dc23 pm23 an23 cd23 ct23), sl23⟩) (c23 : PySem.W.codeIn K cd23 "_law_pieces" = true) (k23 : PySem.W.keepIn K (.ref f23) = true)
    (a24 : PySem.W.nsIn K mainGlobals "_law_solid" = some (some (.ref f24))) (l24 : K.lookup f24 = some ⟨oc24, od24, .func (PySem.W.fnOf "_law_solid" "_law_solid" (defArgs s_law_solid) (defBody s_law_solid) (defScope s_law_solid) .none kV24 dc24 pm24 an24 cd24 ct24), sl24⟩) (c24 : PySem.W.codeIn K cd24 "_law_solid" = true) (k24 : PySem.W.keepIn K (.ref f24) = true)
    (a25 : PySem.W.nsIn K mainGlobals "_law_text" = some (some (.ref f25))) (l25 : K.lookup f25 = some ⟨oc25, od25, .func (PySem.W.fnOf "_law_text" "_law_text" (defArgs s_law_text) (defBody s_law_text) (defScope s_law_text) .none kV25 dc25 pm25 an25 cd25 ct25), sl25⟩) (c25 : PySem.W.codeIn K cd25 "_law_text" = true) (k25 : PySem.W.keepIn K (.ref f25) = true)
    (a26 : PySem.W.nsIn K mainGlobals "_law_deed_right" = some (some (.ref f26))) (l26 : K.lookup f26 = some ⟨oc26, od26, .func (PySem.W.fnOf "_law_deed_right" "_law_deed_right" (defArgs s_law_deed_right) (defBody s_law_deed_right) (defScope s_law_deed_right) .none kV26 dc26 pm26 an26 cd26 ct26), sl26⟩) (c26 : PySem.W.codeIn K cd26 "_law_deed_right" = true) (k26 : PySem.W.keepIn K (.ref f26) = true)
    (a27 : PySem.W.nsIn K mainGlobals "_law_is_as" = some (some (.ref f27))) (l27 : K.lookup f27 = some ⟨oc27, od27, .func (PySem.W.fnOf "_law_is_as" "_law_is_as" (defArgs s_law_is_as) (defBody s_law_is_as) (defScope s_law_is_as) .none kV27 dc27 pm27 an27 cd27 ct27), sl27⟩) (c27 : PySem.W.codeIn K cd27 "_law_is_as" = true) (k27 : PySem.W.keepIn K (.ref f27) = true)
    (a28 : PySem.W.nsIn K mainGlobals "_law_anew" = some (some (.ref f28))) (l28 : K.lookup f28 = some ⟨oc28, od28, .func (PySem.W.fnOf "_law_anew" "_law_anew" (defArgs s_law_anew) (defBody s_law_anew) (defScope s_law_anew) .none kV28 dc28 pm28 an28 cd28 ct28), sl28⟩) (c28 : PySem.W.codeIn K cd28 "_law_anew" = true) (k28 : PySem.W.keepIn K (.ref f28) = true)
    (a29 : PySem.W.nsIn K mainGlobals "_law_right" = some (some (.ref f29))) (l29 : K.lookup f29 = some ⟨oc29, od29, .func (PySem.W.fnOf "_law_right" "_law_right" (defArgs s_law_right) (defBody s_law_right) (defScope s_law_right) .none kV29 dc29 pm29 an29 cd29 ct29), sl29⟩) (c29 : PySem.W.codeIn K cd29 "_law_right" = true) (k29 : PySem.W.keepIn K (.ref f29) = true)
    (a30 : PySem.W.nsIn K mainGlobals "law" = some (some (.ref f30))) (l30 : K.lookup f30 = some ⟨oc30, od30, .func (PySem.W.fnOf "law" "law" (defArgs slaw) (defBody slaw) (defScope slaw) .none kV30 dc30 pm30 an30 cd30 ct30), sl30⟩) (c30 : PySem.W.codeIn K cd30 "law" = true) (k30 : PySem.W.keepIn K (.ref f30) = true)
    (pgC : PySem.W.plainGet K C Str.empty = true) (hdC : PySem.W.hasDictIn K C = true) (poC : PySem.W.plainOver K C = true) (saC : PySem.W.findIn K (.ref C) "__setattr__" = some (some (.builtin "object.__setattr__"))) (mkC : PySem.W.makesIn K C = true) (kcC : PySem.W.keepIn K (.ref C) = true)
    (n0C : PySem.W.findIn K (.ref C) "_size" = some none)
    (n1C : PySem.W.findIn K (.ref C) "_told" = some none)
    (q1C : PySem.W.findIn K (.ref C) "__class__" = some (some (.builtin "object.__class__"))) (q2C : PySem.W.specialIn K (.builtin "object.__class__") "__get__" = some (some (.builtin "getset_descriptor.__get__"))) (q3C : PySem.W.takesIn K (.builtin "object.__class__") = some true) (q4C : PySem.W.mroIn K C (.type "object") = some true)
    (w1C : PySem.W.findIn K (.ref C) "__ne__" = some (some (.builtin "object.__ne__")))
    (w2C : PySem.W.notFirst K C (.type "dict") = true) (w3C : PySem.W.isClsIn K C = true) (w4C : PySem.W.typeIn K (.ref C) = some (.type "type")) (w5C : PySem.W.subIn K (.type "dict") (.ref C) = some false)
    (pgC2 : PySem.W.plainGet K C2 Str.empty = true) (hdC2 : PySem.W.hasDictIn K C2 = true) (poC2 : PySem.W.plainOver K C2 = true) (saC2 : PySem.W.findIn K (.ref C2) "__setattr__" = some (some (.builtin "object.__setattr__"))) (mkC2 : PySem.W.makesIn K C2 = true) (kcC2 : PySem.W.keepIn K (.ref C2) = true)
    (n0C2 : PySem.W.findIn K (.ref C2) "_size" = some none)
    (n1C2 : PySem.W.findIn K (.ref C2) "_least" = some none)
    (n2C2 : PySem.W.findIn K (.ref C2) "_lots" = some none)
    (n3C2 : PySem.W.findIn K (.ref C2) "_deeds" = some none)
    (n4C2 : PySem.W.findIn K (.ref C2) "_done" = some none)
    (n5C2 : PySem.W.findIn K (.ref C2) "_kept" = some none)
    (n6C2 : PySem.W.findIn K (.ref C2) "_reckoned" = some none)
    (q1C2 : PySem.W.findIn K (.ref C2) "__class__" = some (some (.builtin "object.__class__"))) (q2C2 : PySem.W.specialIn K (.builtin "object.__class__") "__get__" = some (some (.builtin "getset_descriptor.__get__"))) (q3C2 : PySem.W.takesIn K (.builtin "object.__class__") = some true) (q4C2 : PySem.W.mroIn K C2 (.type "object") = some true)
    (w1C2 : PySem.W.findIn K (.ref C2) "__ne__" = some (some (.builtin "object.__ne__")))
    (z0 : PySem.W.nsIn K mainGlobals "isinstance" = some none)
    (z1 : PySem.W.nsIn K mainGlobals "int" = some none)
    (z2 : PySem.W.nsIn K mainGlobals "bool" = some none)
    (z3 : PySem.W.nsIn K mainGlobals "str" = some none)
    (z4 : PySem.W.nsIn K mainGlobals "list" = some none)
    (z5 : PySem.W.nsIn K mainGlobals "tuple" = some none)
    (z6 : PySem.W.nsIn K mainGlobals "len" = some none)
    (z7 : PySem.W.nsIn K mainGlobals "range" = some none)
    (z8 : PySem.W.nsIn K mainGlobals "abs" = some none)
    (z9 : PySem.W.nsIn K mainGlobals "max" = some none)
    (z10 : PySem.W.nsIn K mainGlobals "min" = some none)
    (z11 : PySem.W.nsIn K mainGlobals "divmod" = some none)
    (z12 : PySem.W.nsIn K mainGlobals "sorted" = some none)
    (z13 : PySem.W.nsIn K mainGlobals "dict" = some none)
    (z14 : PySem.W.nsIn K mainGlobals "all" = some none)
    (y0 : PySem.W.nsIn K mainGlobals "MOST_READINGS" = some (some (.int 60 t0)))
    (y1 : PySem.W.nsIn K mainGlobals "MOST_TIMES" = some (some (.int 1200 t1)))
    (y2 : PySem.W.nsIn K mainGlobals "MOST_LETTERS" = some (some (.int 400 t2)))
    (y3 : PySem.W.nsIn K mainGlobals "MOST_LEAST" = some (some (.int 20 t3)))
    : ∃ fd : FuncData, (∀ (s : Shared) (v : Value), BindsTo s fd ⟨[v], []⟩ [("_law_script", v)]) ∧ ∀ base : Heap, K.In base → base.Ns mainGlobals mg → FnOk l.prog w K mg base CX0 14 fa fd ["_law_script"] (splaw K 0 0) := by
  have e := hfa.symm.trans (PySem.W.mg_of X G a30)
  cases e
  have B : Bs mg := ⟨PySem.W.mg_none_of X G z0, PySem.W.mg_none_of X G z1, PySem.W.mg_none_of X G z2, PySem.W.mg_none_of X G z3, PySem.W.mg_none_of X G z4, PySem.W.mg_none_of X G z5, PySem.W.mg_none_of X G z6, PySem.W.mg_none_of X G z7, PySem.W.mg_none_of X G z8, PySem.W.mg_none_of X G z9, PySem.W.mg_none_of X G z10, PySem.W.mg_none_of X G z11, PySem.W.mg_none_of X G z12, PySem.W.mg_none_of X G z13, PySem.W.mg_none_of X G z14⟩
  have Glb : Glo mg := ⟨⟨t0, PySem.W.mg_of X G y0⟩, ⟨t1, PySem.W.mg_of X G y1⟩, ⟨t2, PySem.W.mg_of X G y2⟩, ⟨t3, PySem.W.mg_of X G y3⟩⟩
  have WK : WebK K mg C := ⟨⟨pgC, hdC, poC, saC⟩, n0C, n1C, PySem.W.mg_of X G aC, q1C, q2C, q3C, q4C, (by unfold PySem.W.kitOne; exact if_pos (beq_self_eq_true _)), w1C, w2C, kit_no w3C w4C w5C⟩
  have PK : KeepK K mg C2 := ⟨⟨pgC2, hdC2, poC2, saC2⟩, n0C2, n1C2, n2C2, n3C2, n4C2, n5C2, n6C2, PySem.W.mg_of X G aC2, q1C2, q2C2, q3C2, q4C2, (by unfold PySem.W.kitOne; exact if_pos (beq_self_eq_true _)), w1C2⟩
  have DLot___init__ : DefI K C "__init__" "Lot.__init__" sLot___init__ ["self", "size", "readings"] := ⟨fM0, _, fun_mk (st := sLot___init__) lM0 cM0 kM0, ⟨mkC, aM0, iM0, kcC⟩, (fun_mk (st := sLot___init__) lM0 cM0 kM0).binds (ps := ["self", "size", "readings"]) fun _ _ _ _ _ _ us hl => match us, hl with | [_, _, _], _ => rfl⟩
  have DLot___eq__ : DefM K C "__eq__" "Lot.__eq__" sLot___eq__ ["self", "other"] := ⟨fM1, _, fun_mk (st := sLot___eq__) lM1 cM1 kM1, ⟨aM1, iM1, kM1⟩, (fun_mk (st := sLot___eq__) lM1 cM1 kM1).binds (ps := ["self", "other"]) fun _ _ _ _ _ _ us hl => match us, hl with | [_, _], _ => rfl⟩
  have DLot_size : DefP K C "size" "Lot.size" sLot_size ["self"] := ⟨pM2, fM2, _, fun_mk (st := sLot_size) lM2 cM2 kM2, ⟨aM2, gM2, tM2, _, rM2⟩, (fun_mk (st := sLot_size) lM2 cM2 kM2).binds (ps := ["self"]) fun _ _ _ _ _ _ us hl => match us, hl with | [_], _ => rfl⟩
  have DLot_readings : DefM K C "readings" "Lot.readings" sLot_readings ["self"] := ⟨fM3, _, fun_mk (st := sLot_readings) lM3 cM3 kM3, ⟨aM3, iM3, kM3⟩, (fun_mk (st := sLot_readings) lM3 cM3 kM3).binds (ps := ["self"]) fun _ _ _ _ _ _ us hl => match us, hl with | [_], _ => rfl⟩
  have DLot_times_of : DefM K C "times_of" "Lot.times_of" sLot_times_of ["self", "text"] := ⟨fM4, _, fun_mk (st := sLot_times_of) lM4 cM4 kM4, ⟨aM4, iM4, kM4⟩, (fun_mk (st := sLot_times_of) lM4 cM4 kM4).binds (ps := ["self", "text"]) fun _ _ _ _ _ _ us hl => match us, hl with | [_, _], _ => rfl⟩
  have DLot_pieces : DefM K C "pieces" "Lot.pieces" sLot_pieces ["self"] := ⟨fM5, _, fun_mk (st := sLot_pieces) lM5 cM5 kM5, ⟨aM5, iM5, kM5⟩, (fun_mk (st := sLot_pieces) lM5 cM5 kM5).binds (ps := ["self"]) fun _ _ _ _ _ _ us hl => match us, hl with | [_], _ => rfl⟩
  have DLot_solid : DefM K C "solid" "Lot.solid" sLot_solid ["self", "least"] := ⟨fM6, _, fun_mk (st := sLot_solid) lM6 cM6 kM6, ⟨aM6, iM6, kM6⟩, (fun_mk (st := sLot_solid) lM6 cM6 kM6).binds (ps := ["self", "least"]) fun _ _ _ _ _ _ us hl => match us, hl with | [_, _], _ => rfl⟩
  have DKeeper___init__ : DefI K C2 "__init__" "Keeper.__init__" sKeeper___init__ ["self", "size", "least"] := ⟨fM7, _, fun_mk (st := sKeeper___init__) lM7 cM7 kM7, ⟨mkC2, aM7, iM7, kcC2⟩, (fun_mk (st := sKeeper___init__) lM7 cM7 kM7).binds (ps := ["self", "size", "least"]) fun _ _ _ _ _ _ us hl => match us, hl with | [_, _, _], _ => rfl⟩
  have DKeeper_size : DefP K C2 "size" "Keeper.size" sKeeper_size ["self"] := ⟨pM8, fM8, _, fun_mk (st := sKeeper_size) lM8 cM8 kM8, ⟨aM8, gM8, tM8, _, rM8⟩, (fun_mk (st := sKeeper_size) lM8 cM8 kM8).binds (ps := ["self"]) fun _ _ _ _ _ _ us hl => match us, hl with | [_], _ => rfl⟩
  have DKeeper_least : DefM K C2 "least" "Keeper.least" sKeeper_least ["self"] := ⟨fM9, _, fun_mk (st := sKeeper_least) lM9 cM9 kM9, ⟨aM9, iM9, kM9⟩, (fun_mk (st := sKeeper_least) lM9 cM9 kM9).binds (ps := ["self"]) fun _ _ _ _ _ _ us hl => match us, hl with | [_], _ => rfl⟩
  have DKeeper__now : DefM K C2 "_now" "Keeper._now" sKeeper__now ["self"] := ⟨fM10, _, fun_mk (st := sKeeper__now) lM10 cM10 kM10, ⟨aM10, iM10, kM10⟩, (fun_mk (st := sKeeper__now) lM10 cM10 kM10).binds (ps := ["self"]) fun _ _ _ _ _ _ us hl => match us, hl with | [_], _ => rfl⟩
  have DKeeper__do : DefM K C2 "_do" "Keeper._do" sKeeper__do ["self", "deed", "lot"] := ⟨fM11, _, fun_mk (st := sKeeper__do) lM11 cM11 kM11, ⟨aM11, iM11, kM11⟩, (fun_mk (st := sKeeper__do) lM11 cM11 kM11).binds (ps := ["self", "deed", "lot"]) fun _ _ _ _ _ _ us hl => match us, hl with | [_, _, _], _ => rfl⟩
  have DKeeper_added : DefM K C2 "added" "Keeper.added" sKeeper_added ["self", "text", "times"] := ⟨fM12, _, fun_mk (st := sKeeper_added) lM12 cM12 kM12, ⟨aM12, iM12, kM12⟩, (fun_mk (st := sKeeper_added) lM12 cM12 kM12).binds (ps := ["self", "text", "times"]) fun _ _ _ _ _ _ us hl => match us, hl with | [_, _, _], _ => rfl⟩
  have DKeeper_taken : DefM K C2 "taken" "Keeper.taken" sKeeper_taken ["self", "text", "times"] := ⟨fM13, _, fun_mk (st := sKeeper_taken) lM13 cM13 kM13, ⟨aM13, iM13, kM13⟩, (fun_mk (st := sKeeper_taken) lM13 cM13 kM13).binds (ps := ["self", "text", "times"]) fun _ _ _ _ _ _ us hl => match us, hl with | [_, _, _], _ => rfl⟩
  have DKeeper_undone : DefM K C2 "undone" "Keeper.undone" sKeeper_undone ["self"] := ⟨fM14, _, fun_mk (st := sKeeper_undone) lM14 cM14 kM14, ⟨aM14, iM14, kM14⟩, (fun_mk (st := sKeeper_undone) lM14 cM14 kM14).binds (ps := ["self"]) fun _ _ _ _ _ _ us hl => match us, hl with | [_], _ => rfl⟩
  have DKeeper_redone : DefM K C2 "redone" "Keeper.redone" sKeeper_redone ["self"] := ⟨fM15, _, fun_mk (st := sKeeper_redone) lM15 cM15 kM15, ⟨aM15, iM15, kM15⟩, (fun_mk (st := sKeeper_redone) lM15 cM15 kM15).binds (ps := ["self"]) fun _ _ _ _ _ _ us hl => match us, hl with | [_], _ => rfl⟩
  have DKeeper_lot : DefM K C2 "lot" "Keeper.lot" sKeeper_lot ["self"] := ⟨fM16, _, fun_mk (st := sKeeper_lot) lM16 cM16 kM16, ⟨aM16, iM16, kM16⟩, (fun_mk (st := sKeeper_lot) lM16 cM16 kM16).binds (ps := ["self"]) fun _ _ _ _ _ _ us hl => match us, hl with | [_], _ => rfl⟩
  have DKeeper_solid : DefM K C2 "solid" "Keeper.solid" sKeeper_solid ["self"] := ⟨fM17, _, fun_mk (st := sKeeper_solid) lM17 cM17 kM17, ⟨aM17, iM17, kM17⟩, (fun_mk (st := sKeeper_solid) lM17 cM17 kM17).binds (ps := ["self"]) fun _ _ _ _ _ _ us hl => match us, hl with | [_], _ => rfl⟩
  have DKeeper_log : DefM K C2 "log" "Keeper.log" sKeeper_log ["self"] := ⟨fM18, _, fun_mk (st := sKeeper_log) lM18 cM18 kM18, ⟨aM18, iM18, kM18⟩, (fun_mk (st := sKeeper_log) lM18 cM18 kM18).binds (ps := ["self"]) fun _ _ _ _ _ _ us hl => match us, hl with | [_], _ => rfl⟩
  have DKeeper_copy : DefM K C2 "copy" "Keeper.copy" sKeeper_copy ["self"] := ⟨fM19, _, fun_mk (st := sKeeper_copy) lM19 cM19 kM19, ⟨aM19, iM19, kM19⟩, (fun_mk (st := sKeeper_copy) lM19 cM19 kM19).binds (ps := ["self"]) fun _ _ _ _ _ _ us hl => match us, hl with | [_], _ => rfl⟩
  have Dis_integer : Def K mg "is_integer" sis_integer ["value"] := def_mk X G a0 l0 c0 k0 fun _ _ _ _ _ _ us hl => match us, hl with | [_], _ => rfl
  have Dis_count : Def K mg "is_count" sis_count ["value"] := def_mk X G a1 l1 c1 k1 fun _ _ _ _ _ _ us hl => match us, hl with | [_], _ => rfl
  have Dis_between : Def K mg "is_between" sis_between ["value", "least", "most"] := def_mk X G a2 l2 c2 k2 fun _ _ _ _ _ _ us hl => match us, hl with | [_, _, _], _ => rfl
  have Dis_size : Def K mg "is_size" sis_size ["value"] := def_mk X G a3 l3 c3 k3 fun _ _ _ _ _ _ us hl => match us, hl with | [_], _ => rfl
  have Dis_listed : Def K mg "is_listed" sis_listed ["value"] := def_mk X G a4 l4 c4 k4 fun _ _ _ _ _ _ us hl => match us, hl with | [_], _ => rfl
  have Dis_letter : Def K mg "is_letter" sis_letter ["sign"] := def_mk X G a5 l5 c5 k5 fun _ _ _ _ _ _ us hl => match us, hl with | [_], _ => rfl
  have Dneed_size : Def K mg "need_size" sneed_size ["size"] := def_mk X G a6 l6 c6 k6 fun _ _ _ _ _ _ us hl => match us, hl with | [_], _ => rfl
  have Dis_text : Def K mg "is_text" sis_text ["value"] := def_mk X G a7 l7 c7 k7 fun _ _ _ _ _ _ us hl => match us, hl with | [_], _ => rfl
  have Dneed_text : Def K mg "need_text" sneed_text ["text"] := def_mk X G a8 l8 c8 k8 fun _ _ _ _ _ _ us hl => match us, hl with | [_], _ => rfl
  have Dpieces_along : Def K mg "pieces_along" spieces_along ["text", "size"] := def_mk X G a9 l9 c9 k9 fun _ _ _ _ _ _ us hl => match us, hl with | [_, _], _ => rfl
  have Dpieces_often : Def K mg "pieces_often" spieces_often ["readings", "size"] := def_mk X G a10 l10 c10 k10 fun _ _ _ _ _ _ us hl => match us, hl with | [_, _], _ => rfl
  have Dis_times : Def K mg "is_times" sis_times ["value"] := def_mk X G a11 l11 c11 k11 fun _ _ _ _ _ _ us hl => match us, hl with | [_], _ => rfl
  have Dare_readings : Def K mg "are_readings" sare_readings ["value"] := def_mk X G a12 l12 c12 k12 fun _ _ _ _ _ _ us hl => match us, hl with | [_], _ => rfl
  have Dneed_lot : Def K mg "need_lot" sneed_lot ["lot"] := def_mk X G a13 l13 c13 k13 fun _ _ _ _ _ _ us hl => match us, hl with | [_], _ => rfl
  have Dneed_times : Def K mg "need_times" sneed_times ["times"] := def_mk X G a14 l14 c14 k14 fun _ _ _ _ _ _ us hl => match us, hl with | [_], _ => rfl
  have D_times_together : Def K mg "_times_together" s_times_together ["readings"] := def_mk X G a15 l15 c15 k15 fun _ _ _ _ _ _ us hl => match us, hl with | [_], _ => rfl
  have Dlot_told : Def K mg "lot_told" slot_told ["size", "told"] := def_mk X G a16 l16 c16 k16 fun _ _ _ _ _ _ us hl => match us, hl with | [_, _], _ => rfl
  have D_lot_with : Def K mg "_lot_with" s_lot_with ["lot", "readings"] := def_mk X G a17 l17 c17 k17 fun _ _ _ _ _ _ us hl => match us, hl with | [_, _], _ => rfl
  have Dwith_reading : Def K mg "with_reading" swith_reading ["lot", "text", "times"] := def_mk X G a18 l18 c18 k18 fun _ _ _ _ _ _ us hl => match us, hl with | [_, _, _], _ => rfl
  have Dwithout_reading : Def K mg "without_reading" swithout_reading ["lot", "text", "times"] := def_mk X G a19 l19 c19 k19 fun _ _ _ _ _ _ us hl => match us, hl with | [_, _, _], _ => rfl
  have D_law_pot : Def K mg "_law_pot" s_law_pot ["_law_script", "_law_k"] := def_mk X G a20 l20 c20 k20 fun _ _ _ _ _ _ us hl => match us, hl with | [_, _], _ => rfl
  have D_law_draw : Def K mg "_law_draw" s_law_draw ["_law_pot_here", "_law_size"] := def_mk X G a21 l21 c21 k21 fun _ _ _ _ _ _ us hl => match us, hl with | [_, _], _ => rfl
  have D_law_pick : Def K mg "_law_pick" s_law_pick ["_law_pot_here", "_law_some"] := def_mk X G a22 l22 c22 k22 fun _ _ _ _ _ _ us hl => match us, hl with | [_, _], _ => rfl
  have D_law_pieces : Def K mg "_law_pieces" s_law_pieces ["_law_size", "_law_texts"] := def_mk X G a23 l23 c23 k23 fun _ _ _ _ _ _ us hl => match us, hl with | [_, _], _ => rfl
  have D_law_solid : Def K mg "_law_solid" s_law_solid ["_law_size", "_law_least", "_law_texts"] := def_mk X G a24 l24 c24 k24 fun _ _ _ _ _ _ us hl => match us, hl with | [_, _, _], _ => rfl
  have D_law_text : Def K mg "_law_text" s_law_text ["_law_pot_here"] := def_mk X G a25 l25 c25 k25 fun _ _ _ _ _ _ us hl => match us, hl with | [_], _ => rfl
  have D_law_deed_right : Def K mg "_law_deed_right" s_law_deed_right ["_law_pot_here", "_law_keeper", "_law_own"] := def_mk X G a26 l26 c26 k26 fun _ _ _ _ _ _ us hl => match us, hl with | [_, _, _], _ => rfl
  have D_law_is_as : Def K mg "_law_is_as" s_law_is_as ["_law_keeper", "_law_own", "_law_size", "_law_least"] := def_mk X G a27 l27 c27 k27 fun _ _ _ _ _ _ us hl => match us, hl with | [_, _, _, _], _ => rfl
  have D_law_anew : Def K mg "_law_anew" s_law_anew ["_law_size", "_law_least", "_law_log"] := def_mk X G a28 l28 c28 k28 fun _ _ _ _ _ _ us hl => match us, hl with | [_, _, _], _ => rfl
  have D_law_right : Def K mg "_law_right" s_law_right ["_law_pot_here"] := def_mk X G a29 l29 c29 k29 fun _ _ _ _ _ _ us hl => match us, hl with | [_], _ => rfl
  have Dlaw : Def K mg "law" slaw ["_law_script"] := def_mk X G a30 l30 c30 k30 fun _ _ _ _ _ _ us hl => match us, hl with | [_], _ => rfl
  refine ⟨PySem.W.fnOf "law" "law" (defArgs slaw) (defBody slaw) (defScope slaw) .none kV30 dc30 pm30 an30 cd30 ct30, fun s v => .of_eq rfl, fun base _ _ => ?_⟩
  have His_integer := okis_integer (P := l.prog) (w := w) (base := base) Dis_integer B Glb WK PK
  have His_between := okis_between (P := l.prog) (w := w) (base := base) Dis_between B Glb WK PK His_integer
  have His_size := okis_size (P := l.prog) (w := w) (base := base) Dis_size B Glb WK PK His_between
  have Hneed_size := okneed_size (P := l.prog) (w := w) (base := base) Dneed_size B Glb WK PK His_size
  have His_listed := okis_listed (P := l.prog) (w := w) (base := base) Dis_listed B Glb WK PK
  have His_letter := okis_letter (P := l.prog) (w := w) (base := base) Dis_letter B Glb WK PK
  have His_text := okis_text (P := l.prog) (w := w) (base := base) Dis_text B Glb WK PK His_letter
  have His_times := okis_times (P := l.prog) (w := w) (base := base) Dis_times B Glb WK PK His_between
  have Hare_readings := okare_readings (P := l.prog) (w := w) (base := base) Dare_readings B Glb WK PK His_listed His_text His_times
  have H_times_together := ok_times_together (P := l.prog) (w := w) (base := base) D_times_together B Glb WK PK
  have HLot___init__ := okLot___init__ (P := l.prog) (w := w) (base := base) DLot___init__ B Glb WK PK Hneed_size Hare_readings H_times_together
  have HKeeper___init__ := okKeeper___init__ (P := l.prog) (w := w) (base := base) DKeeper___init__ B Glb WK PK Hneed_size His_between HLot___init__
  have Hneed_lot := okneed_lot (P := l.prog) (w := w) (base := base) Dneed_lot B Glb WK PK
  have Hneed_text := okneed_text (P := l.prog) (w := w) (base := base) Dneed_text B Glb WK PK His_text
  have Hneed_times := okneed_times (P := l.prog) (w := w) (base := base) Dneed_times B Glb WK PK His_times
  have Hlot_told := oklot_told (P := l.prog) (w := w) (base := base) Dlot_told B Glb WK PK HLot___init__
  have HLot_size := okLot_size (P := l.prog) (w := w) (base := base) DLot_size B Glb WK PK
  have HLot_readings := okLot_readings (P := l.prog) (w := w) (base := base) DLot_readings B Glb WK PK
  have H_lot_with := ok_lot_with (P := l.prog) (w := w) (base := base) D_lot_with B Glb WK PK H_times_together Hlot_told HLot_size HLot_readings
  have Hwith_reading := okwith_reading (P := l.prog) (w := w) (base := base) Dwith_reading B Glb WK PK Hneed_lot Hneed_text Hneed_times H_lot_with
  have HKeeper__do := okKeeper__do (P := l.prog) (w := w) (base := base) DKeeper__do B Glb WK PK
  have HKeeper__now := okKeeper__now (P := l.prog) (w := w) (base := base) DKeeper__now B Glb WK PK
  have HKeeper_added := okKeeper_added (P := l.prog) (w := w) (base := base) DKeeper_added B Glb WK PK Hwith_reading HKeeper__do HKeeper__now
  have HLot_times_of := okLot_times_of (P := l.prog) (w := w) (base := base) DLot_times_of B Glb WK PK Hneed_text
  have Hwithout_reading := okwithout_reading (P := l.prog) (w := w) (base := base) Dwithout_reading B Glb WK PK Hneed_lot Hneed_text Hneed_times Hlot_told HLot_times_of HLot_size HLot_readings
  have HKeeper_taken := okKeeper_taken (P := l.prog) (w := w) (base := base) DKeeper_taken B Glb WK PK Hwithout_reading HKeeper__do HKeeper__now
  have H_law_anew := ok_law_anew (P := l.prog) (w := w) (base := base) D_law_anew B Glb WK PK HKeeper___init__ HKeeper_added HKeeper_taken
  have H_law_draw := ok_law_draw (P := l.prog) (w := w) (base := base) D_law_draw B Glb WK PK
  have H_law_pick := ok_law_pick (P := l.prog) (w := w) (base := base) D_law_pick B Glb WK PK H_law_draw
  have H_law_pieces := ok_law_pieces (P := l.prog) (w := w) (base := base) D_law_pieces B Glb WK PK
  have H_law_solid := ok_law_solid (P := l.prog) (w := w) (base := base) D_law_solid B Glb WK PK H_law_pieces
  have HLot___eq__ := okLot___eq__ (P := l.prog) (w := w) (base := base) DLot___eq__ B Glb WK PK
  have HKeeper_log := okKeeper_log (P := l.prog) (w := w) (base := base) DKeeper_log B Glb WK PK
  have HKeeper_lot := okKeeper_lot (P := l.prog) (w := w) (base := base) DKeeper_lot B Glb WK PK HKeeper__now
  have His_count := okis_count (P := l.prog) (w := w) (base := base) Dis_count B Glb WK PK His_integer
  have Hpieces_along := okpieces_along (P := l.prog) (w := w) (base := base) Dpieces_along B Glb WK PK
  have Hpieces_often := okpieces_often (P := l.prog) (w := w) (base := base) Dpieces_often B Glb WK PK Hpieces_along
  have HLot_pieces := okLot_pieces (P := l.prog) (w := w) (base := base) DLot_pieces B Glb WK PK Hpieces_often
  have HLot_solid := okLot_solid (P := l.prog) (w := w) (base := base) DLot_solid B Glb WK PK His_count HLot_pieces
  have HKeeper_solid := okKeeper_solid (P := l.prog) (w := w) (base := base) DKeeper_solid B Glb WK PK HLot_solid HKeeper__now
  have H_law_is_as := ok_law_is_as (P := l.prog) (w := w) (base := base) D_law_is_as B Glb WK PK H_law_solid HLot___eq__ HLot___init__ HKeeper_log HKeeper_lot HLot_readings HKeeper_solid
  have H_law_text := ok_law_text (P := l.prog) (w := w) (base := base) D_law_text B Glb WK PK H_law_pick H_law_draw
  have HKeeper_redone := okKeeper_redone (P := l.prog) (w := w) (base := base) DKeeper_redone B Glb WK PK
  have HKeeper_undone := okKeeper_undone (P := l.prog) (w := w) (base := base) DKeeper_undone B Glb WK PK
  have H_law_deed_right := ok_law_deed_right (P := l.prog) (w := w) (base := base) D_law_deed_right B Glb WK PK H_law_draw H_law_text H_law_pick HKeeper_redone HKeeper_added HKeeper_taken HKeeper_undone
  have HKeeper_size := okKeeper_size (P := l.prog) (w := w) (base := base) DKeeper_size B Glb WK PK
  have HKeeper_least := okKeeper_least (P := l.prog) (w := w) (base := base) DKeeper_least B Glb WK PK
  have HKeeper_copy := okKeeper_copy (P := l.prog) (w := w) (base := base) DKeeper_copy B Glb WK PK HKeeper___init__
  have H_law_right := ok_law_right (P := l.prog) (w := w) (base := base) D_law_right B Glb WK PK H_law_anew H_law_pick H_law_draw H_law_is_as H_law_deed_right HLot___eq__ HKeeper___init__ HKeeper_size HKeeper_added HKeeper_lot HKeeper_solid HKeeper_log HKeeper_least HKeeper_copy
  have H_law_pot := ok_law_pot (P := l.prog) (w := w) (base := base) D_law_pot B Glb WK PK
  have Hlaw := oklaw (P := l.prog) (w := w) (base := base) Dlaw B Glb WK PK H_law_right H_law_pot
  obtain ⟨f, fd, O, m, k, b, F⟩ := Hlaw
  have e2 := m.symm.trans hfa
  cases e2
  rw [fd_is F l30] at O
  exact O
theorem walk {l : PySem.W.OpenLaw} {q : Program} {loose : List Str} {XP : (Str → Option Value) → Heap → Prop} {YP : World → Heap → Prop} {d : DefRec} {K : Params → PySem.W.Frag} (hn : l.most = some 63) (hdf : d.params.defaults = [])
    (hY : ∀ (w : World) (h : Heap), YP w h → (K w.params).In h)
    (F : ∀ (w : World) (mg : Str → Option Value) (fa : Addr) (h : Heap), (K w.params).In h → h.Ns mainGlobals mg → mg d.name = some (.ref fa) →
      ∃ fd : FuncData, (∀ (s : Shared) (u : Value), BindsTo s fd ⟨[u], []⟩ [("_law_script", u)]) ∧ ∀ base : Heap, (K w.params).In base → base.Ns mainGlobals mg → FnOk l.prog w (K w.params) mg base CX0 14 fa fd ["_law_script"] (splaw (K w.params) 0 0)) :
    PySem.W.WalkO q loose XP YP l.row.toRowW d [] (fun f vs => PySem.call f vs) :=
  L2.walk_of (n := 63) (k := 14) (x := "_law_script") (CX := fun _ => CX0) (sp := fun w => splaw (K w.params) 0 0) hn (by decide) hdf ⟨rfl, by decide, by decide⟩ hY F (fun _ _ a ns hl _ hS => ⟨a, ns, rfl, hS, hl, fun _ => rfl⟩) fun _ _ _ _ _ z => z
noncomputable def fragK : PySem.Params → PySem.W.Frag := fun P =>
   (nat_lit 2, ⟨.none, none, (.dict [⟨PyData.keyHash P (PySem.Str.ofString "type.__subclasses__.ArithmeticError.0"), (.str (PySem.Str.ofString "type.__subclasses__.ArithmeticError.0") 721), (.int (415) 0)⟩, ⟨PyData.keyHash P (PySem.Str.ofString "type.__subclasses__.ArithmeticError.n"), (.str (PySem.Str.ofString "type.__subclasses__.ArithmeticError.n") 722), (.int (1) 0)⟩].toArray 2), [].toArray⟩) ::
   (nat_lit 3, ⟨(.type "dict"), none, (.dict [⟨PyData.keyHash P (PySem.Str.ofString "__name__"), (.str (PySem.Str.ofString "__name__") 165), (.str (PySem.Str.ofString "law_suretexts_k81_whole_deeds_undone_and_red") 1684)⟩, ⟨PyData.keyHash P (PySem.Str.ofString "__doc__"), (.str (PySem.Str.ofString "__doc__") 166), .none⟩, ⟨PyData.keyHash P (PySem.Str.ofString "__package__"), (.str (PySem.Str.ofString "__package__") 167), .none⟩, ⟨PyData.keyHash P (PySem.Str.ofString "__loader__"), (.str (PySem.Str.ofString "__loader__") 168), (.builtin "__main__.__loader__#opaque")⟩, ⟨PyData.keyHash P (PySem.Str.ofString "__spec__"), (.str (PySem.Str.ofString "__spec__") 169), .none⟩, ⟨PyData.keyHash P (PySem.Str.ofString "__annotations__"), (.str (PySem.Str.ofString "__annotations__") 170), (.ref 6)⟩, ⟨PyData.keyHash P (PySem.Str.ofString "__builtins__"), (.str (PySem.Str.ofString "__builtins__") 171), (.ref 4)⟩, ⟨PyData.keyHash P (PySem.Str.ofString "__file__"), (.str (PySem.Str.ofString "__file__") 173), (.str (PySem.Str.ofString "/claim/cut.py") 172)⟩, ⟨PyData.keyHash P (PySem.Str.ofString "__cached__"), (.str (PySem.Str.ofString "__cached__") 174), .none⟩, ⟨PyData.keyHash P (PySem.Str.ofString "_wall"), (.str (PySem.Str.ofString "_wall") 193), (.ref 21)⟩, ⟨PyData.keyHash P (PySem.Str.ofString "PieceError"), (.str (PySem.Str.ofString "PieceError") 213), (.ref 31)⟩, ⟨PyData.keyHash P (PySem.Str.ofString "InvalidText"), (.str (PySem.Str.ofString "InvalidText") 238), (.ref 51)⟩, ⟨PyData.keyHash P (PySem.Str.ofString "InvalidRing"), (.str (PySem.Str.ofString "InvalidRing") 263), (.ref 70)⟩, ⟨PyData.keyHash P (PySem.Str.ofString "InvalidSize"), (.str (PySem.Str.ofString "InvalidSize") 288), (.ref 89)⟩, ⟨PyData.keyHash P (PySem.Str.ofString "InvalidLot"), (.str (PySem.Str.ofString "InvalidLot") 313), (.ref 108)⟩, ⟨PyData.keyHash P (PySem.Str.ofString "InvalidPieces"), (.str (PySem.Str.ofString "InvalidPieces") 338), (.ref 127)⟩, ⟨PyData.keyHash P (PySem.Str.ofString "InvalidWeb"), (.str (PySem.Str.ofString "InvalidWeb") 363), (.ref 146)⟩, ⟨PyData.keyHash P (PySem.Str.ofString "InvalidPlace"), (.str (PySem.Str.ofString "InvalidPlace") 388), (.ref 165)⟩, ⟨PyData.keyHash P (PySem.Str.ofString "InvalidLeast"), (.str (PySem.Str.ofString "InvalidLeast") 413), (.ref 184)⟩, ⟨PyData.keyHash P (PySem.Str.ofString "InvalidPart"), (.str (PySem.Str.ofString "InvalidPart") 438), (.ref 203)⟩, ⟨PyData.keyHash P (PySem.Str.ofString "InvalidPlaces"), (.str (PySem.Str.ofString "InvalidPlaces") 463), (.ref 222)⟩, ⟨PyData.keyHash P (PySem.Str.ofString "InvalidReadings"), (.str (PySem.Str.ofString "InvalidReadings") 488), (.ref 241)⟩, ⟨PyData.keyHash P (PySem.Str.ofString "InvalidTies"), (.str (PySem.Str.ofString "InvalidTies") 513), (.ref 260)⟩, ⟨PyData.keyHash P (PySem.Str.ofString "InvalidTimes"), (.str (PySem.Str.ofString "InvalidTimes") 538), (.ref 279)⟩, ⟨PyData.keyHash P (PySem.Str.ofString "InvalidWithout"), (.str (PySem.Str.ofString "InvalidWithout") 563), (.ref 298)⟩, ⟨PyData.keyHash P (PySem.Str.ofString "MissingError"), (.str (PySem.Str.ofString "MissingError") 581), (.ref 310)⟩, ⟨PyData.keyHash P (PySem.Str.ofString "NotRead"), (.str (PySem.Str.ofString "NotRead") 606), (.ref 330)⟩, ⟨PyData.keyHash P (PySem.Str.ofString "StateError"), (.str (PySem.Str.ofString "StateError") 624), (.ref 342)⟩, ⟨PyData.keyHash P (PySem.Str.ofString "NotClose"), (.str (PySem.Str.ofString "NotClose") 640), (.ref 355)⟩, ⟨PyData.keyHash P (PySem.Str.ofString "EndlessWalks"), (.str (PySem.Str.ofString "EndlessWalks") 656), (.ref 367)⟩, ⟨PyData.keyHash P (PySem.Str.ofString "FewTimes"), (.str (PySem.Str.ofString "FewTimes") 672), (.ref 379)⟩, ⟨PyData.keyHash P (PySem.Str.ofString "NothingToRedo"), (.str (PySem.Str.ofString "NothingToRedo") 688), (.ref 391)⟩, ⟨PyData.keyHash P (PySem.Str.ofString "NothingToUndo"), (.str (PySem.Str.ofString "NothingToUndo") 704), (.ref 403)⟩, ⟨PyData.keyHash P (PySem.Str.ofString "LimitError"), (.str (PySem.Str.ofString "LimitError") 724), (.ref 415)⟩, ⟨PyData.keyHash P (PySem.Str.ofString "TooMany"), (.str (PySem.Str.ofString "TooMany") 751), (.ref 435)⟩, ⟨PyData.keyHash P (PySem.Str.ofString "is_integer"), (.str (PySem.Str.ofString "is_integer") 760), (.ref 444)⟩, ⟨PyData.keyHash P (PySem.Str.ofString "is_count"), (.str (PySem.Str.ofString "is_count") 767), (.ref 451)⟩, ⟨PyData.keyHash P (PySem.Str.ofString "is_between"), (.str (PySem.Str.ofString "is_between") 776), (.ref 458)⟩, ⟨PyData.keyHash P (PySem.Str.ofString "is_below"), (.str (PySem.Str.ofString "is_below") 784), (.ref 465)⟩, ⟨PyData.keyHash P (PySem.Str.ofString "is_size"), (.str (PySem.Str.ofString "is_size") 791), (.ref 472)⟩, ⟨PyData.keyHash P (PySem.Str.ofString "is_listed"), (.str (PySem.Str.ofString "is_listed") 798), (.ref 479)⟩, ⟨PyData.keyHash P (PySem.Str.ofString "is_letter"), (.str (PySem.Str.ofString "is_letter") 805), (.ref 486)⟩, ⟨PyData.keyHash P (PySem.Str.ofString "need_size"), (.str (PySem.Str.ofString "need_size") 812), (.ref 493)⟩, ⟨PyData.keyHash P (PySem.Str.ofString "parts_in_turn"), (.str (PySem.Str.ofString "parts_in_turn") 820), (.ref 498)⟩, ⟨PyData.keyHash P (PySem.Str.ofString "_left_from"), (.str (PySem.Str.ofString "_left_from") 834), (.ref 505)⟩, ⟨PyData.keyHash P (PySem.Str.ofString "least_start"), (.str (PySem.Str.ofString "least_start") 849), (.ref 512)⟩, ⟨PyData.keyHash P (PySem.Str.ofString "MOST_PLACES"), (.str (PySem.Str.ofString "MOST_PLACES") 853), (.int (60) 852)⟩, ⟨PyData.keyHash P (PySem.Str.ofString "MOST_TIES"), (.str (PySem.Str.ofString "MOST_TIES") 855), (.int (80) 854)⟩, ⟨PyData.keyHash P (PySem.Str.ofString "LONGEST_WALK"), (.str (PySem.Str.ofString "LONGEST_WALK") 857), (.int (400) 856)⟩, ⟨PyData.keyHash P (PySem.Str.ofString "are_ties"), (.str (PySem.Str.ofString "are_ties") 866), (.ref 519)⟩, ⟨PyData.keyHash P (PySem.Str.ofString "Web"), (.str (PySem.Str.ofString "Web") 944), (.ref 578)⟩, ⟨PyData.keyHash P (PySem.Str.ofString "need_web"), (.str (PySem.Str.ofString "need_web") 951), (.ref 589)⟩, ⟨PyData.keyHash P (PySem.Str.ofString "need_place"), (.str (PySem.Str.ofString "need_place") 959), (.ref 596)⟩, ⟨PyData.keyHash P (PySem.Str.ofString "are_numbers"), (.str (PySem.Str.ofString "are_numbers") 968), (.ref 603)⟩, ⟨PyData.keyHash P (PySem.Str.ofString "copied_web"), (.str (PySem.Str.ofString "copied_web") 975), (.ref 610)⟩, ⟨PyData.keyHash P (PySem.Str.ofString "web_steps"), (.str (PySem.Str.ofString "web_steps") 981), (.ref 615)⟩, ⟨PyData.keyHash P (PySem.Str.ofString "_need_without"), (.str (PySem.Str.ofString "_need_without") 991), (.ref 622)⟩, ⟨PyData.keyHash P (PySem.Str.ofString "way"), (.str (PySem.Str.ofString "way") 1008), (.ref 629)⟩, ⟨PyData.keyHash P (PySem.Str.ofString "_walk_back"), (.str (PySem.Str.ofString "_walk_back") 1019), (.ref 636)⟩, ⟨PyData.keyHash P (PySem.Str.ofString "parts_of"), (.str (PySem.Str.ofString "parts_of") 1026), (.ref 643)⟩, ⟨PyData.keyHash P (PySem.Str.ofString "is_close"), (.str (PySem.Str.ofString "is_close") 1033), (.ref 650)⟩, ⟨PyData.keyHash P (PySem.Str.ofString "is_single_ring"), (.str (PySem.Str.ofString "is_single_ring") 1040), (.ref 657)⟩, ⟨PyData.keyHash P (PySem.Str.ofString "need_close"), (.str (PySem.Str.ofString "need_close") 1047), (.ref 664)⟩, ⟨PyData.keyHash P (PySem.Str.ofString "_need_part"), (.str (PySem.Str.ofString "_need_part") 1053), (.ref 669)⟩, ⟨PyData.keyHash P (PySem.Str.ofString "part_web"), (.str (PySem.Str.ofString "part_web") 1059), (.ref 674)⟩, ⟨PyData.keyHash P (PySem.Str.ofString "MOST_LETTERS"), (.str (PySem.Str.ofString "MOST_LETTERS") 1063), (.int (400) 1062)⟩, ⟨PyData.keyHash P (PySem.Str.ofString "is_text"), (.str (PySem.Str.ofString "is_text") 1069), (.ref 679)⟩, ⟨PyData.keyHash P (PySem.Str.ofString "is_ring"), (.str (PySem.Str.ofString "is_ring") 1076), (.ref 686)⟩, ⟨PyData.keyHash P (PySem.Str.ofString "need_text"), (.str (PySem.Str.ofString "need_text") 1083), (.ref 693)⟩, ⟨PyData.keyHash P (PySem.Str.ofString "need_ring"), (.str (PySem.Str.ofString "need_ring") 1090), (.ref 700)⟩, ⟨PyData.keyHash P (PySem.Str.ofString "_turned_to"), (.str (PySem.Str.ofString "_turned_to") 1098), (.ref 707)⟩, ⟨PyData.keyHash P (PySem.Str.ofString "normal"), (.str (PySem.Str.ofString "normal") 1105), (.ref 714)⟩, ⟨PyData.keyHash P (PySem.Str.ofString "MOST_PIECES"), (.str (PySem.Str.ofString "MOST_PIECES") 1109), (.int (80) 1108)⟩, ⟨PyData.keyHash P (PySem.Str.ofString "MOST_WORDS"), (.str (PySem.Str.ofString "MOST_WORDS") 1111), (.int (60) 1110)⟩, ⟨PyData.keyHash P (PySem.Str.ofString "words_of"), (.str (PySem.Str.ofString "words_of") 1117), (.ref 719)⟩, ⟨PyData.keyHash P (PySem.Str.ofString "are_pieces"), (.str (PySem.Str.ofString "are_pieces") 1125), (.ref 726)⟩, ⟨PyData.keyHash P (PySem.Str.ofString "need_pieces"), (.str (PySem.Str.ofString "need_pieces") 1132), (.ref 733)⟩, ⟨PyData.keyHash P (PySem.Str.ofString "pieces_along"), (.str (PySem.Str.ofString "pieces_along") 1138), (.ref 738)⟩, ⟨PyData.keyHash P (PySem.Str.ofString "pieces_often"), (.str (PySem.Str.ofString "pieces_often") 1150), (.ref 745)⟩, ⟨PyData.keyHash P (PySem.Str.ofString "_web_of"), (.str (PySem.Str.ofString "_web_of") 1158), (.ref 750)⟩, ⟨PyData.keyHash P (PySem.Str.ofString "PieceWeb"), (.str (PySem.Str.ofString "PieceWeb") 1291), (.ref 859)⟩, ⟨PyData.keyHash P (PySem.Str.ofString "road_between"), (.str (PySem.Str.ofString "road_between") 1303), (.ref 870)⟩, ⟨PyData.keyHash P (PySem.Str.ofString "MOST_WALKS"), (.str (PySem.Str.ofString "MOST_WALKS") 1307), (.int (300) 1306)⟩, ⟨PyData.keyHash P (PySem.Str.ofString "need_endings"), (.str (PySem.Str.ofString "need_endings") 1314), (.ref 877)⟩, ⟨PyData.keyHash P (PySem.Str.ofString "_spoilt_pairs"), (.str (PySem.Str.ofString "_spoilt_pairs") 1320), (.ref 882)⟩, ⟨PyData.keyHash P (PySem.Str.ofString "_as_bits"), (.str (PySem.Str.ofString "_as_bits") 1331), (.ref 889)⟩, ⟨PyData.keyHash P (PySem.Str.ofString "_walks_from"), (.str (PySem.Str.ofString "_walks_from") 1337), (.ref 894)⟩, ⟨PyData.keyHash P (PySem.Str.ofString "sure_walks"), (.str (PySem.Str.ofString "sure_walks") 1343), (.ref 899)⟩, ⟨PyData.keyHash P (PySem.Str.ofString "contigs"), (.str (PySem.Str.ofString "contigs") 1349), (.ref 904)⟩, ⟨PyData.keyHash P (PySem.Str.ofString "contigs_greatest"), (.str (PySem.Str.ofString "contigs_greatest") 1350), (.ref 904)⟩, ⟨PyData.keyHash P (PySem.Str.ofString "_contigs_of_part"), (.str (PySem.Str.ofString "_contigs_of_part") 1356), (.ref 909)⟩, ⟨PyData.keyHash P (PySem.Str.ofString "_letters_along"), (.str (PySem.Str.ofString "_letters_along") 1362), (.ref 914)⟩, ⟨PyData.keyHash P (PySem.Str.ofString "_once_around"), (.str (PySem.Str.ofString "_once_around") 1370), (.ref 921)⟩, ⟨PyData.keyHash P (PySem.Str.ofString "MOST_READINGS"), (.str (PySem.Str.ofString "MOST_READINGS") 1374), (.int (60) 1373)⟩, ⟨PyData.keyHash P (PySem.Str.ofString "MOST_TIMES"), (.str (PySem.Str.ofString "MOST_TIMES") 1376), (.int (1200) 1375)⟩, ⟨PyData.keyHash P (PySem.Str.ofString "is_times"), (.str (PySem.Str.ofString "is_times") 1383), (.ref 928)⟩, ⟨PyData.keyHash P (PySem.Str.ofString "are_readings"), (.str (PySem.Str.ofString "are_readings") 1391), (.ref 935)⟩, ⟨PyData.keyHash P (PySem.Str.ofString "Lot"), (.str (PySem.Str.ofString "Lot") 1467), (.ref 993)⟩, ⟨PyData.keyHash P (PySem.Str.ofString "need_lot"), (.str (PySem.Str.ofString "need_lot") 1474), (.ref 1004)⟩, ⟨PyData.keyHash P (PySem.Str.ofString "need_times"), (.str (PySem.Str.ofString "need_times") 1481), (.ref 1011)⟩, ⟨PyData.keyHash P (PySem.Str.ofString "_times_together"), (.str (PySem.Str.ofString "_times_together") 1491), (.ref 1018)⟩, ⟨PyData.keyHash P (PySem.Str.ofString "lot_told"), (.str (PySem.Str.ofString "lot_told") 1502), (.ref 1025)⟩, ⟨PyData.keyHash P (PySem.Str.ofString "_lot_with"), (.str (PySem.Str.ofString "_lot_with") 1511), (.ref 1032)⟩, ⟨PyData.keyHash P (PySem.Str.ofString "with_reading"), (.str (PySem.Str.ofString "with_reading") 1520), (.ref 1039)⟩, ⟨PyData.keyHash P (PySem.Str.ofString "without_reading"), (.str (PySem.Str.ofString "without_reading") 1526), (.ref 1044)⟩, ⟨PyData.keyHash P (PySem.Str.ofString "MOST_LEAST"), (.str (PySem.Str.ofString "MOST_LEAST") 1530), (.int (20) 1529)⟩, ⟨PyData.keyHash P (PySem.Str.ofString "_clusters_of"), (.str (PySem.Str.ofString "_clusters_of") 1536), (.ref 1049)⟩, ⟨PyData.keyHash P (PySem.Str.ofString "Keeper"), (.str (PySem.Str.ofString "Keeper") 1683), (.ref 1168)⟩, ⟨PyData.keyHash P (PySem.Str.ofString "_law_pot"), (.str (PySem.Str.ofString "_law_pot") 1695), (.ref 1179)⟩, ⟨PyData.keyHash P (PySem.Str.ofString "_law_draw"), (.str (PySem.Str.ofString "_law_draw") 1704), (.ref 1186)⟩, ⟨PyData.keyHash P (PySem.Str.ofString "_law_pick"), (.str (PySem.Str.ofString "_law_pick") 1712), (.ref 1193)⟩, ⟨PyData.keyHash P (PySem.Str.ofString "_law_pieces"), (.str (PySem.Str.ofString "_law_pieces") 1724), (.ref 1200)⟩, ⟨PyData.keyHash P (PySem.Str.ofString "_law_solid"), (.str (PySem.Str.ofString "_law_solid") 1730), (.ref 1205)⟩, ⟨PyData.keyHash P (PySem.Str.ofString "_law_text"), (.str (PySem.Str.ofString "_law_text") 1740), (.ref 1212)⟩, ⟨PyData.keyHash P (PySem.Str.ofString "_law_deed_right"), (.str (PySem.Str.ofString "_law_deed_right") 1755), (.ref 1219)⟩, ⟨PyData.keyHash P (PySem.Str.ofString "_law_is_as"), (.str (PySem.Str.ofString "_law_is_as") 1768), (.ref 1226)⟩, ⟨PyData.keyHash P (PySem.Str.ofString "_law_anew"), (.str (PySem.Str.ofString "_law_anew") 1781), (.ref 1233)⟩, ⟨PyData.keyHash P (PySem.Str.ofString "_law_right"), (.str (PySem.Str.ofString "_law_right") 1800), (.ref 1240)⟩, ⟨PyData.keyHash P (PySem.Str.ofString "law"), (.str (PySem.Str.ofString "law") 1807), (.ref 1247)⟩].toArray 119), [].toArray⟩) ::
   (nat_lit 443, ⟨(.type "code"), none, (.fields [(.str (PySem.Str.ofString "is_integer") 754), (.str (PySem.Str.ofString "is_integer") 755), (.str (PySem.Str.ofString "/claim/cut.py") 756), (.int (89) 0), (.int (1) 0), (.int (0) 0), (.int (0) 0), (.int (3) 0), (.ref 438), (.bool true), (.int (181) 0), (.ref 439), .none, (.ref 440), (.ref 441), (.ref 442), (.int (758) 0), (.int (89) 0), (.str (PySem.Str.ofString "/claim/cut.py") 759)].toArray), [].toArray⟩) ::
   (nat_lit 444, ⟨(.type "function"), none, (.func (PySem.W.fnOf (PySem.Str.ofString "is_integer") (PySem.Str.ofString "is_integer") (defArgs sis_integer) (defBody sis_integer) (defScope sis_integer) .none .none .none (.str (PySem.Str.ofString "suretexts.basics") 752) none (.ref 443) .none)), [].toArray⟩) ::
   (nat_lit 450, ⟨(.type "code"), none, (.fields [(.str (PySem.Str.ofString "is_count") 761), (.str (PySem.Str.ofString "is_count") 762), (.str (PySem.Str.ofString "/claim/cut.py") 763), (.int (91) 0), (.int (1) 0), (.int (0) 0), (.int (0) 0), (.int (3) 0), (.ref 445), (.bool true), (.int (181) 0), (.ref 446), .none, (.ref 447), (.ref 448), (.ref 449), (.int (765) 0), (.int (91) 0), (.str (PySem.Str.ofString "/claim/cut.py") 766)].toArray), [].toArray⟩) ::
   (nat_lit 451, ⟨(.type "function"), none, (.func (PySem.W.fnOf (PySem.Str.ofString "is_count") (PySem.Str.ofString "is_count") (defArgs sis_count) (defBody sis_count) (defScope sis_count) .none .none .none (.str (PySem.Str.ofString "suretexts.basics") 752) none (.ref 450) .none)), [].toArray⟩) ::
   (nat_lit 457, ⟨(.type "code"), none, (.fields [(.str (PySem.Str.ofString "is_between") 768), (.str (PySem.Str.ofString "is_between") 769), (.str (PySem.Str.ofString "/claim/cut.py") 770), (.int (93) 0), (.int (3) 0), (.int (0) 0), (.int (0) 0), (.int (3) 0), (.ref 452), (.bool true), (.int (181) 0), (.ref 453), .none, (.ref 454), (.ref 455), (.ref 456), (.int (774) 0), (.int (93) 0), (.str (PySem.Str.ofString "/claim/cut.py") 775)].toArray), [].toArray⟩) ::
   (nat_lit 458, ⟨(.type "function"), none, (.func (PySem.W.fnOf (PySem.Str.ofString "is_between") (PySem.Str.ofString "is_between") (defArgs sis_between) (defBody sis_between) (defScope sis_between) .none .none .none (.str (PySem.Str.ofString "suretexts.basics") 752) none (.ref 457) .none)), [].toArray⟩) ::
   (nat_lit 471, ⟨(.type "code"), none, (.fields [(.str (PySem.Str.ofString "is_size") 785), (.str (PySem.Str.ofString "is_size") 786), (.str (PySem.Str.ofString "/claim/cut.py") 787), (.int (97) 0), (.int (1) 0), (.int (0) 0), (.int (0) 0), (.int (3) 0), (.ref 466), (.bool true), (.int (181) 0), (.ref 467), .none, (.ref 468), (.ref 469), (.ref 470), (.int (789) 0), (.int (97) 0), (.str (PySem.Str.ofString "/claim/cut.py") 790)].toArray), [].toArray⟩) ::
   (nat_lit 472, ⟨(.type "function"), none, (.func (PySem.W.fnOf (PySem.Str.ofString "is_size") (PySem.Str.ofString "is_size") (defArgs sis_size) (defBody sis_size) (defScope sis_size) .none .none .none (.str (PySem.Str.ofString "suretexts.basics") 752) none (.ref 471) .none)), [].toArray⟩) ::
   (nat_lit 478, ⟨(.type "code"), none, (.fields [(.str (PySem.Str.ofString "is_listed") 792), (.str (PySem.Str.ofString "is_listed") 793), (.str (PySem.Str.ofString "/claim/cut.py") 794), (.int (99) 0), (.int (1) 0), (.int (0) 0), (.int (0) 0), (.int (3) 0), (.ref 473), (.bool true), (.int (181) 0), (.ref 474), .none, (.ref 475), (.ref 476), (.ref 477), (.int (796) 0), (.int (99) 0), (.str (PySem.Str.ofString "/claim/cut.py") 797)].toArray), [].toArray⟩) ::
   (nat_lit 479, ⟨(.type "function"), none, (.func (PySem.W.fnOf (PySem.Str.ofString "is_listed") (PySem.Str.ofString "is_listed") (defArgs sis_listed) (defBody sis_listed) (defScope sis_listed) .none .none .none (.str (PySem.Str.ofString "suretexts.basics") 752) none (.ref 478) .none)), [].toArray⟩) ::
   (nat_lit 485, ⟨(.type "code"), none, (.fields [(.str (PySem.Str.ofString "is_letter") 799), (.str (PySem.Str.ofString "is_letter") 800), (.str (PySem.Str.ofString "/claim/cut.py") 801), (.int (101) 0), (.int (1) 0), (.int (0) 0), (.int (0) 0), (.int (3) 0), (.ref 480), (.bool true), (.int (181) 0), (.ref 481), .none, (.ref 482), (.ref 483), (.ref 484), (.int (803) 0), (.int (101) 0), (.str (PySem.Str.ofString "/claim/cut.py") 804)].toArray), [].toArray⟩) ::
   (nat_lit 486, ⟨(.type "function"), none, (.func (PySem.W.fnOf (PySem.Str.ofString "is_letter") (PySem.Str.ofString "is_letter") (defArgs sis_letter) (defBody sis_letter) (defScope sis_letter) .none .none .none (.str (PySem.Str.ofString "suretexts.basics") 752) none (.ref 485) .none)), [].toArray⟩) ::
   (nat_lit 492, ⟨(.type "code"), none, (.fields [(.str (PySem.Str.ofString "need_size") 806), (.str (PySem.Str.ofString "need_size") 807), (.str (PySem.Str.ofString "/claim/cut.py") 808), (.int (103) 0), (.int (1) 0), (.int (0) 0), (.int (0) 0), (.int (3) 0), (.ref 487), (.bool true), (.int (181) 0), (.ref 488), .none, (.ref 489), (.ref 490), (.ref 491), (.int (810) 0), (.int (103) 0), (.str (PySem.Str.ofString "/claim/cut.py") 811)].toArray), [].toArray⟩) ::
   (nat_lit 493, ⟨(.type "function"), none, (.func (PySem.W.fnOf (PySem.Str.ofString "need_size") (PySem.Str.ofString "need_size") (defArgs sneed_size) (defBody sneed_size) (defScope sneed_size) .none .none .none (.str (PySem.Str.ofString "suretexts.basics") 752) none (.ref 492) .none)), [].toArray⟩) ::
   (nat_lit 678, ⟨(.type "code"), none, (.fields [(.str (PySem.Str.ofString "is_text") 1064), (.str (PySem.Str.ofString "is_text") 1065), (.str (PySem.Str.ofString "/claim/cut.py") 1066), (.int (273) 0), (.int (1) 0), (.int (0) 0), (.int (0) 0), (.int (3) 0), (.ref 675), (.bool true), (.int (181) 0), (.ref 676), .none, .none, .none, (.ref 677), (.int (1067) 0), (.int (273) 0), (.str (PySem.Str.ofString "/claim/cut.py") 1068)].toArray), [].toArray⟩) ::
   (nat_lit 679, ⟨(.type "function"), none, (.func (PySem.W.fnOf (PySem.Str.ofString "is_text") (PySem.Str.ofString "is_text") (defArgs sis_text) (defBody sis_text) (defScope sis_text) .none .none .none (.str (PySem.Str.ofString "suretexts.rings") 1060) none (.ref 678) .none)), [].toArray⟩) ::
   (nat_lit 692, ⟨(.type "code"), none, (.fields [(.str (PySem.Str.ofString "need_text") 1077), (.str (PySem.Str.ofString "need_text") 1078), (.str (PySem.Str.ofString "/claim/cut.py") 1079), (.int (279) 0), (.int (1) 0), (.int (0) 0), (.int (0) 0), (.int (3) 0), (.ref 687), (.bool true), (.int (181) 0), (.ref 688), .none, (.ref 689), (.ref 690), (.ref 691), (.int (1081) 0), (.int (279) 0), (.str (PySem.Str.ofString "/claim/cut.py") 1082)].toArray), [].toArray⟩) ::
   (nat_lit 693, ⟨(.type "function"), none, (.func (PySem.W.fnOf (PySem.Str.ofString "need_text") (PySem.Str.ofString "need_text") (defArgs sneed_text) (defBody sneed_text) (defScope sneed_text) .none .none .none (.str (PySem.Str.ofString "suretexts.rings") 1060) none (.ref 692) .none)), [].toArray⟩) ::
   (nat_lit 737, ⟨(.type "code"), none, (.fields [(.str (PySem.Str.ofString "pieces_along") 1133), (.str (PySem.Str.ofString "pieces_along") 1134), (.str (PySem.Str.ofString "/claim/cut.py") 1135), (.int (305) 0), (.int (2) 0), (.int (0) 0), (.int (0) 0), (.int (3) 0), (.ref 734), (.bool true), (.int (181) 0), (.ref 735), .none, .none, .none, (.ref 736), (.int (1136) 0), (.int (305) 0), (.str (PySem.Str.ofString "/claim/cut.py") 1137)].toArray), [].toArray⟩) ::
   (nat_lit 738, ⟨(.type "function"), none, (.func (PySem.W.fnOf (PySem.Str.ofString "pieces_along") (PySem.Str.ofString "pieces_along") (defArgs spieces_along) (defBody spieces_along) (defScope spieces_along) .none .none .none (.str (PySem.Str.ofString "suretexts.pieced") 1106) none (.ref 737) .none)), [].toArray⟩) ::
   (nat_lit 744, ⟨(.type "code"), none, (.fields [(.str (PySem.Str.ofString "pieces_often") 1139), (.str (PySem.Str.ofString "pieces_often") 1140), (.str (PySem.Str.ofString "/claim/cut.py") 1141), (.int (307) 0), (.int (2) 0), (.int (0) 0), (.int (0) 0), (.int (3) 0), (.ref 739), (.bool true), (.int (181) 0), (.ref 740), .none, (.ref 741), (.ref 742), (.ref 743), (.int (1148) 0), (.int (307) 0), (.str (PySem.Str.ofString "/claim/cut.py") 1149)].toArray), [].toArray⟩) ::
   (nat_lit 745, ⟨(.type "function"), none, (.func (PySem.W.fnOf (PySem.Str.ofString "pieces_often") (PySem.Str.ofString "pieces_often") (defArgs spieces_often) (defBody spieces_often) (defScope spieces_often) .none .none .none (.str (PySem.Str.ofString "suretexts.pieced") 1106) none (.ref 744) .none)), [].toArray⟩) ::
   (nat_lit 927, ⟨(.type "code"), none, (.fields [(.str (PySem.Str.ofString "is_times") 1377), (.str (PySem.Str.ofString "is_times") 1378), (.str (PySem.Str.ofString "/claim/cut.py") 1379), (.int (437) 0), (.int (1) 0), (.int (0) 0), (.int (0) 0), (.int (3) 0), (.ref 922), (.bool true), (.int (181) 0), (.ref 923), .none, (.ref 924), (.ref 925), (.ref 926), (.int (1381) 0), (.int (437) 0), (.str (PySem.Str.ofString "/claim/cut.py") 1382)].toArray), [].toArray⟩) ::
   (nat_lit 928, ⟨(.type "function"), none, (.func (PySem.W.fnOf (PySem.Str.ofString "is_times") (PySem.Str.ofString "is_times") (defArgs sis_times) (defBody sis_times) (defScope sis_times) .none .none .none (.str (PySem.Str.ofString "suretexts.lots") 1371) none (.ref 927) .none)), [].toArray⟩) ::
   (nat_lit 934, ⟨(.type "code"), none, (.fields [(.str (PySem.Str.ofString "are_readings") 1384), (.str (PySem.Str.ofString "are_readings") 1385), (.str (PySem.Str.ofString "/claim/cut.py") 1386), (.int (439) 0), (.int (1) 0), (.int (0) 0), (.int (0) 0), (.int (3) 0), (.ref 929), (.bool true), (.int (181) 0), (.ref 930), .none, (.ref 931), (.ref 932), (.ref 933), (.int (1389) 0), (.int (439) 0), (.str (PySem.Str.ofString "/claim/cut.py") 1390)].toArray), [].toArray⟩) ::
   (nat_lit 935, ⟨(.type "function"), none, (.func (PySem.W.fnOf (PySem.Str.ofString "are_readings") (PySem.Str.ofString "are_readings") (defArgs sare_readings) (defBody sare_readings) (defScope sare_readings) .none .none .none (.str (PySem.Str.ofString "suretexts.lots") 1371) none (.ref 934) .none)), [].toArray⟩) ::
   (nat_lit 948, ⟨(.type "code"), none, (.fields [(.str (PySem.Str.ofString "__init__") 1404), (.str (PySem.Str.ofString "Lot.__init__") 1405), (.str (PySem.Str.ofString "/claim/cut.py") 1406), (.int (450) 0), (.int (3) 0), (.int (0) 0), (.int (0) 0), (.int (3) 0), (.ref 943), (.bool true), (.int (181) 0), (.ref 944), .none, (.ref 945), (.ref 946), (.ref 947), (.int (1410) 0), (.int (450) 0), (.str (PySem.Str.ofString "/claim/cut.py") 1411)].toArray), [].toArray⟩) ::
   (nat_lit 949, ⟨(.type "function"), none, (.func (PySem.W.fnOf (PySem.Str.ofString "__init__") (PySem.Str.ofString "Lot.__init__") (defArgs sLot___init__) (defBody sLot___init__) (defScope sLot___init__) .none .none .none (.str (PySem.Str.ofString "suretexts.lots") 1371) none (.ref 948) .none)), [].toArray⟩) ::
   (nat_lit 955, ⟨(.type "code"), none, (.fields [(.str (PySem.Str.ofString "__eq__") 1413), (.str (PySem.Str.ofString "Lot.__eq__") 1414), (.str (PySem.Str.ofString "/claim/cut.py") 1415), (.int (457) 0), (.int (2) 0), (.int (0) 0), (.int (0) 0), (.int (3) 0), (.ref 950), (.bool true), (.int (181) 0), (.ref 951), .none, (.ref 952), (.ref 953), (.ref 954), (.int (1418) 0), (.int (457) 0), (.str (PySem.Str.ofString "/claim/cut.py") 1419)].toArray), [].toArray⟩) ::
   (nat_lit 956, ⟨(.type "function"), none, (.func (PySem.W.fnOf (PySem.Str.ofString "__eq__") (PySem.Str.ofString "Lot.__eq__") (defArgs sLot___eq__) (defBody sLot___eq__) (defScope sLot___eq__) .none .none .none (.str (PySem.Str.ofString "suretexts.lots") 1371) none (.ref 955) .none)), [].toArray⟩) ::
   (nat_lit 962, ⟨(.type "code"), none, (.fields [(.str (PySem.Str.ofString "size") 1421), (.str (PySem.Str.ofString "Lot.size") 1422), (.str (PySem.Str.ofString "/claim/cut.py") 1423), (.int (460) 0), (.int (1) 0), (.int (0) 0), (.int (0) 0), (.int (3) 0), (.ref 957), (.bool true), (.int (181) 0), (.ref 958), .none, (.ref 959), (.ref 960), (.ref 961), (.int (1425) 0), (.int (460) 0), (.str (PySem.Str.ofString "/claim/cut.py") 1426)].toArray), [].toArray⟩) ::
   (nat_lit 963, ⟨(.type "function"), none, (.func (PySem.W.fnOf (PySem.Str.ofString "size") (PySem.Str.ofString "Lot.size") (defArgs sLot_size) (defBody sLot_size) (defScope sLot_size) .none .none .none (.str (PySem.Str.ofString "suretexts.lots") 1371) none (.ref 962) .none)), [].toArray⟩) ::
   (nat_lit 964, ⟨(.type "property"), none, (.fields [(.ref 963), .none, .none, .none, (.str (PySem.Str.ofString "size") 1428), (.bool false)].toArray), [].toArray⟩) ::
   (nat_lit 970, ⟨(.type "code"), none, (.fields [(.str (PySem.Str.ofString "readings") 1429), (.str (PySem.Str.ofString "Lot.readings") 1430), (.str (PySem.Str.ofString "/claim/cut.py") 1431), (.int (464) 0), (.int (1) 0), (.int (0) 0), (.int (0) 0), (.int (3) 0), (.ref 965), (.bool true), (.int (181) 0), (.ref 966), .none, (.ref 967), (.ref 968), (.ref 969), (.int (1433) 0), (.int (464) 0), (.str (PySem.Str.ofString "/claim/cut.py") 1434)].toArray), [].toArray⟩) ::
   (nat_lit 971, ⟨(.type "function"), none, (.func (PySem.W.fnOf (PySem.Str.ofString "readings") (PySem.Str.ofString "Lot.readings") (defArgs sLot_readings) (defBody sLot_readings) (defScope sLot_readings) .none .none .none (.str (PySem.Str.ofString "suretexts.lots") 1371) none (.ref 970) .none)), [].toArray⟩) ::
   (nat_lit 977, ⟨(.type "code"), none, (.fields [(.str (PySem.Str.ofString "times_of") 1436), (.str (PySem.Str.ofString "Lot.times_of") 1437), (.str (PySem.Str.ofString "/claim/cut.py") 1438), (.int (467) 0), (.int (2) 0), (.int (0) 0), (.int (0) 0), (.int (3) 0), (.ref 972), (.bool true), (.int (181) 0), (.ref 973), .none, (.ref 974), (.ref 975), (.ref 976), (.int (1441) 0), (.int (467) 0), (.str (PySem.Str.ofString "/claim/cut.py") 1442)].toArray), [].toArray⟩) ::
   (nat_lit 978, ⟨(.type "function"), none, (.func (PySem.W.fnOf (PySem.Str.ofString "times_of") (PySem.Str.ofString "Lot.times_of") (defArgs sLot_times_of) (defBody sLot_times_of) (defScope sLot_times_of) .none .none .none (.str (PySem.Str.ofString "suretexts.lots") 1371) none (.ref 977) .none)), [].toArray⟩) ::
   (nat_lit 984, ⟨(.type "code"), none, (.fields [(.str (PySem.Str.ofString "pieces") 1444), (.str (PySem.Str.ofString "Lot.pieces") 1445), (.str (PySem.Str.ofString "/claim/cut.py") 1446), (.int (471) 0), (.int (1) 0), (.int (0) 0), (.int (0) 0), (.int (3) 0), (.ref 979), (.bool true), (.int (181) 0), (.ref 980), .none, (.ref 981), (.ref 982), (.ref 983), (.int (1448) 0), (.int (471) 0), (.str (PySem.Str.ofString "/claim/cut.py") 1449)].toArray), [].toArray⟩) ::
   (nat_lit 985, ⟨(.type "function"), none, (.func (PySem.W.fnOf (PySem.Str.ofString "pieces") (PySem.Str.ofString "Lot.pieces") (defArgs sLot_pieces) (defBody sLot_pieces) (defScope sLot_pieces) .none .none .none (.str (PySem.Str.ofString "suretexts.lots") 1371) none (.ref 984) .none)), [].toArray⟩) ::
   (nat_lit 989, ⟨(.type "code"), none, (.fields [(.str (PySem.Str.ofString "solid") 1451), (.str (PySem.Str.ofString "Lot.solid") 1452), (.str (PySem.Str.ofString "/claim/cut.py") 1453), (.int (474) 0), (.int (2) 0), (.int (0) 0), (.int (0) 0), (.int (3) 0), (.ref 986), (.bool true), (.int (181) 0), (.ref 987), .none, .none, .none, (.ref 988), (.int (1454) 0), (.int (474) 0), (.str (PySem.Str.ofString "/claim/cut.py") 1455)].toArray), [].toArray⟩) ::
   (nat_lit 990, ⟨(.type "function"), none, (.func (PySem.W.fnOf (PySem.Str.ofString "solid") (PySem.Str.ofString "Lot.solid") (defArgs sLot_solid) (defBody sLot_solid) (defScope sLot_solid) .none .none .none (.str (PySem.Str.ofString "suretexts.lots") 1371) none (.ref 989) .none)), [].toArray⟩) ::
   (nat_lit 992, ⟨(.type "dict"), none, (.dict [⟨PyData.keyHash P (PySem.Str.ofString "__module__"), (.str (PySem.Str.ofString "__module__") 1399), (.str (PySem.Str.ofString "suretexts.lots") 1371)⟩, ⟨PyData.keyHash P (PySem.Str.ofString "__firstlineno__"), (.str (PySem.Str.ofString "__firstlineno__") 1403), (.int (448) 1402)⟩, ⟨PyData.keyHash P (PySem.Str.ofString "__init__"), (.str (PySem.Str.ofString "__init__") 1412), (.ref 949)⟩, ⟨PyData.keyHash P (PySem.Str.ofString "__eq__"), (.str (PySem.Str.ofString "__eq__") 1420), (.ref 956)⟩, ⟨PyData.keyHash P (PySem.Str.ofString "size"), (.str (PySem.Str.ofString "size") 1428), (.ref 964)⟩, ⟨PyData.keyHash P (PySem.Str.ofString "readings"), (.str (PySem.Str.ofString "readings") 1435), (.ref 971)⟩, ⟨PyData.keyHash P (PySem.Str.ofString "times_of"), (.str (PySem.Str.ofString "times_of") 1443), (.ref 978)⟩, ⟨PyData.keyHash P (PySem.Str.ofString "pieces"), (.str (PySem.Str.ofString "pieces") 1450), (.ref 985)⟩, ⟨PyData.keyHash P (PySem.Str.ofString "solid"), (.str (PySem.Str.ofString "solid") 1456), (.ref 990)⟩, ⟨PyData.keyHash P (PySem.Str.ofString "__static_attributes__"), (.str (PySem.Str.ofString "__static_attributes__") 1459), (.ref 991)⟩, ⟨PyData.keyHash P (PySem.Str.ofString "__dict__"), (.str (PySem.Str.ofString "__dict__") 1461), (.ref 994)⟩, ⟨PyData.keyHash P (PySem.Str.ofString "__weakref__"), (.str (PySem.Str.ofString "__weakref__") 1463), (.ref 995)⟩, ⟨PyData.keyHash P (PySem.Str.ofString "__doc__"), (.str (PySem.Str.ofString "__doc__") 1464), .none⟩, ⟨PyData.keyHash P (PySem.Str.ofString "__hash__"), (.str (PySem.Str.ofString "__hash__") 1465), .none⟩].toArray 5), [].toArray⟩) ::
   (nat_lit 993, ⟨(.type "type"), none, (.cls ⟨(PySem.Str.ofString "Lot"), [(.type "object")], [(.ref 993), (.type "object")], 992, (PySem.Str.ofString "Lot"), true, [], [], false, none, false⟩), [none, none, (some (.str (PySem.Str.ofString "Lot") 1392)), (some (.str (PySem.Str.ofString "Lot") 1400)), (some (.builtin "object.__new__")), (some (.bool true))].toArray⟩) ::
   (nat_lit 1003, ⟨(.type "code"), none, (.fields [(.str (PySem.Str.ofString "need_lot") 1468), (.str (PySem.Str.ofString "need_lot") 1469), (.str (PySem.Str.ofString "/claim/cut.py") 1470), (.int (478) 0), (.int (1) 0), (.int (0) 0), (.int (0) 0), (.int (3) 0), (.ref 998), (.bool true), (.int (181) 0), (.ref 999), .none, (.ref 1000), (.ref 1001), (.ref 1002), (.int (1472) 0), (.int (478) 0), (.str (PySem.Str.ofString "/claim/cut.py") 1473)].toArray), [].toArray⟩) ::
   (nat_lit 1004, ⟨(.type "function"), none, (.func (PySem.W.fnOf (PySem.Str.ofString "need_lot") (PySem.Str.ofString "need_lot") (defArgs sneed_lot) (defBody sneed_lot) (defScope sneed_lot) .none .none .none (.str (PySem.Str.ofString "suretexts.lots") 1371) none (.ref 1003) .none)), [].toArray⟩) ::
   (nat_lit 1010, ⟨(.type "code"), none, (.fields [(.str (PySem.Str.ofString "need_times") 1475), (.str (PySem.Str.ofString "need_times") 1476), (.str (PySem.Str.ofString "/claim/cut.py") 1477), (.int (481) 0), (.int (1) 0), (.int (0) 0), (.int (0) 0), (.int (3) 0), (.ref 1005), (.bool true), (.int (181) 0), (.ref 1006), .none, (.ref 1007), (.ref 1008), (.ref 1009), (.int (1479) 0), (.int (481) 0), (.str (PySem.Str.ofString "/claim/cut.py") 1480)].toArray), [].toArray⟩) ::
   (nat_lit 1011, ⟨(.type "function"), none, (.func (PySem.W.fnOf (PySem.Str.ofString "need_times") (PySem.Str.ofString "need_times") (defArgs sneed_times) (defBody sneed_times) (defScope sneed_times) .none .none .none (.str (PySem.Str.ofString "suretexts.lots") 1371) none (.ref 1010) .none)), [].toArray⟩) ::
   (nat_lit 1017, ⟨(.type "code"), none, (.fields [(.str (PySem.Str.ofString "_times_together") 1482), (.str (PySem.Str.ofString "_times_together") 1483), (.str (PySem.Str.ofString "/claim/cut.py") 1484), (.int (484) 0), (.int (1) 0), (.int (0) 0), (.int (0) 0), (.int (3) 0), (.ref 1012), (.bool true), (.int (181) 0), (.ref 1013), .none, (.ref 1014), (.ref 1015), (.ref 1016), (.int (1489) 0), (.int (484) 0), (.str (PySem.Str.ofString "/claim/cut.py") 1490)].toArray), [].toArray⟩) ::
   (nat_lit 1018, ⟨(.type "function"), none, (.func (PySem.W.fnOf (PySem.Str.ofString "_times_together") (PySem.Str.ofString "_times_together") (defArgs s_times_together) (defBody s_times_together) (defScope s_times_together) .none .none .none (.str (PySem.Str.ofString "suretexts.lots") 1371) none (.ref 1017) .none)), [].toArray⟩) ::
   (nat_lit 1024, ⟨(.type "code"), none, (.fields [(.str (PySem.Str.ofString "lot_told") 1492), (.str (PySem.Str.ofString "lot_told") 1493), (.str (PySem.Str.ofString "/claim/cut.py") 1494), (.int (489) 0), (.int (2) 0), (.int (0) 0), (.int (0) 0), (.int (3) 0), (.ref 1019), (.bool true), (.int (181) 0), (.ref 1020), .none, (.ref 1021), (.ref 1022), (.ref 1023), (.int (1500) 0), (.int (489) 0), (.str (PySem.Str.ofString "/claim/cut.py") 1501)].toArray), [].toArray⟩) ::
   (nat_lit 1025, ⟨(.type "function"), none, (.func (PySem.W.fnOf (PySem.Str.ofString "lot_told") (PySem.Str.ofString "lot_told") (defArgs slot_told) (defBody slot_told) (defScope slot_told) .none .none .none (.str (PySem.Str.ofString "suretexts.lots") 1371) none (.ref 1024) .none)), [].toArray⟩) ::
   (nat_lit 1031, ⟨(.type "code"), none, (.fields [(.str (PySem.Str.ofString "_lot_with") 1503), (.str (PySem.Str.ofString "_lot_with") 1504), (.str (PySem.Str.ofString "/claim/cut.py") 1505), (.int (498) 0), (.int (2) 0), (.int (0) 0), (.int (0) 0), (.int (3) 0), (.ref 1026), (.bool true), (.int (181) 0), (.ref 1027), .none, (.ref 1028), (.ref 1029), (.ref 1030), (.int (1509) 0), (.int (498) 0), (.str (PySem.Str.ofString "/claim/cut.py") 1510)].toArray), [].toArray⟩) ::
   (nat_lit 1032, ⟨(.type "function"), none, (.func (PySem.W.fnOf (PySem.Str.ofString "_lot_with") (PySem.Str.ofString "_lot_with") (defArgs s_lot_with) (defBody s_lot_with) (defScope s_lot_with) .none .none .none (.str (PySem.Str.ofString "suretexts.lots") 1371) none (.ref 1031) .none)), [].toArray⟩) ::
   (nat_lit 1038, ⟨(.type "code"), none, (.fields [(.str (PySem.Str.ofString "with_reading") 1512), (.str (PySem.Str.ofString "with_reading") 1513), (.str (PySem.Str.ofString "/claim/cut.py") 1514), (.int (501) 0), (.int (3) 0), (.int (0) 0), (.int (0) 0), (.int (3) 0), (.ref 1033), (.bool true), (.int (181) 0), (.ref 1034), .none, (.ref 1035), (.ref 1036), (.ref 1037), (.int (1518) 0), (.int (501) 0), (.str (PySem.Str.ofString "/claim/cut.py") 1519)].toArray), [].toArray⟩) ::
   (nat_lit 1039, ⟨(.type "function"), none, (.func (PySem.W.fnOf (PySem.Str.ofString "with_reading") (PySem.Str.ofString "with_reading") (defArgs swith_reading) (defBody swith_reading) (defScope swith_reading) .none .none .none (.str (PySem.Str.ofString "suretexts.lots") 1371) none (.ref 1038) .none)), [].toArray⟩) ::
   (nat_lit 1043, ⟨(.type "code"), none, (.fields [(.str (PySem.Str.ofString "without_reading") 1521), (.str (PySem.Str.ofString "without_reading") 1522), (.str (PySem.Str.ofString "/claim/cut.py") 1523), (.int (506) 0), (.int (3) 0), (.int (0) 0), (.int (0) 0), (.int (3) 0), (.ref 1040), (.bool true), (.int (181) 0), (.ref 1041), .none, .none, .none, (.ref 1042), (.int (1524) 0), (.int (506) 0), (.str (PySem.Str.ofString "/claim/cut.py") 1525)].toArray), [].toArray⟩) ::
   (nat_lit 1044, ⟨(.type "function"), none, (.func (PySem.W.fnOf (PySem.Str.ofString "without_reading") (PySem.Str.ofString "without_reading") (defArgs swithout_reading) (defBody swithout_reading) (defScope swithout_reading) .none .none .none (.str (PySem.Str.ofString "suretexts.lots") 1371) none (.ref 1043) .none)), [].toArray⟩) ::
   (nat_lit 1062, ⟨(.type "code"), none, (.fields [(.str (PySem.Str.ofString "__init__") 1549), (.str (PySem.Str.ofString "Keeper.__init__") 1550), (.str (PySem.Str.ofString "/claim/cut.py") 1551), (.int (529) 0), (.int (3) 0), (.int (0) 0), (.int (0) 0), (.int (3) 0), (.ref 1057), (.bool true), (.int (181) 0), (.ref 1058), .none, (.ref 1059), (.ref 1060), (.ref 1061), (.int (1555) 0), (.int (529) 0), (.str (PySem.Str.ofString "/claim/cut.py") 1556)].toArray), [].toArray⟩) ::
   (nat_lit 1063, ⟨(.type "function"), none, (.func (PySem.W.fnOf (PySem.Str.ofString "__init__") (PySem.Str.ofString "Keeper.__init__") (defArgs sKeeper___init__) (defBody sKeeper___init__) (defScope sKeeper___init__) .none .none .none (.str (PySem.Str.ofString "suretexts.keeper") 1527) none (.ref 1062) .none)), [].toArray⟩) ::
   (nat_lit 1069, ⟨(.type "code"), none, (.fields [(.str (PySem.Str.ofString "size") 1558), (.str (PySem.Str.ofString "Keeper.size") 1559), (.str (PySem.Str.ofString "/claim/cut.py") 1560), (.int (541) 0), (.int (1) 0), (.int (0) 0), (.int (0) 0), (.int (3) 0), (.ref 1064), (.bool true), (.int (181) 0), (.ref 1065), .none, (.ref 1066), (.ref 1067), (.ref 1068), (.int (1562) 0), (.int (541) 0), (.str (PySem.Str.ofString "/claim/cut.py") 1563)].toArray), [].toArray⟩) ::
   (nat_lit 1070, ⟨(.type "function"), none, (.func (PySem.W.fnOf (PySem.Str.ofString "size") (PySem.Str.ofString "Keeper.size") (defArgs sKeeper_size) (defBody sKeeper_size) (defScope sKeeper_size) .none .none .none (.str (PySem.Str.ofString "suretexts.keeper") 1527) none (.ref 1069) .none)), [].toArray⟩) ::
   (nat_lit 1071, ⟨(.type "property"), none, (.fields [(.ref 1070), .none, .none, .none, (.str (PySem.Str.ofString "size") 1565), (.bool false)].toArray), [].toArray⟩) ::
   (nat_lit 1077, ⟨(.type "code"), none, (.fields [(.str (PySem.Str.ofString "least") 1566), (.str (PySem.Str.ofString "Keeper.least") 1567), (.str (PySem.Str.ofString "/claim/cut.py") 1568), (.int (545) 0), (.int (1) 0), (.int (0) 0), (.int (0) 0), (.int (3) 0), (.ref 1072), (.bool true), (.int (181) 0), (.ref 1073), .none, (.ref 1074), (.ref 1075), (.ref 1076), (.int (1570) 0), (.int (545) 0), (.str (PySem.Str.ofString "/claim/cut.py") 1571)].toArray), [].toArray⟩) ::
   (nat_lit 1078, ⟨(.type "function"), none, (.func (PySem.W.fnOf (PySem.Str.ofString "least") (PySem.Str.ofString "Keeper.least") (defArgs sKeeper_least) (defBody sKeeper_least) (defScope sKeeper_least) .none .none .none (.str (PySem.Str.ofString "suretexts.keeper") 1527) none (.ref 1077) .none)), [].toArray⟩) ::
   (nat_lit 1084, ⟨(.type "code"), none, (.fields [(.str (PySem.Str.ofString "_now") 1573), (.str (PySem.Str.ofString "Keeper._now") 1574), (.str (PySem.Str.ofString "/claim/cut.py") 1575), (.int (548) 0), (.int (1) 0), (.int (0) 0), (.int (0) 0), (.int (3) 0), (.ref 1079), (.bool true), (.int (181) 0), (.ref 1080), .none, (.ref 1081), (.ref 1082), (.ref 1083), (.int (1577) 0), (.int (548) 0), (.str (PySem.Str.ofString "/claim/cut.py") 1578)].toArray), [].toArray⟩) ::
   (nat_lit 1085, ⟨(.type "function"), none, (.func (PySem.W.fnOf (PySem.Str.ofString "_now") (PySem.Str.ofString "Keeper._now") (defArgs sKeeper__now) (defBody sKeeper__now) (defScope sKeeper__now) .none .none .none (.str (PySem.Str.ofString "suretexts.keeper") 1527) none (.ref 1084) .none)), [].toArray⟩) ::
   (nat_lit 1091, ⟨(.type "code"), none, (.fields [(.str (PySem.Str.ofString "_do") 1580), (.str (PySem.Str.ofString "Keeper._do") 1581), (.str (PySem.Str.ofString "/claim/cut.py") 1582), (.int (551) 0), (.int (3) 0), (.int (0) 0), (.int (0) 0), (.int (3) 0), (.ref 1086), (.bool true), (.int (181) 0), (.ref 1087), .none, (.ref 1088), (.ref 1089), (.ref 1090), (.int (1586) 0), (.int (551) 0), (.str (PySem.Str.ofString "/claim/cut.py") 1587)].toArray), [].toArray⟩) ::
   (nat_lit 1092, ⟨(.type "function"), none, (.func (PySem.W.fnOf (PySem.Str.ofString "_do") (PySem.Str.ofString "Keeper._do") (defArgs sKeeper__do) (defBody sKeeper__do) (defScope sKeeper__do) .none .none .none (.str (PySem.Str.ofString "suretexts.keeper") 1527) none (.ref 1091) .none)), [].toArray⟩) ::
   (nat_lit 1098, ⟨(.type "code"), none, (.fields [(.str (PySem.Str.ofString "added") 1589), (.str (PySem.Str.ofString "Keeper.added") 1590), (.str (PySem.Str.ofString "/claim/cut.py") 1591), (.int (556) 0), (.int (3) 0), (.int (0) 0), (.int (0) 0), (.int (3) 0), (.ref 1093), (.bool true), (.int (181) 0), (.ref 1094), .none, (.ref 1095), (.ref 1096), (.ref 1097), (.int (1595) 0), (.int (556) 0), (.str (PySem.Str.ofString "/claim/cut.py") 1596)].toArray), [].toArray⟩) ::
   (nat_lit 1099, ⟨(.type "function"), none, (.func (PySem.W.fnOf (PySem.Str.ofString "added") (PySem.Str.ofString "Keeper.added") (defArgs sKeeper_added) (defBody sKeeper_added) (defScope sKeeper_added) .none .none .none (.str (PySem.Str.ofString "suretexts.keeper") 1527) none (.ref 1098) .none)), [].toArray⟩) ::
   (nat_lit 1105, ⟨(.type "code"), none, (.fields [(.str (PySem.Str.ofString "taken") 1598), (.str (PySem.Str.ofString "Keeper.taken") 1599), (.str (PySem.Str.ofString "/claim/cut.py") 1600), (.int (559) 0), (.int (3) 0), (.int (0) 0), (.int (0) 0), (.int (3) 0), (.ref 1100), (.bool true), (.int (181) 0), (.ref 1101), .none, (.ref 1102), (.ref 1103), (.ref 1104), (.int (1604) 0), (.int (559) 0), (.str (PySem.Str.ofString "/claim/cut.py") 1605)].toArray), [].toArray⟩) ::
   (nat_lit 1106, ⟨(.type "function"), none, (.func (PySem.W.fnOf (PySem.Str.ofString "taken") (PySem.Str.ofString "Keeper.taken") (defArgs sKeeper_taken) (defBody sKeeper_taken) (defScope sKeeper_taken) .none .none .none (.str (PySem.Str.ofString "suretexts.keeper") 1527) none (.ref 1105) .none)), [].toArray⟩) ::
   (nat_lit 1112, ⟨(.type "code"), none, (.fields [(.str (PySem.Str.ofString "undone") 1607), (.str (PySem.Str.ofString "Keeper.undone") 1608), (.str (PySem.Str.ofString "/claim/cut.py") 1609), (.int (562) 0), (.int (1) 0), (.int (0) 0), (.int (0) 0), (.int (3) 0), (.ref 1107), (.bool true), (.int (181) 0), (.ref 1108), .none, (.ref 1109), (.ref 1110), (.ref 1111), (.int (1611) 0), (.int (562) 0), (.str (PySem.Str.ofString "/claim/cut.py") 1612)].toArray), [].toArray⟩) ::
   (nat_lit 1113, ⟨(.type "function"), none, (.func (PySem.W.fnOf (PySem.Str.ofString "undone") (PySem.Str.ofString "Keeper.undone") (defArgs sKeeper_undone) (defBody sKeeper_undone) (defScope sKeeper_undone) .none .none .none (.str (PySem.Str.ofString "suretexts.keeper") 1527) none (.ref 1112) .none)), [].toArray⟩) ::
   (nat_lit 1119, ⟨(.type "code"), none, (.fields [(.str (PySem.Str.ofString "redone") 1614), (.str (PySem.Str.ofString "Keeper.redone") 1615), (.str (PySem.Str.ofString "/claim/cut.py") 1616), (.int (568) 0), (.int (1) 0), (.int (0) 0), (.int (0) 0), (.int (3) 0), (.ref 1114), (.bool true), (.int (181) 0), (.ref 1115), .none, (.ref 1116), (.ref 1117), (.ref 1118), (.int (1618) 0), (.int (568) 0), (.str (PySem.Str.ofString "/claim/cut.py") 1619)].toArray), [].toArray⟩) ::
   (nat_lit 1120, ⟨(.type "function"), none, (.func (PySem.W.fnOf (PySem.Str.ofString "redone") (PySem.Str.ofString "Keeper.redone") (defArgs sKeeper_redone) (defBody sKeeper_redone) (defScope sKeeper_redone) .none .none .none (.str (PySem.Str.ofString "suretexts.keeper") 1527) none (.ref 1119) .none)), [].toArray⟩) ::
   (nat_lit 1126, ⟨(.type "code"), none, (.fields [(.str (PySem.Str.ofString "lot") 1621), (.str (PySem.Str.ofString "Keeper.lot") 1622), (.str (PySem.Str.ofString "/claim/cut.py") 1623), (.int (574) 0), (.int (1) 0), (.int (0) 0), (.int (0) 0), (.int (3) 0), (.ref 1121), (.bool true), (.int (181) 0), (.ref 1122), .none, (.ref 1123), (.ref 1124), (.ref 1125), (.int (1625) 0), (.int (574) 0), (.str (PySem.Str.ofString "/claim/cut.py") 1626)].toArray), [].toArray⟩) ::
   (nat_lit 1127, ⟨(.type "function"), none, (.func (PySem.W.fnOf (PySem.Str.ofString "lot") (PySem.Str.ofString "Keeper.lot") (defArgs sKeeper_lot) (defBody sKeeper_lot) (defScope sKeeper_lot) .none .none .none (.str (PySem.Str.ofString "suretexts.keeper") 1527) none (.ref 1126) .none)), [].toArray⟩) ::
   (nat_lit 1133, ⟨(.type "code"), none, (.fields [(.str (PySem.Str.ofString "solid") 1628), (.str (PySem.Str.ofString "Keeper.solid") 1629), (.str (PySem.Str.ofString "/claim/cut.py") 1630), (.int (577) 0), (.int (1) 0), (.int (0) 0), (.int (0) 0), (.int (3) 0), (.ref 1128), (.bool true), (.int (181) 0), (.ref 1129), .none, (.ref 1130), (.ref 1131), (.ref 1132), (.int (1632) 0), (.int (577) 0), (.str (PySem.Str.ofString "/claim/cut.py") 1633)].toArray), [].toArray⟩) ::
   (nat_lit 1134, ⟨(.type "function"), none, (.func (PySem.W.fnOf (PySem.Str.ofString "solid") (PySem.Str.ofString "Keeper.solid") (defArgs sKeeper_solid) (defBody sKeeper_solid) (defScope sKeeper_solid) .none .none .none (.str (PySem.Str.ofString "suretexts.keeper") 1527) none (.ref 1133) .none)), [].toArray⟩) ::
   (nat_lit 1140, ⟨(.type "code"), none, (.fields [(.str (PySem.Str.ofString "log") 1635), (.str (PySem.Str.ofString "Keeper.log") 1636), (.str (PySem.Str.ofString "/claim/cut.py") 1637), (.int (580) 0), (.int (1) 0), (.int (0) 0), (.int (0) 0), (.int (3) 0), (.ref 1135), (.bool true), (.int (181) 0), (.ref 1136), .none, (.ref 1137), (.ref 1138), (.ref 1139), (.int (1639) 0), (.int (580) 0), (.str (PySem.Str.ofString "/claim/cut.py") 1640)].toArray), [].toArray⟩) ::
   (nat_lit 1141, ⟨(.type "function"), none, (.func (PySem.W.fnOf (PySem.Str.ofString "log") (PySem.Str.ofString "Keeper.log") (defArgs sKeeper_log) (defBody sKeeper_log) (defScope sKeeper_log) .none .none .none (.str (PySem.Str.ofString "suretexts.keeper") 1527) none (.ref 1140) .none)), [].toArray⟩) ::
   (nat_lit 1164, ⟨(.type "code"), none, (.fields [(.str (PySem.Str.ofString "copy") 1663), (.str (PySem.Str.ofString "Keeper.copy") 1664), (.str (PySem.Str.ofString "/claim/cut.py") 1665), (.int (608) 0), (.int (1) 0), (.int (0) 0), (.int (0) 0), (.int (3) 0), (.ref 1161), (.bool true), (.int (181) 0), (.ref 1162), .none, .none, .none, (.ref 1163), (.int (1666) 0), (.int (608) 0), (.str (PySem.Str.ofString "/claim/cut.py") 1667)].toArray), [].toArray⟩) ::
   (nat_lit 1165, ⟨(.type "function"), none, (.func (PySem.W.fnOf (PySem.Str.ofString "copy") (PySem.Str.ofString "Keeper.copy") (defArgs sKeeper_copy) (defBody sKeeper_copy) (defScope sKeeper_copy) .none .none .none (.str (PySem.Str.ofString "suretexts.keeper") 1527) none (.ref 1164) .none)), [].toArray⟩) ::
   (nat_lit 1167, ⟨(.type "dict"), none, (.dict [⟨PyData.keyHash P (PySem.Str.ofString "__module__"), (.str (PySem.Str.ofString "__module__") 1544), (.str (PySem.Str.ofString "suretexts.keeper") 1527)⟩, ⟨PyData.keyHash P (PySem.Str.ofString "__firstlineno__"), (.str (PySem.Str.ofString "__firstlineno__") 1548), (.int (527) 1547)⟩, ⟨PyData.keyHash P (PySem.Str.ofString "__init__"), (.str (PySem.Str.ofString "__init__") 1557), (.ref 1063)⟩, ⟨PyData.keyHash P (PySem.Str.ofString "size"), (.str (PySem.Str.ofString "size") 1565), (.ref 1071)⟩, ⟨PyData.keyHash P (PySem.Str.ofString "least"), (.str (PySem.Str.ofString "least") 1572), (.ref 1078)⟩, ⟨PyData.keyHash P (PySem.Str.ofString "_now"), (.str (PySem.Str.ofString "_now") 1579), (.ref 1085)⟩, ⟨PyData.keyHash P (PySem.Str.ofString "_do"), (.str (PySem.Str.ofString "_do") 1588), (.ref 1092)⟩, ⟨PyData.keyHash P (PySem.Str.ofString "added"), (.str (PySem.Str.ofString "added") 1597), (.ref 1099)⟩, ⟨PyData.keyHash P (PySem.Str.ofString "taken"), (.str (PySem.Str.ofString "taken") 1606), (.ref 1106)⟩, ⟨PyData.keyHash P (PySem.Str.ofString "undone"), (.str (PySem.Str.ofString "undone") 1613), (.ref 1113)⟩, ⟨PyData.keyHash P (PySem.Str.ofString "redone"), (.str (PySem.Str.ofString "redone") 1620), (.ref 1120)⟩, ⟨PyData.keyHash P (PySem.Str.ofString "lot"), (.str (PySem.Str.ofString "lot") 1627), (.ref 1127)⟩, ⟨PyData.keyHash P (PySem.Str.ofString "solid"), (.str (PySem.Str.ofString "solid") 1634), (.ref 1134)⟩, ⟨PyData.keyHash P (PySem.Str.ofString "log"), (.str (PySem.Str.ofString "log") 1641), (.ref 1141)⟩, ⟨PyData.keyHash P (PySem.Str.ofString "clusters"), (.str (PySem.Str.ofString "clusters") 1649), (.ref 1148)⟩, ⟨PyData.keyHash P (PySem.Str.ofString "contigs"), (.str (PySem.Str.ofString "contigs") 1655), (.ref 1153)⟩, ⟨PyData.keyHash P (PySem.Str.ofString "reckoned"), (.str (PySem.Str.ofString "reckoned") 1662), (.ref 1160)⟩, ⟨PyData.keyHash P (PySem.Str.ofString "copy"), (.str (PySem.Str.ofString "copy") 1668), (.ref 1165)⟩, ⟨PyData.keyHash P (PySem.Str.ofString "__static_attributes__"), (.str (PySem.Str.ofString "__static_attributes__") 1676), (.ref 1166)⟩, ⟨PyData.keyHash P (PySem.Str.ofString "__dict__"), (.str (PySem.Str.ofString "__dict__") 1678), (.ref 1169)⟩, ⟨PyData.keyHash P (PySem.Str.ofString "__weakref__"), (.str (PySem.Str.ofString "__weakref__") 1680), (.ref 1170)⟩, ⟨PyData.keyHash P (PySem.Str.ofString "__doc__"), (.str (PySem.Str.ofString "__doc__") 1681), .none⟩].toArray 4), [].toArray⟩) ::
   (nat_lit 1168, ⟨(.type "type"), none, (.cls ⟨(PySem.Str.ofString "Keeper"), [(.type "object")], [(.ref 1168), (.type "object")], 1167, (PySem.Str.ofString "Keeper"), true, [], [], false, none, false⟩), [none, none, (some (.str (PySem.Str.ofString "Keeper") 1537)), (some (.str (PySem.Str.ofString "Keeper") 1545)), (some (.builtin "object.__new__")), (some (.bool true))].toArray⟩) ::
   (nat_lit 1178, ⟨(.type "code"), none, (.fields [(.str (PySem.Str.ofString "_law_pot") 1686), (.str (PySem.Str.ofString "_law_pot") 1687), (.str (PySem.Str.ofString "/claim/cut.py") 1688), (.int (617) 0), (.int (2) 0), (.int (0) 0), (.int (0) 0), (.int (3) 0), (.ref 1173), (.bool true), (.int (181) 0), (.ref 1174), .none, (.ref 1175), (.ref 1176), (.ref 1177), (.int (1693) 0), (.int (617) 0), (.str (PySem.Str.ofString "/claim/cut.py") 1694)].toArray), [].toArray⟩) ::
   (nat_lit 1179, ⟨(.type "function"), none, (.func (PySem.W.fnOf (PySem.Str.ofString "_law_pot") (PySem.Str.ofString "_law_pot") (defArgs s_law_pot) (defBody s_law_pot) (defScope s_law_pot) .none .none .none (.str (PySem.Str.ofString "law_suretexts_k81_whole_deeds_undone_and_red") 1684) none (.ref 1178) .none)), [].toArray⟩) ::
   (nat_lit 1185, ⟨(.type "code"), none, (.fields [(.str (PySem.Str.ofString "_law_draw") 1696), (.str (PySem.Str.ofString "_law_draw") 1697), (.str (PySem.Str.ofString "/claim/cut.py") 1698), (.int (621) 0), (.int (2) 0), (.int (0) 0), (.int (0) 0), (.int (3) 0), (.ref 1180), (.bool true), (.int (181) 0), (.ref 1181), .none, (.ref 1182), (.ref 1183), (.ref 1184), (.int (1702) 0), (.int (621) 0), (.str (PySem.Str.ofString "/claim/cut.py") 1703)].toArray), [].toArray⟩) ::
   (nat_lit 1186, ⟨(.type "function"), none, (.func (PySem.W.fnOf (PySem.Str.ofString "_law_draw") (PySem.Str.ofString "_law_draw") (defArgs s_law_draw) (defBody s_law_draw) (defScope s_law_draw) .none .none .none (.str (PySem.Str.ofString "law_suretexts_k81_whole_deeds_undone_and_red") 1684) none (.ref 1185) .none)), [].toArray⟩) ::
   (nat_lit 1192, ⟨(.type "code"), none, (.fields [(.str (PySem.Str.ofString "_law_pick") 1705), (.str (PySem.Str.ofString "_law_pick") 1706), (.str (PySem.Str.ofString "/claim/cut.py") 1707), (.int (627) 0), (.int (2) 0), (.int (0) 0), (.int (0) 0), (.int (3) 0), (.ref 1187), (.bool true), (.int (181) 0), (.ref 1188), .none, (.ref 1189), (.ref 1190), (.ref 1191), (.int (1710) 0), (.int (627) 0), (.str (PySem.Str.ofString "/claim/cut.py") 1711)].toArray), [].toArray⟩) ::
   (nat_lit 1193, ⟨(.type "function"), none, (.func (PySem.W.fnOf (PySem.Str.ofString "_law_pick") (PySem.Str.ofString "_law_pick") (defArgs s_law_pick) (defBody s_law_pick) (defScope s_law_pick) .none .none .none (.str (PySem.Str.ofString "law_suretexts_k81_whole_deeds_undone_and_red") 1684) none (.ref 1192) .none)), [].toArray⟩) ::
   (nat_lit 1199, ⟨(.type "code"), none, (.fields [(.str (PySem.Str.ofString "_law_pieces") 1713), (.str (PySem.Str.ofString "_law_pieces") 1714), (.str (PySem.Str.ofString "/claim/cut.py") 1715), (.int (629) 0), (.int (2) 0), (.int (0) 0), (.int (0) 0), (.int (3) 0), (.ref 1194), (.bool true), (.int (181) 0), (.ref 1195), .none, (.ref 1196), (.ref 1197), (.ref 1198), (.int (1722) 0), (.int (629) 0), (.str (PySem.Str.ofString "/claim/cut.py") 1723)].toArray), [].toArray⟩) ::
   (nat_lit 1200, ⟨(.type "function"), none, (.func (PySem.W.fnOf (PySem.Str.ofString "_law_pieces") (PySem.Str.ofString "_law_pieces") (defArgs s_law_pieces) (defBody s_law_pieces) (defScope s_law_pieces) .none .none .none (.str (PySem.Str.ofString "law_suretexts_k81_whole_deeds_undone_and_red") 1684) none (.ref 1199) .none)), [].toArray⟩) ::
   (nat_lit 1204, ⟨(.type "code"), none, (.fields [(.str (PySem.Str.ofString "_law_solid") 1725), (.str (PySem.Str.ofString "_law_solid") 1726), (.str (PySem.Str.ofString "/claim/cut.py") 1727), (.int (636) 0), (.int (3) 0), (.int (0) 0), (.int (0) 0), (.int (3) 0), (.ref 1201), (.bool true), (.int (181) 0), (.ref 1202), .none, .none, .none, (.ref 1203), (.int (1728) 0), (.int (636) 0), (.str (PySem.Str.ofString "/claim/cut.py") 1729)].toArray), [].toArray⟩) ::
   (nat_lit 1205, ⟨(.type "function"), none, (.func (PySem.W.fnOf (PySem.Str.ofString "_law_solid") (PySem.Str.ofString "_law_solid") (defArgs s_law_solid) (defBody s_law_solid) (defScope s_law_solid) .none .none .none (.str (PySem.Str.ofString "law_suretexts_k81_whole_deeds_undone_and_red") 1684) none (.ref 1204) .none)), [].toArray⟩) ::
   (nat_lit 1211, ⟨(.type "code"), none, (.fields [(.str (PySem.Str.ofString "_law_text") 1731), (.str (PySem.Str.ofString "_law_text") 1732), (.str (PySem.Str.ofString "/claim/cut.py") 1733), (.int (639) 0), (.int (1) 0), (.int (0) 0), (.int (0) 0), (.int (3) 0), (.ref 1206), (.bool true), (.int (181) 0), (.ref 1207), .none, (.ref 1208), (.ref 1209), (.ref 1210), (.int (1738) 0), (.int (639) 0), (.str (PySem.Str.ofString "/claim/cut.py") 1739)].toArray), [].toArray⟩) ::
   (nat_lit 1212, ⟨(.type "function"), none, (.func (PySem.W.fnOf (PySem.Str.ofString "_law_text") (PySem.Str.ofString "_law_text") (defArgs s_law_text) (defBody s_law_text) (defScope s_law_text) .none .none .none (.str (PySem.Str.ofString "law_suretexts_k81_whole_deeds_undone_and_red") 1684) none (.ref 1211) .none)), [].toArray⟩) ::
   (nat_lit 1218, ⟨(.type "code"), none, (.fields [(.str (PySem.Str.ofString "_law_deed_right") 1741), (.str (PySem.Str.ofString "_law_deed_right") 1742), (.str (PySem.Str.ofString "/claim/cut.py") 1743), (.int (644) 0), (.int (3) 0), (.int (0) 0), (.int (0) 0), (.int (3) 0), (.ref 1213), (.bool true), (.int (181) 0), (.ref 1214), .none, (.ref 1215), (.ref 1216), (.ref 1217), (.int (1753) 0), (.int (644) 0), (.str (PySem.Str.ofString "/claim/cut.py") 1754)].toArray), [].toArray⟩) ::
   (nat_lit 1219, ⟨(.type "function"), none, (.func (PySem.W.fnOf (PySem.Str.ofString "_law_deed_right") (PySem.Str.ofString "_law_deed_right") (defArgs s_law_deed_right) (defBody s_law_deed_right) (defScope s_law_deed_right) .none .none .none (.str (PySem.Str.ofString "law_suretexts_k81_whole_deeds_undone_and_red") 1684) none (.ref 1218) .none)), [].toArray⟩) ::
   (nat_lit 1225, ⟨(.type "code"), none, (.fields [(.str (PySem.Str.ofString "_law_is_as") 1756), (.str (PySem.Str.ofString "_law_is_as") 1757), (.str (PySem.Str.ofString "/claim/cut.py") 1758), (.int (677) 0), (.int (4) 0), (.int (0) 0), (.int (0) 0), (.int (3) 0), (.ref 1220), (.bool true), (.int (181) 0), (.ref 1221), .none, (.ref 1222), (.ref 1223), (.ref 1224), (.int (1766) 0), (.int (677) 0), (.str (PySem.Str.ofString "/claim/cut.py") 1767)].toArray), [].toArray⟩) ::
   (nat_lit 1226, ⟨(.type "function"), none, (.func (PySem.W.fnOf (PySem.Str.ofString "_law_is_as") (PySem.Str.ofString "_law_is_as") (defArgs s_law_is_as) (defBody s_law_is_as) (defScope s_law_is_as) .none .none .none (.str (PySem.Str.ofString "law_suretexts_k81_whole_deeds_undone_and_red") 1684) none (.ref 1225) .none)), [].toArray⟩) ::
   (nat_lit 1232, ⟨(.type "code"), none, (.fields [(.str (PySem.Str.ofString "_law_anew") 1769), (.str (PySem.Str.ofString "_law_anew") 1770), (.str (PySem.Str.ofString "/claim/cut.py") 1771), (.int (686) 0), (.int (3) 0), (.int (0) 0), (.int (0) 0), (.int (3) 0), (.ref 1227), (.bool true), (.int (181) 0), (.ref 1228), .none, (.ref 1229), (.ref 1230), (.ref 1231), (.int (1779) 0), (.int (686) 0), (.str (PySem.Str.ofString "/claim/cut.py") 1780)].toArray), [].toArray⟩) ::
   (nat_lit 1233, ⟨(.type "function"), none, (.func (PySem.W.fnOf (PySem.Str.ofString "_law_anew") (PySem.Str.ofString "_law_anew") (defArgs s_law_anew) (defBody s_law_anew) (defScope s_law_anew) .none .none .none (.str (PySem.Str.ofString "law_suretexts_k81_whole_deeds_undone_and_red") 1684) none (.ref 1232) .none)), [].toArray⟩) ::
   (nat_lit 1239, ⟨(.type "code"), none, (.fields [(.str (PySem.Str.ofString "_law_right") 1782), (.str (PySem.Str.ofString "_law_right") 1783), (.str (PySem.Str.ofString "/claim/cut.py") 1784), (.int (694) 0), (.int (1) 0), (.int (0) 0), (.int (0) 0), (.int (3) 0), (.ref 1234), (.bool true), (.int (181) 0), (.ref 1235), .none, (.ref 1236), (.ref 1237), (.ref 1238), (.int (1798) 0), (.int (694) 0), (.str (PySem.Str.ofString "/claim/cut.py") 1799)].toArray), [].toArray⟩) ::
   (nat_lit 1240, ⟨(.type "function"), none, (.func (PySem.W.fnOf (PySem.Str.ofString "_law_right") (PySem.Str.ofString "_law_right") (defArgs s_law_right) (defBody s_law_right) (defScope s_law_right) .none .none .none (.str (PySem.Str.ofString "law_suretexts_k81_whole_deeds_undone_and_red") 1684) none (.ref 1239) .none)), [].toArray⟩) ::
   (nat_lit 1246, ⟨(.type "code"), none, (.fields [(.str (PySem.Str.ofString "law") 1801), (.str (PySem.Str.ofString "law") 1802), (.str (PySem.Str.ofString "/claim/cut.py") 1803), (.int (719) 0), (.int (1) 0), (.int (0) 0), (.int (0) 0), (.int (3) 0), (.ref 1241), (.bool true), (.int (181) 0), (.ref 1242), .none, (.ref 1243), (.ref 1244), (.ref 1245), (.int (1805) 0), (.int (719) 0), (.str (PySem.Str.ofString "/claim/cut.py") 1806)].toArray), [].toArray⟩) ::
   (nat_lit 1247, ⟨(.type "function"), none, (.func (PySem.W.fnOf (PySem.Str.ofString "law") (PySem.Str.ofString "law") (defArgs slaw) (defBody slaw) (defScope slaw) .none .none .none (.str (PySem.Str.ofString "law_suretexts_k81_whole_deeds_undone_and_red") 1684) none (.ref 1246) .none)), [].toArray⟩) :: []
end My
open PySem PySem.W PyProof.Rows
set_option maxRecDepth 100000 in
set_option maxHeartbeats 0 in
theorem PySem.Challenge.cw_suretexts_k81_whole_deeds_undone_and_red_holds : PySem.Challenge.rw_suretexts_k81_whole_deeds_undone_and_red.Holds := by
  w_on; o_law; o_head (kHook My.fragK (nat_lit 2 :: nat_lit 3 :: nat_lit 443 :: nat_lit 444 :: nat_lit 450 :: nat_lit 451 :: nat_lit 457 :: nat_lit 458 :: nat_lit 471 :: nat_lit 472 :: nat_lit 478 :: nat_lit 479 :: nat_lit 485 :: nat_lit 486 :: nat_lit 492 :: nat_lit 493 :: nat_lit 678 :: nat_lit 679 :: nat_lit 692 :: nat_lit 693 :: nat_lit 737 :: nat_lit 738 :: nat_lit 744 :: nat_lit 745 :: nat_lit 927 :: nat_lit 928 :: nat_lit 934 :: nat_lit 935 :: nat_lit 948 :: nat_lit 949 :: nat_lit 955 :: nat_lit 956 :: nat_lit 962 :: nat_lit 963 :: nat_lit 964 :: nat_lit 970 :: nat_lit 971 :: nat_lit 977 :: nat_lit 978 :: nat_lit 984 :: nat_lit 985 :: nat_lit 989 :: nat_lit 990 :: nat_lit 992 :: nat_lit 993 :: nat_lit 1003 :: nat_lit 1004 :: nat_lit 1010 :: nat_lit 1011 :: nat_lit 1017 :: nat_lit 1018 :: nat_lit 1024 :: nat_lit 1025 :: nat_lit 1031 :: nat_lit 1032 :: nat_lit 1038 :: nat_lit 1039 :: nat_lit 1043 :: nat_lit 1044 :: nat_lit 1062 :: nat_lit 1063 :: nat_lit 1069 :: nat_lit 1070 :: nat_lit 1071 :: nat_lit 1077 :: nat_lit 1078 :: nat_lit 1084 :: nat_lit 1085 :: nat_lit 1091 :: nat_lit 1092 :: nat_lit 1098 :: nat_lit 1099 :: nat_lit 1105 :: nat_lit 1106 :: nat_lit 1112 :: nat_lit 1113 :: nat_lit 1119 :: nat_lit 1120 :: nat_lit 1126 :: nat_lit 1127 :: nat_lit 1133 :: nat_lit 1134 :: nat_lit 1140 :: nat_lit 1141 :: nat_lit 1164 :: nat_lit 1165 :: nat_lit 1167 :: nat_lit 1168 :: nat_lit 1178 :: nat_lit 1179 :: nat_lit 1185 :: nat_lit 1186 :: nat_lit 1192 :: nat_lit 1193 :: nat_lit 1199 :: nat_lit 1200 :: nat_lit 1204 :: nat_lit 1205 :: nat_lit 1211 :: nat_lit 1212 :: nat_lit 1218 :: nat_lit 1219 :: nat_lit 1225 :: nat_lit 1226 :: nat_lit 1232 :: nat_lit 1233 :: nat_lit 1239 :: nat_lit 1240 :: nat_lit 1246 :: nat_lit 1247 :: []) (fun _ => by kernel_rfl)); (case hw => w_witness2)
  k_fill
  refine My.walk (l := PySem.Challenge.rw_suretexts_k81_whole_deeds_undone_and_red) rfl rfl (fun w h Y => PySem.W.kIn_of Y) ?F
  case F =>
    intro w mg fa h KX G hmg
    refine' My.all_mk KX G hmg ?aC ?aC2 ?aM0 ?iM0 ?lM0 ?cM0 ?kM0 ?aM1 ?iM1 ?lM1 ?cM1 ?kM1 ?aM2 ?gM2 ?tM2 ?rM2 ?lM2 ?cM2 ?kM2 ?aM3 ?iM3 ?lM3 ?cM3 ?kM3 ?aM4 ?iM4 ?lM4 ?cM4 ?kM4 ?aM5 ?iM5 ?lM5 ?cM5 ?kM5 ?aM6 ?iM6 ?lM6 ?cM6 ?kM6 ?aM7 ?iM7 ?lM7 ?cM7 ?kM7 ?aM8 ?gM8 ?tM8 ?rM8 ?lM8 ?cM8 ?kM8 ?aM9 ?iM9 ?lM9 ?cM9 ?kM9 ?aM10 ?iM10 ?lM10 ?cM10 ?kM10 ?aM11 ?iM11 ?lM11 ?cM11 ?kM11 ?aM12 ?iM12 ?lM12 ?cM12 ?kM12 ?aM13 ?iM13 ?lM13 ?cM13 ?kM13 ?aM14 ?iM14 ?lM14 ?cM14 ?kM14 ?aM15 ?iM15 ?lM15 ?cM15 ?kM15 ?aM16 ?iM16 ?lM16 ?cM16 ?kM16 ?aM17 ?iM17 ?lM17 ?cM17 ?kM17 ?aM18 ?iM18 ?lM18 ?cM18 ?kM18 ?aM19 ?iM19 ?lM19 ?cM19 ?kM19 ?a0 ?l0 ?c0 ?k0 ?a1 ?l1 ?c1 ?k1 ?a2 ?l2 ?c2 ?k2 ?a3 ?l3 ?c3 ?k3 ?a4 ?l4 ?c4 ?k4 ?a5 ?l5 ?c5 ?k5 ?a6 ?l6 ?c6 ?k6 ?a7 ?l7 ?c7 ?k7 ?a8 ?l8 ?c8 ?k8 ?a9 ?l9 ?c9 ?k9 ?a10 ?l10 ?c10 ?k10 ?a11 ?l11 ?c11 ?k11 ?a12 ?l12 ?c12 ?k12 ?a13 ?l13 ?c13 ?k13 ?a14 ?l14 ?c14 ?k14 ?a15 ?l15 ?c15 ?k15 ?a16 ?l16 ?c16 ?k16 ?a17 ?l17 ?c17 ?k17 ?a18 ?l18 ?c18 ?k18 ?a19 ?l19 ?c19 ?k19 ?a20 ?l20 ?c20 ?k20 ?a21 ?l21 ?c21 ?k21 ?a22 ?l22 ?c22 ?k22 ?a23 ?l23 ?c23 ?k23 ?a24 ?l24 ?c24 ?k24 ?a25 ?l25 ?c25 ?k25 ?a26 ?l26 ?c26 ?k26 ?a27 ?l27 ?c27 ?k27 ?a28 ?l28 ?c28 ?k28 ?a29 ?l29 ?c29 ?k29 ?a30 ?l30 ?c30 ?k30 ?pgC ?hdC ?poC ?saC ?mkC ?kcC ?n0C ?n1C ?q1C ?q2C ?q3C ?q4C ?w1C ?w2C ?w3C ?w4C ?w5C ?pgC2 ?hdC2 ?poC2 ?saC2 ?mkC2 ?kcC2 ?n0C2 ?n1C2 ?n2C2 ?n3C2 ?n4C2 ?n5C2 ?n6C2 ?q1C2 ?q2C2 ?q3C2 ?q4C2 ?w1C2 ?z0 ?z1 ?z2 ?z3 ?z4 ?z5 ?z6 ?z7 ?z8 ?z9 ?z10 ?z11 ?z12 ?z13 ?z14 ?y0 ?y1 ?y2 ?y3
    (case aC => k_is)
    (case aC2 => k_is)
    (case aM0 => k_is)
    (case iM0 => k_is)
    (case lM0 => k_is)
    (case cM0 => k_is)
    (case kM0 => k_is)
    (case aM1 => k_is)
    (case iM1 => k_is)
    (case lM1 => k_is)
    (case cM1 => k_is)
    (case kM1 => k_is)
    (case aM2 => k_is)
    (case gM2 => k_is)
    (case tM2 => k_is)
    (case rM2 => k_is)
    (case lM2 => k_is)
    (case cM2 => k_is)
    (case kM2 => k_is)
    (case aM3 => k_is)
    (case iM3 => k_is)
    (case lM3 => k_is)
    (case cM3 => k_is)
    (case kM3 => k_is)
    (case aM4 => k_is)
    (case iM4 => k_is)
    (case lM4 => k_is)
    (case cM4 => k_is)
    (case kM4 => k_is)
    (case aM5 => k_is)
    (case iM5 => k_is)
    (case lM5 => k_is)
    (case cM5 => k_is)
    (case kM5 => k_is)
    (case aM6 => k_is)
    (case iM6 => k_is)
    (case lM6 => k_is)
    (case cM6 => k_is)
    (case kM6 => k_is)
    (case aM7 => k_is)
    (case iM7 => k_is)
    (case lM7 => k_is)
    (case cM7 => k_is)
    (case kM7 => k_is)
    (case aM8 => k_is)
    (case gM8 => k_is)
    (case tM8 => k_is)
    (case rM8 => k_is)
    (case lM8 => k_is)
    (case cM8 => k_is)
    (case kM8 => k_is)
    (case aM9 => k_is)
    (case iM9 => k_is)
    (case lM9 => k_is)
    (case cM9 => k_is)
    (case kM9 => k_is)
    (case aM10 => k_is)
    (case iM10 => k_is)
    (case lM10 => k_is)
    (case cM10 => k_is)
    (case kM10 => k_is)
    (case aM11 => k_is)
    (case iM11 => k_is)
    (case lM11 => k_is)
    (case cM11 => k_is)
    (case kM11 => k_is)
    (case aM12 => k_is)
    (case iM12 => k_is)
    (case lM12 => k_is)
    (case cM12 => k_is)
    (case kM12 => k_is)
    (case aM13 => k_is)
    (case iM13 => k_is)
    (case lM13 => k_is)
    (case cM13 => k_is)
    (case kM13 => k_is)
    (case aM14 => k_is)
    (case iM14 => k_is)
    (case lM14 => k_is)
    (case cM14 => k_is)
    (case kM14 => k_is)
    (case aM15 => k_is)
    (case iM15 => k_is)
    (case lM15 => k_is)
    (case cM15 => k_is)
    (case kM15 => k_is)
    (case aM16 => k_is)
    (case iM16 => k_is)
    (case lM16 => k_is)
    (case cM16 => k_is)
    (case kM16 => k_is)
    (case aM17 => k_is)
    (case iM17 => k_is)
    (case lM17 => k_is)
    (case cM17 => k_is)
    (case kM17 => k_is)
    (case aM18 => k_is)
    (case iM18 => k_is)
    (case lM18 => k_is)
    (case cM18 => k_is)
    (case kM18 => k_is)
    (case aM19 => k_is)
    (case iM19 => k_is)
    (case lM19 => k_is)
    (case cM19 => k_is)
    (case kM19 => k_is)
    (case a0 => k_is)
    (case l0 => k_is)
    (case c0 => k_is)
    (case k0 => k_is)
    (case a1 => k_is)
    (case l1 => k_is)
    (case c1 => k_is)
    (case k1 => k_is)
    (case a2 => k_is)
    (case l2 => k_is)
    (case c2 => k_is)
    (case k2 => k_is)
    (case a3 => k_is)
    (case l3 => k_is)
    (case c3 => k_is)
    (case k3 => k_is)
    (case a4 => k_is)
    (case l4 => k_is)
    (case c4 => k_is)
    (case k4 => k_is)
    (case a5 => k_is)
    (case l5 => k_is)
    (case c5 => k_is)
    (case k5 => k_is)
    (case a6 => k_is)
    (case l6 => k_is)
    (case c6 => k_is)
    (case k6 => k_is)
    (case a7 => k_is)
    (case l7 => k_is)
    (case c7 => k_is)
    (case k7 => k_is)
    (case a8 => k_is)
    (case l8 => k_is)
    (case c8 => k_is)
    (case k8 => k_is)
    (case a9 => k_is)
    (case l9 => k_is)
    (case c9 => k_is)
    (case k9 => k_is)
    (case a10 => k_is)
    (case l10 => k_is)
    (case c10 => k_is)
    (case k10 => k_is)
    (case a11 => k_is)
    (case l11 => k_is)
    (case c11 => k_is)
    (case k11 => k_is)
    (case a12 => k_is)
    (case l12 => k_is)
    (case c12 => k_is)
    (case k12 => k_is)
    (case a13 => k_is)
    (case l13 => k_is)
    (case c13 => k_is)
    (case k13 => k_is)
    (case a14 => k_is)
    (case l14 => k_is)
    (case c14 => k_is)
    (case k14 => k_is)
    (case a15 => k_is)
    (case l15 => k_is)
    (case c15 => k_is)
    (case k15 => k_is)
    (case a16 => k_is)
    (case l16 => k_is)
    (case c16 => k_is)
    (case k16 => k_is)
    (case a17 => k_is)
    (case l17 => k_is)
    (case c17 => k_is)
    (case k17 => k_is)
    (case a18 => k_is)
    (case l18 => k_is)
    (case c18 => k_is)
    (case k18 => k_is)
    (case a19 => k_is)
    (case l19 => k_is)
    (case c19 => k_is)
    (case k19 => k_is)
    (case a20 => k_is)
    (case l20 => k_is)
    (case c20 => k_is)
    (case k20 => k_is)
    (case a21 => k_is)
    (case l21 => k_is)
    (case c21 => k_is)
    (case k21 => k_is)
    (case a22 => k_is)
    (case l22 => k_is)
    (case c22 => k_is)
    (case k22 => k_is)
    (case a23 => k_is)
    (case l23 => k_is)
    (case c23 => k_is)
    (case k23 => k_is)
    (case a24 => k_is)
    (case l24 => k_is)
    (case c24 => k_is)
    (case k24 => k_is)
    (case a25 => k_is)
    (case l25 => k_is)
    (case c25 => k_is)
    (case k25 => k_is)
    (case a26 => k_is)
    (case l26 => k_is)
    (case c26 => k_is)
    (case k26 => k_is)
    (case a27 => k_is)
    (case l27 => k_is)
    (case c27 => k_is)
    (case k27 => k_is)
    (case a28 => k_is)
    (case l28 => k_is)
    (case c28 => k_is)
    (case k28 => k_is)
    (case a29 => k_is)
    (case l29 => k_is)
    (case c29 => k_is)
    (case k29 => k_is)
    (case a30 => k_is)
    (case l30 => k_is)
    (case c30 => k_is)
    (case k30 => k_is)
    (case pgC => k_is)
    (case hdC => k_is)
    (case poC => k_is)
    (case saC => k_is)
    (case mkC => k_is)
    (case kcC => k_is)
    (case n0C => k_is)
    (case n1C => k_is)
    (case q1C => k_is)
    (case q2C => k_is)
    (case q3C => k_is)
    (case q4C => k_is)
    (case w1C => k_is)
    (case w2C => k_is)
    (case w3C => k_is)
    (case w4C => k_is)
    (case w5C => k_is)
    (case pgC2 => k_is)
    (case hdC2 => k_is)
    (case poC2 => k_is)
    (case saC2 => k_is)
    (case mkC2 => k_is)
    (case kcC2 => k_is)
    (case n0C2 => k_is)
    (case n1C2 => k_is)
    (case n2C2 => k_is)
    (case n3C2 => k_is)
    (case n4C2 => k_is)
    (case n5C2 => k_is)
    (case n6C2 => k_is)
    (case q1C2 => k_is)
    (case q2C2 => k_is)
    (case q3C2 => k_is)
    (case q4C2 => k_is)
    (case w1C2 => k_is)
    (case z0 => k_is)
    (case z1 => k_is)
    (case z2 => k_is)
    (case z3 => k_is)
    (case z4 => k_is)
    (case z5 => k_is)
    (case z6 => k_is)
    (case z7 => k_is)
    (case z8 => k_is)
    (case z9 => k_is)
    (case z10 => k_is)
    (case z11 => k_is)
    (case z12 => k_is)
    (case z13 => k_is)
    (case z14 => k_is)
    (case y0 => k_is)
    (case y1 => k_is)
    (case y2 => k_is)
    (case y3 => k_is)
